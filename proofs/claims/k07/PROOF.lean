import PyProof.Rows.All
import Wide.All
import OpenK.AllK
import Wide.FinOn
import HandS.ForMost
import HandS.OwnEq
import HandS.SlotsOwn
import KE.KOpsOwn
import PyProof.ListMulAny
import PyProof.ConsumeWalk
import PyProof.WalksMore
import HandS.IsInst
import HandS.Wide
import HandS.Zip
import HandS.Defaults
import HandS.Walk
import KE.BitLaws
import HandS.Style
import PySem.Challenge.RW_turnsleft_k07_whole_wedges_add
set_option Elab.async false
set_option linter.all false
set_option maxRecDepth 100000
namespace TL
open PySem PySem.Spec PyProof.Rows L2
section
variable {X : Cx} {pins : List (Addr × Obj)} {σ : L2.St} {H : Hp} {s : Shared} {a b C dx dy f : Addr} {fs gs : List (Str × V)} {k : Nat} {fd : FuncData} {ps : List Str} {sp : Sp} {CX : CXT} {E : XK}
theorem inst_at (I : Inv X pins σ H s) (h : H a = some (.ins C dx fs)) : ∃ od, PySem.W.InstAt s.heap a (PySem.W.instObj C dx) C (some od) := by
  obtain ⟨mA, J, _⟩ := ins_get I.hok h
  obtain ⟨od, J, _⟩ := J.look
  exact ⟨od, J⟩
/-- what an own operator's def asks: the def that stands at f in the class at C under a name -/
structure OpAt (K : PySem.W.Frag) (C f : Addr) (name : Str) : Prop where
  sf : PySem.W.selfFirst K C = true
  at_ : PySem.W.findIn K (.ref C) name = some (some (.ref f))
  fn : PySem.W.isFn K (.ref f) = true
/-- x op y, both instances of the class at C -/
def rOw (C : Addr) (sp : Sp) (E : XK) : R2 := fun x y H Q => ∃ a dx fs b dy gs, x = .ref a ∧ y = .ref b ∧ H a = some (.ins C dx fs) ∧ H b = some (.ins C dy gs) ∧ sp [x, y] H Q E
theorem cb {P : Value → Shared → Prop} {z : V} {v : Value} {s' : Shared} (r : RelV z v) (h : P v s') : PySem.W.CmpBack P v s' := by
  cases z with
  | non => cases (show v = Value.none from r); exact h
  | bl b => cases (show v = Value.bool b from r); exact h
  | int i => obtain ⟨t, e⟩ := (show ∃ t, v = Value.int i t from r); cases e; exact h
  | str x => obtain ⟨t, e⟩ := (show ∃ t, v = Value.str x t from r); cases e; exact h
  | byt b => obtain ⟨t, e⟩ := (show ∃ t, v = Value.bytes b t from r); cases e; exact h
  | flt b => obtain ⟨t, e⟩ := (show ∃ t, v = Value.float b t from r); cases e; exact h
  | ref a => cases (show v = Value.ref a from r); exact h
  | ty n => cases (show v = Value.type n from r); exact h
theorem op_ow {op : Operator} (o : OpAt X.K C f (PySem.dunder op.info.2)) (F : FnOk X.prog X.w X.K X.mg X.base CX k f fd ps sp) (hr : Room k X.A) (hb : Binds X.K fd ps []) (hx : Passes CX X E) : OpR X (binaryOp op) (rOw C sp E) := by
  intro pins s σ H x y v u Q I rx ry h
  obtain ⟨a, dx, fs, b, dy, gs, rfl, rfl, ha, hb', q⟩ := h
  cases (show v = Value.ref a from rx)
  cases (show u = Value.ref b from ry)
  obtain ⟨od, J⟩ := inst_at I ha
  obtain ⟨od', J'⟩ := inst_at I hb'
  obtain ⟨m, hF⟩ := I.fr
  refine PySem.W.binop_K hF I.ok.mod.kin J J'.type o.sf o.at_ o.fn ?_
  refine wpAny_mono (run_fn (us := [.ref a, .ref b]) (vs := [.ref a, .ref b]) F hr hb .nil hx I (.cons rfl (.cons rfl .nil)) q) (fun w s' z => ?_) fun _ _ x => x
  obtain ⟨z', H', I', rz, qz⟩ := z
  exact cb rz ⟨z', H', I', rz, qz⟩
/-- x op n, x an instance of the class at C, n a whole number -/
def rOwI (C : Addr) (sp : Sp) (E : XK) : R2 := fun x y H Q => ∃ a dx fs n, x = .ref a ∧ y = .int n ∧ H a = some (.ins C dx fs) ∧ sp [x, y] H Q E
theorem op_owI {op : Operator} {g : Addr} {fo ro : Option Value} (o : OpAt X.K C f (PySem.dunder op.info.2)) (hr1 : PySem.W.findIn X.K (.ref C) (PySem.dunderR op.info.2) = some (some (.ref g)))
    (h1 : PySem.W.findIn X.K (.type "int") (PySem.dunder op.info.2) = some fo) (h2 : PySem.W.findIn X.K (.type "int") (PySem.dunderR op.info.2) = some ro) (hsub : PySem.W.subIn X.K (.type "int") (.ref C) = some false)
    (F : FnOk X.prog X.w X.K X.mg X.base CX k f fd ps sp) (hr : Room k X.A) (hb : Binds X.K fd ps []) (hx : Passes CX X E) : OpR X (binaryOp op) (rOwI C sp E) := by
  intro pins s σ H x y v u Q I rx ry h
  obtain ⟨a, dx, fs, n, rfl, rfl, ha, q⟩ := h
  cases (show v = Value.ref a from rx)
  obtain ⟨t, rfl⟩ := (show ∃ t, u = Value.int n t from ry)
  obtain ⟨od, J⟩ := inst_at I ha
  obtain ⟨m, hF⟩ := I.fr
  refine PySem.W.ksp_binT (T := "int") hF I.ok.mod.kin J rfl o.sf o.at_ o.fn hr1 (.inr ⟨_, rfl⟩) h1 h2 hsub ?_
  refine wpAny_mono (run_fn (us := [.ref a, .int n t]) (vs := [.ref a, .int n]) F hr hb .nil hx I (.cons rfl (.cons ⟨_, rfl⟩ .nil)) q) (fun w s' z => ?_) fun _ _ x => x
  obtain ⟨z', H', I', rz, qz⟩ := z
  exact cb rz ⟨z', H', I', rz, qz⟩
/-- -x -/
def rNeg (C : Addr) (sp : Sp) (E : XK) : V → Hp → VK → Prop := fun x H Q => ∃ a dx fs, x = .ref a ∧ H a = some (.ins C dx fs) ∧ sp [x] H Q E
theorem un_ow (at_ : PySem.W.findIn X.K (.ref C) "__neg__" = some (some (.ref f))) (fn : PySem.W.isFn X.K (.ref f) = true) (F : FnOk X.prog X.w X.K X.mg X.base CX k f fd ps sp) (hr : Room k X.A) (hb : Binds X.K fd ps []) (hx : Passes CX X E) :
    UnR X (unaryOp .USub) (rNeg C sp E) := by
  intro pins s σ H x v Q I rx h
  obtain ⟨a, dx, fs, rfl, ha, q⟩ := h
  cases (show v = Value.ref a from rx)
  obtain ⟨od, J⟩ := inst_at I ha
  obtain ⟨m, hF⟩ := I.fr
  refine PySem.W.ksp_neg hF I.ok.mod.kin J at_ fn ?_
  exact run_fn (us := [.ref a]) (vs := [.ref a]) F hr hb .nil hx I (.cons rfl .nil) q
/-- x == y, both instances of the class at C -/
theorem op_owEq (at_ : PySem.W.findIn X.K (.ref C) "__eq__" = some (some (.ref f))) (fn : PySem.W.isFn X.K (.ref f) = true) (F : FnOk X.prog X.w X.K X.mg X.base CX k f fd ps sp) (hr : Room k X.A) (hb : Binds X.K fd ps []) (hx : Passes CX X E) :
    OpR X (compareOp .Eq) (rOw C sp E) := by
  intro pins s σ H x y v u Q I rx ry h
  obtain ⟨a, dx, fs, b, dy, gs, rfl, rfl, ha, hb', q⟩ := h
  cases (show v = Value.ref a from rx)
  cases (show u = Value.ref b from ry)
  obtain ⟨od, J⟩ := inst_at I ha
  obtain ⟨od', J'⟩ := inst_at I hb'
  obtain ⟨m, hF⟩ := I.fr
  refine PySem.W.cmp_K (op := .Eq) (tb := .ref C) hr.units0 hF I.ok.mod.kin J J'.type (by simp [PySem.W.notFirst]) at_ fn ?_
  refine wpAny_mono (run_fn (us := [.ref a, .ref b]) (vs := [.ref a, .ref b]) F hr hb .nil hx I (.cons rfl (.cons rfl .nil)) q) (fun w s' z => ?_) fun _ _ x => x
  obtain ⟨z', H', I', rz, qz⟩ := z
  exact cb rz ⟨z', H', I', rz, qz⟩
/-- any(t), t a tuple of whole numbers -/
theorem iter_anyT {prog : Program} {w : World} {A : Around} {E : Value → Shared → Prop} {s : Shared} {l : Addr} {items : Array Value} {Q : Value → Shared → Prop} (hl : s.heap.IsTuple l items)
    (h : ∀ s₂ : Shared, s₂ = { s with heap := s.heap.push { cls := .type "tuple_iterator", data := .fields #[.ref l, .int 0 0] } } →
      (s₂.heap.IsTupleIter s.heap.objs.size l 0 ∧ s₂.heap.IsTuple l items) → l ≠ s.heap.objs.size → Q (.ref s.heap.objs.size) s₂) : wpAny (model prog w) A (pyIter (.ref l)) Q E s := by
  have hlt : l < s.heap.objs.size := by obtain ⟨_, e, _⟩ := hl; exact Heap.lt_size e
  exact wpAny_pyIter_tuple hl (h _ rfl ⟨⟨_, Heap.get?_push_size _ rfl, rfl, rfl⟩, hl.push _⟩ (Nat.ne_of_lt hlt))
theorem truth_ints {prog : Program} {w : World} {A : Around} {ns : List Int} {its : List Value} (e : Vals (ns.map V.int) its) :
    TruthOf prog w A (fun i v => its.toArray[i]? = some v) (fun i => ns.getD i 0 != 0) := fun i v s Q E hv hq => by
  have hv' : its[i]? = some v := by simpa using hv
  have hl := e.length
  rw [List.length_map] at hl
  have hi : i < its.length := (List.getElem?_eq_some_iff.mp hv').1
  have hi2 : i < ns.length := by omega
  obtain ⟨u, hu, ru⟩ := e.get (i := i) (x := V.int ns[i]) (by rw [List.getElem?_map, List.getElem?_eq_getElem hi2]; rfl)
  rw [hv'] at hu
  cases hu
  obtain ⟨t, rfl⟩ := ru
  have hg : ns.getD i 0 = ns[i] := by rw [List.getD_eq_getElem?_getD, List.getElem?_eq_getElem hi2]; rfl
  have hq' : Q (ns.getD i 0 != 0) s := hq
  rw [hg] at hq'
  exact PyProof.Rows.truthy_int hq'
theorem any_rangeI : ∀ ns : List Int, (List.range ns.length).any (fun i => ns.getD i 0 != 0) = ns.any (fun n => n != 0)
  | [] => rfl
  | b :: bs => by
    rw [List.length_cons, List.range_succ_eq_map, List.any_cons, List.any_map, List.any_cons, ← any_rangeI bs]
    all_goals rfl
def rAnyT (K : PySem.W.Frag) : List V → Hp → VK → Prop := fun vs H Q => ∃ (a : Addr) (ns : List Int), vs = [V.ref a] ∧ SqT K H a (ns.map V.int) ∧ Q (.bl (ns.any fun n => n != 0)) H
theorem cr_anyT (hc : X.calm = true) : CallR X (.builtin "any") (rAnyT X.K) := by
  intro pins s σ H vs us Q I r h
  obtain ⟨a, ns, rfl, hs, q⟩ := h
  obtain ⟨its, rv, hl, _⟩ := I.tuple hs
  rw [Vals.ref1 r]
  have hlen := rv.length
  rw [List.length_map] at hlen
  refine call_any_walk (iter_anyT (items := its.toArray) (show s.heap.IsTuple a its.toArray from hl) fun s₂ e2 st hne => ?_)
  subst e2
  refine ⟨_, _, _, _, _, _, _, rfl, Walks.tuple (A := X.A.in1) (I.ok.hd hc) _ a hne its.toArray, st, truth_ints rv, fun h' tk hk => ?_⟩
  refine ⟨.bl _, H, I.kept fun b o eo => hk b o (fun hmem => ?_) (Heap.get?_push_of_some _ eo), ?_, q⟩
  · rcases List.mem_cons.mp hmem with e1 | hmem
    · exact absurd (e1 ▸ Heap.lt_size eo) (Nat.lt_irrefl _)
    · cases hmem
  · show Value.bool _ = Value.bool _
    rw [← any_rangeI, List.size_toArray, ← hlen]
/-- bool(x), x an instance with its own __bool__ -/
theorem truthy_X {M : Model} {A : Around} {E' : Value → Shared → Prop} {s : Shared} {K : PySem.W.Frag} {x C f : Addr} {ox : Obj} {od : Option Obj} {Q : Bool → Shared → Prop} (X₀ : K.In s.heap) (I : PySem.W.InstAt s.heap x ox C od) (hs : PySem.W.findIn K (.ref C) "__bool__" = some (some (.ref f))) (hf : PySem.W.isFn K (.ref f) = true)
    (h : wpAny M A (call (.ref f) [.ref x]) (fun r s' => ∃ b, r = Value.bool b ∧ Q b s') E' s) : wpAny M A (truthy (.ref x)) Q E' s := by
  unfold truthy
  refine wpAny_bind (m := callSpecial? (.ref x) (Str.ofString "__bool__")) (PySem.W.special_fn X₀ I hs (beq_iff_eq.mp hf) (wpAny_mono h (fun r s' hr => ?_) fun _ _ y => y))
  obtain ⟨b, rfl, hr⟩ := hr
  exact wpAny_pure hr
theorem bool_own {prog : Program} {w : World} {A : Around} {E' : Value → Shared → Prop} {s : Shared} {K : PySem.W.Frag} {x C f : Addr} {ox : Obj} {od : Option Obj} {Q : Value → Shared → Prop} (X₀ : K.In s.heap) (I : PySem.W.InstAt s.heap x ox C od) (hs : PySem.W.findIn K (.ref C) "__bool__" = some (some (.ref f))) (hf : PySem.W.isFn K (.ref f) = true)
    (h : wpAny (model prog w) A.in1.in1 (call (.ref f) [.ref x]) (fun r s' => ∃ b, r = Value.bool b ∧ Q r s') E' s) : wpAny (model prog w) A (call (.type "bool") [.ref x]) Q E' s := by
  refine callType_codes (T := "bool") (Bi := Builtin.«object.__init__») (Q₁ := fun r s₁ => ∃ b, r = Value.bool b ∧ Q r s₁) PySem.F.called_bool (PySem.F.typeCall_bool_1 _) PySem.F.entry_object_init ?_ ?_
  · refine codeAny_of_tree ?_
    show wpAny _ A.in1.in1 (do checkBuiltinCall "bool.__new__" ⟨[.type "bool", .ref x], []⟩; again (.builtin "bool.__new__" ⟨[.type "bool", .ref x], []⟩)) _ _ s
    refine wpAny_bind (wpAny_of_eq (PySem.F.newCall_bool_1 _) (wpAny_pure ⟨plainId_quiet (by decide +kernel) _, codeAny_builtin PySem.F.entry_bool_new ?_⟩))
    rw [Around.under_plainId (by decide +kernel) _]
    unfold Builtin.«bool.__new__»
    refine wpAny_bind (wpAny_of_eq (a := true) rfl ?_)
    refine PySem.W.KFB.if_not rfl ?_
    refine wpAny_bind (wpAny_of_eq (a := true) PySem.F.conv_sub_bool ?_)
    refine PySem.W.KFB.if_not rfl ?_
    refine wpAny_bind (wpAny_of_eq (a := [Value.ref x]) rfl ?_)
    refine wpAny_bind (truthy_X X₀ I hs hf (wpAny_mono h (fun r s₁ hr => ?_) fun _ _ y => y))
    obtain ⟨b, rfl, hq⟩ := hr
    exact ⟨b, rfl, wpAny_pure ⟨b, rfl, hq⟩⟩
  · rintro obj s₁ ⟨b, rfl, hq⟩
    exact ⟨PySem.typeIs_bool _ _, PySem.F.args_object_init_2 _ _, object_init_meets PySem.F.called_bool.init.lookup PySem.F.called_bool.made (by decide) prog w A.in1 _ s₁ ⟨PySem.typeIs_bool _ _, rfl, hq⟩⟩
def rBoolOw (C : Addr) (sp : Sp) (E : XK) : List V → Hp → VK → Prop := fun vs H Q => ∃ a dx fs, vs = [.ref a] ∧ H a = some (.ins C dx fs) ∧ sp [.ref a] H (fun v H' => ∃ b, v = .bl b ∧ Q v H') E
theorem run_at2 {A : Around} {Q : VK} {us : List Value} {ws : List V} (F : FnOk X.prog X.w X.K X.mg X.base CX k f fd ps sp) (hr : Room k A) (e0 : Env0 X.prog X.w X.K X.mg X.base A X.stack s H) (hb : Binds X.K fd ps []) (hx : Passes CX X E) (I : Inv X pins σ H s) (r : Vals ws us) (h : sp ws H Q E) :
    wpAny (model X.prog X.w) A (call (.ref f) us) (EP X pins σ Q) X.xe s := by
  have hl : us.length = ps.length := by rw [← r.length]; exact F.len _ _ _ _ h
  refine wpAny_call (codeAny_mono (F.run A X.stack s H ⟨us, []⟩ us ws Q E hr e0 (by have := hb s us I.kIn (by simpa using hl); simpa using this) r h) fun r s' hq => ?_)
  cases r with
  | error e => exact hx pins σ H s e s' I hq
  | ok fl =>
    cases fl with
    | ret u => exact I.after hq
    | next => exact False.elim hq
    | brk => exact False.elim hq
    | cont => exact False.elim hq
theorem call_boolOw (at_ : PySem.W.findIn X.K (.ref C) "__bool__" = some (some (.ref f))) (fn : PySem.W.isFn X.K (.ref f) = true) (F : FnOk X.prog X.w X.K X.mg X.base CX k f fd ps sp) (hr : Room (k + 2) X.A) (hb : Binds X.K fd ps []) (hx : Passes CX X E) :
    CallR X (.type "bool") (rBoolOw C sp E) := by
  intro pins s σ H vs us Q I r h
  obtain ⟨a, dx, fs, rfl, ha, q⟩ := h
  obtain rfl := Vals.ref1 r
  obtain ⟨od, J⟩ := inst_at I ha
  have hr2 : Room k X.A.in1.in1 := (show Room (k + 1) X.A.in1 from Room.in1 hr).in1
  refine bool_own I.kIn J at_ fn (wpAny_mono (run_at2 (us := [.ref a]) (ws := [.ref a]) F hr2 I.env0.in1.in1 hb hx I (.cons rfl .nil) q) (fun w s' z => ?_) fun _ _ x => x)
  obtain ⟨z', H', I', rz, b, rfl, qz⟩ := z
  cases (show w = Value.bool b from rz)
  exact ⟨b, rfl, .bl b, H', I', rfl, qz⟩
/-- n op x, n a whole number, x an instance of the class at C with the reflected def -/
theorem int_mul_ref (a : Int) (t : Tok) (x C dx : Addr) :
    Meets (Builtin.«int.__mul__» ⟨[.int a t, .ref x], []⟩) (fun _ R s => (∃ od, s.heap.get? x = some (PySem.W.instObj C dx) ∧ od = dx) ∧ R (.ok (.ret Value.notImplemented)) s) :=
  .of_wp fun prog w A R s h => by obtain ⟨hp, g, d, tk, os⟩ := s; obtain ⟨⟨_, hl, _⟩, h⟩ := h; wp_walk; exact ⟨_, rfl, h⟩
def rIOw (C : Addr) (sp : Sp) (E : XK) : R2 := fun x y H Q => ∃ a dx fs n, x = .int n ∧ y = .ref a ∧ H a = some (.ins C dx fs) ∧ sp [y, x] H Q E
set_option maxHeartbeats 2000000 in
theorem binR {prog : Program} {w : World} {A : Around} {E' : Value → Shared → Prop} {s : Shared} {K : PySem.W.Frag} {x C f g : Addr} {dx : Addr} {od : Option Obj} {n : Int} {t : Tok} {Q : Value → Shared → Prop}
    (X : K.In s.heap) (I : PySem.W.InstAt s.heap x (PySem.W.instObj C dx) C od) (hc : PySem.W.selfFirst K C = true) (hs : PySem.W.findIn K (.ref C) (PySem.dunder "mul") = some (some (.ref g)))
    (hr : PySem.W.findIn K (.ref C) (PySem.dunderR "mul") = some (some (.ref f))) (hf : PySem.W.isFn K (.ref f) = true) (hsub : PySem.W.subIn K (.ref C) (.type "int") = some false) (hx : s.heap.get? x = some (PySem.W.instObj C dx))
    (h : wpAny (model prog w) A (call (.ref f) [.ref x, .int n t]) (PySem.W.CmpBack Q) E' s) : wpAny (model prog w) A (binaryOp .Mult (.int n t) (.ref x)) Q E' s := by
  obtain ⟨cd, rest, hcd, hm⟩ := PySem.W.ksp_first hc
  have one := PySem.W.ksp_try (name := PySem.dunderR "mul") X I hr hf h
  obtain ⟨hh, gg, d, tt, os⟩ := s
  have L1 : PySem.W.Looks (model prog w) hh (typeOf (.ref x)) (.ref C) := I.type
  have L2 : PySem.W.Looks (model prog w) hh (typeOf (.int n t)) (.type "int") := PySem.W.Looks.of_pure rfl
  have L3 : PySem.W.Looks (model prog w) hh (fillsNumberSlot (.ref C) "mul") true := PySem.W.fills_K (nm := "mul") X hcd hm hs
  have L4 : PySem.W.Looks (model prog w) hh (fillsNumberSlot (.type "int") "mul") true := PySem.W.Looks.of_pure PySem.F.fills_int_mul
  have L5 : PySem.W.Looks (model prog w) hh (isSubtype (.ref C) (.type "int")) false := PySem.W.looks_subIn X hsub
  have L7 : PySem.W.Looks (model prog w) hh (numberSlotInPython (.type "int") "mul") false := PySem.W.Looks.of_pure rfl
  have hne : (Value.type "int" == Value.ref C) = false := Bool.eq_false_iff.mpr fun q => by cases beq_iff_eq.mp q
  show wpAny _ _ (binaryOp .Mult (.int n t) (.ref x)) _ _ _
  simp only [binaryOp, Operator.info]
  refine wpAny_holding (wpAny_bind ?_)
  unfold binaryOp1
  refine wpAny_bind (L2.at (wpAny_bind (L1.at (wpAny_bind (L4.at ?_)))))
  simp only [hne, Bool.false_eq_true, if_false]
  refine wpAny_bind (L3.at ?_)
  simp only [Bool.and_self, if_true]
  refine wpAny_bind (L5.at ?_)
  simp only [Bool.false_eq_true, if_false, Bool.not_false, Bool.and_self, if_true, pure_bind]
  refine wpAny_bind (L7.at ?_)
  simp only [Bool.false_eq_true, if_false, pure_bind]
  refine wpAny_bind (wpAny_tryMethod_declines (PySem.typeIs_int _ n t) PySem.F.slot_int_mul (call_meets PySem.F.slot_int_mul (PySem.typeIs_int _ n t) PySem.F.entry_int_mul (PySem.F.args_int_mul_2 _ _) (int_mul_ref n t x C dx) ⟨⟨dx, hx, rfl⟩, rfl, ?_⟩))
  simp only [Bool.false_eq_true, if_false, pure_bind]
  refine wpAny_bind (wpAny_mono one (fun r s' hr' => ?_) fun _ _ e => e)
  obtain ⟨v, rfl, hq⟩ := hr'
  exact wpAny_bind (wpAny_rule (wpAny_pure (wpAny_pure hq)))
theorem op_IOw (o : OpAt X.K C f (PySem.dunderR "mul")) {g : Addr} (hm : PySem.W.findIn X.K (.ref C) (PySem.dunder "mul") = some (some (.ref g))) (hsub : PySem.W.subIn X.K (.ref C) (.type "int") = some false)
    (F : FnOk X.prog X.w X.K X.mg X.base CX k f fd ps sp) (hr : Room k X.A) (hb : Binds X.K fd ps []) (hx : Passes CX X E) : OpR X (binaryOp .Mult) (rIOw C sp E) := by
  intro pins s σ H x y v u Q I rx ry h
  obtain ⟨a, dx, fs, n, rfl, rfl, ha, q⟩ := h
  obtain ⟨t, rfl⟩ := (show ∃ t, v = Value.int n t from rx)
  cases (show u = Value.ref a from ry)
  obtain ⟨mA, O, _⟩ := ins_get I.hok ha
  obtain ⟨od, J, _⟩ := O.look
  refine binR I.kIn J o.sf hm o.at_ o.fn hsub O.obj ?_
  refine wpAny_mono (run_fn (us := [.ref a, .int n t]) (vs := [.ref a, .int n]) F hr hb .nil hx I (.cons rfl (.cons ⟨_, rfl⟩ .nil)) q) (fun w s' z => ?_) fun _ _ x => x
  obtain ⟨z', H', I', rz, qz⟩ := z
  exact cb rz ⟨z', H', I', rz, qz⟩
end
theorem d_add : PySem.dunder Operator.Add.info.2 = ("__add__" : Str) := by decide +kernel
theorem d_sub : PySem.dunder Operator.Sub.info.2 = ("__sub__" : Str) := by decide +kernel
theorem d_mul : PySem.dunder Operator.Mult.info.2 = ("__mul__" : Str) := by decide +kernel
theorem d_mul' : PySem.dunder "mul" = ("__mul__" : Str) := by decide +kernel
theorem d_rmul : PySem.dunderR Operator.Mult.info.2 = ("__rmul__" : Str) := by decide +kernel
theorem d_rmul' : PySem.dunderR "mul" = ("__rmul__" : Str) := by decide +kernel
end TL
namespace TL
open PySem L2
/-! ### heaps -/
theorem Same.new {H : Hp} {p : Addr} {o : HO} (h : H p = none) : Same H (upd H p o) := fun b u q => by rw [upd_ne (ne_of_none q h)]; exact q
theorem seqT {K : PySem.W.Frag} {H H' : Hp} {a : Addr} {xs : List V} (e : Same H H') (h : SqT K H a xs) : SqT K H' a xs := by
  rcases h with (h | ⟨o, h⟩) | h
  · exact .inl (.inl (e _ _ h))
  · exact .inl (.inr ⟨o, e _ _ h⟩)
  · exact .inr h
/-- but for what stands at g, all that was tracked is as it was -/
def Kb (g : Addr) (H H' : Hp) : Prop := ∀ a o, H a = some o → a ≠ g → H' a = some o
theorem Kb.refl (g : Addr) (H : Hp) : Kb g H H := fun _ _ h _ => h
theorem Kb.trans {g : Addr} {H H1 H2 : Hp} (a : Kb g H H1) (b : Kb g H1 H2) : Kb g H H2 := fun c o h n => b c o (a c o h n) n
theorem Kb.same {g : Addr} {H H' : Hp} (a : Same H H') : Kb g H H' := fun c o h _ => a c o h
theorem Kb.at {g : Addr} {H : Hp} {o : HO} : Kb g H (upd H g o) := fun c u h n => by rw [upd_ne n]; exact h
theorem Kb.new {g p : Addr} {H H' : Hp} {o : HO} (a : Kb g H H') (h : H' p = none) : Kb g H (upd H' p o) := a.trans (Kb.same (Same.new h))
theorem tyx_L {K : PySem.W.Frag} {H : Hp} {a : Addr} {xs : List V} (h : SqL K H a xs) : TyX K H (.ref a) (.type "list") := by
  rcases h with (h | ⟨o, h⟩) | ⟨o, its, n, h, c, _⟩
  · exact .base (.lst h)
  · exact .base (.frz h)
  · exact .kList h c
theorem tyx_T {K : PySem.W.Frag} {H : Hp} {a : Addr} {xs : List V} (h : SqT K H a xs) : TyX K H (.ref a) (.type "tuple") := by
  rcases h with (h | ⟨o, h⟩) | ⟨o, its, n, h, c, _⟩
  · exact .base (.tup h)
  · exact .fTuple h
  · exact .kTuple h c
theorem fm {i j : Int} (h : 0 < j) : 0 ≤ i.fmod j ∧ i.fmod j < j := ⟨Int.fmod_nonneg_of_pos _ h, Int.fmod_lt_of_pos _ h⟩
theorem kt_int_list {K : PySem.W.Frag} : PySem.W.kitOne K (.type "int") (.type "list") = some false := kit_ty (by decide +kernel)
theorem kt_int_tuple {K : PySem.W.Frag} : PySem.W.kitOne K (.type "int") (.type "tuple") = some false := kit_ty (by decide +kernel)
theorem kt_int_bool {K : PySem.W.Frag} : PySem.W.kitOne K (.type "int") (.type "bool") = some false := kit_ty (by decide +kernel)
theorem kt_int_int {K : PySem.W.Frag} : PySem.W.kitOne K (.type "int") (.type "int") = some true := kit_ty (by decide +kernel)
theorem kt_int_str {K : PySem.W.Frag} : PySem.W.kitOne K (.type "int") (.type "str") = some false := kit_ty (by decide +kernel)
theorem kt_int_dict {K : PySem.W.Frag} : PySem.W.kitOne K (.type "int") (.type "dict") = some false := kit_ty (by decide +kernel)
theorem kt_bool_list {K : PySem.W.Frag} : PySem.W.kitOne K (.type "bool") (.type "list") = some false := kit_ty (by decide +kernel)
theorem kt_bool_tuple {K : PySem.W.Frag} : PySem.W.kitOne K (.type "bool") (.type "tuple") = some false := kit_ty (by decide +kernel)
theorem kt_bool_bool {K : PySem.W.Frag} : PySem.W.kitOne K (.type "bool") (.type "bool") = some true := kit_ty (by decide +kernel)
theorem kt_bool_int {K : PySem.W.Frag} : PySem.W.kitOne K (.type "bool") (.type "int") = some true := kit_ty (by decide +kernel)
theorem kt_bool_str {K : PySem.W.Frag} : PySem.W.kitOne K (.type "bool") (.type "str") = some false := kit_ty (by decide +kernel)
theorem kt_bool_dict {K : PySem.W.Frag} : PySem.W.kitOne K (.type "bool") (.type "dict") = some false := kit_ty (by decide +kernel)
theorem kt_str_list {K : PySem.W.Frag} : PySem.W.kitOne K (.type "str") (.type "list") = some false := kit_ty (by decide +kernel)
theorem kt_str_tuple {K : PySem.W.Frag} : PySem.W.kitOne K (.type "str") (.type "tuple") = some false := kit_ty (by decide +kernel)
theorem kt_str_bool {K : PySem.W.Frag} : PySem.W.kitOne K (.type "str") (.type "bool") = some false := kit_ty (by decide +kernel)
theorem kt_str_int {K : PySem.W.Frag} : PySem.W.kitOne K (.type "str") (.type "int") = some false := kit_ty (by decide +kernel)
theorem kt_str_str {K : PySem.W.Frag} : PySem.W.kitOne K (.type "str") (.type "str") = some true := kit_ty (by decide +kernel)
theorem kt_str_dict {K : PySem.W.Frag} : PySem.W.kitOne K (.type "str") (.type "dict") = some false := kit_ty (by decide +kernel)
theorem kt_NoneType_list {K : PySem.W.Frag} : PySem.W.kitOne K (.type "NoneType") (.type "list") = some false := kit_ty (by decide +kernel)
theorem kt_NoneType_tuple {K : PySem.W.Frag} : PySem.W.kitOne K (.type "NoneType") (.type "tuple") = some false := kit_ty (by decide +kernel)
theorem kt_NoneType_bool {K : PySem.W.Frag} : PySem.W.kitOne K (.type "NoneType") (.type "bool") = some false := kit_ty (by decide +kernel)
theorem kt_NoneType_int {K : PySem.W.Frag} : PySem.W.kitOne K (.type "NoneType") (.type "int") = some false := kit_ty (by decide +kernel)
theorem kt_NoneType_str {K : PySem.W.Frag} : PySem.W.kitOne K (.type "NoneType") (.type "str") = some false := kit_ty (by decide +kernel)
theorem kt_NoneType_dict {K : PySem.W.Frag} : PySem.W.kitOne K (.type "NoneType") (.type "dict") = some false := kit_ty (by decide +kernel)
theorem kt_list_list {K : PySem.W.Frag} : PySem.W.kitOne K (.type "list") (.type "list") = some true := kit_ty (by decide +kernel)
theorem kt_list_tuple {K : PySem.W.Frag} : PySem.W.kitOne K (.type "list") (.type "tuple") = some false := kit_ty (by decide +kernel)
theorem kt_list_bool {K : PySem.W.Frag} : PySem.W.kitOne K (.type "list") (.type "bool") = some false := kit_ty (by decide +kernel)
theorem kt_list_int {K : PySem.W.Frag} : PySem.W.kitOne K (.type "list") (.type "int") = some false := kit_ty (by decide +kernel)
theorem kt_list_str {K : PySem.W.Frag} : PySem.W.kitOne K (.type "list") (.type "str") = some false := kit_ty (by decide +kernel)
theorem kt_list_dict {K : PySem.W.Frag} : PySem.W.kitOne K (.type "list") (.type "dict") = some false := kit_ty (by decide +kernel)
theorem kt_tuple_list {K : PySem.W.Frag} : PySem.W.kitOne K (.type "tuple") (.type "list") = some false := kit_ty (by decide +kernel)
theorem kt_tuple_tuple {K : PySem.W.Frag} : PySem.W.kitOne K (.type "tuple") (.type "tuple") = some true := kit_ty (by decide +kernel)
theorem kt_tuple_bool {K : PySem.W.Frag} : PySem.W.kitOne K (.type "tuple") (.type "bool") = some false := kit_ty (by decide +kernel)
theorem kt_tuple_int {K : PySem.W.Frag} : PySem.W.kitOne K (.type "tuple") (.type "int") = some false := kit_ty (by decide +kernel)
theorem kt_tuple_str {K : PySem.W.Frag} : PySem.W.kitOne K (.type "tuple") (.type "str") = some false := kit_ty (by decide +kernel)
theorem kt_tuple_dict {K : PySem.W.Frag} : PySem.W.kitOne K (.type "tuple") (.type "dict") = some false := kit_ty (by decide +kernel)
theorem rIsi_mk {K : PySem.W.Frag} {H : Hp} {Q : VK} {x c : V} {t u : Value} {b : Bool} (ty : TyX K H x t) (cl : ClsV c u) (e : PySem.W.kitOne K t u = some b) (q : Q (.bl b) H) : rIsi K [x, c] H Q := ⟨x, c, t, u, b, rfl, cl, ty, e, q⟩
theorem ri_int_list {K : PySem.W.Frag} {H : Hp} {Q : VK} {i : Int} (q : Q (.bl false) H) : rIsi K [.int i, .ty "list"] H Q := rIsi_mk (TyX.base (TyOf.int _)) (ClsV.ty _) kt_int_list q
theorem ri_int_tuple {K : PySem.W.Frag} {H : Hp} {Q : VK} {i : Int} (q : Q (.bl false) H) : rIsi K [.int i, .ty "tuple"] H Q := rIsi_mk (TyX.base (TyOf.int _)) (ClsV.ty _) kt_int_tuple q
theorem ri_int_bool {K : PySem.W.Frag} {H : Hp} {Q : VK} {i : Int} (q : Q (.bl false) H) : rIsi K [.int i, .ty "bool"] H Q := rIsi_mk (TyX.base (TyOf.int _)) (ClsV.ty _) kt_int_bool q
theorem ri_int_int {K : PySem.W.Frag} {H : Hp} {Q : VK} {i : Int} (q : Q (.bl true) H) : rIsi K [.int i, .ty "int"] H Q := rIsi_mk (TyX.base (TyOf.int _)) (ClsV.ty _) kt_int_int q
theorem ri_int_str {K : PySem.W.Frag} {H : Hp} {Q : VK} {i : Int} (q : Q (.bl false) H) : rIsi K [.int i, .ty "str"] H Q := rIsi_mk (TyX.base (TyOf.int _)) (ClsV.ty _) kt_int_str q
theorem ri_int_dict {K : PySem.W.Frag} {H : Hp} {Q : VK} {i : Int} (q : Q (.bl false) H) : rIsi K [.int i, .ty "dict"] H Q := rIsi_mk (TyX.base (TyOf.int _)) (ClsV.ty _) kt_int_dict q
theorem ri_bool_list {K : PySem.W.Frag} {H : Hp} {Q : VK} {c : Bool} (q : Q (.bl false) H) : rIsi K [.bl c, .ty "list"] H Q := rIsi_mk (TyX.base (TyOf.bl _)) (ClsV.ty _) kt_bool_list q
theorem ri_bool_tuple {K : PySem.W.Frag} {H : Hp} {Q : VK} {c : Bool} (q : Q (.bl false) H) : rIsi K [.bl c, .ty "tuple"] H Q := rIsi_mk (TyX.base (TyOf.bl _)) (ClsV.ty _) kt_bool_tuple q
theorem ri_bool_bool {K : PySem.W.Frag} {H : Hp} {Q : VK} {c : Bool} (q : Q (.bl true) H) : rIsi K [.bl c, .ty "bool"] H Q := rIsi_mk (TyX.base (TyOf.bl _)) (ClsV.ty _) kt_bool_bool q
theorem ri_bool_int {K : PySem.W.Frag} {H : Hp} {Q : VK} {c : Bool} (q : Q (.bl true) H) : rIsi K [.bl c, .ty "int"] H Q := rIsi_mk (TyX.base (TyOf.bl _)) (ClsV.ty _) kt_bool_int q
theorem ri_bool_str {K : PySem.W.Frag} {H : Hp} {Q : VK} {c : Bool} (q : Q (.bl false) H) : rIsi K [.bl c, .ty "str"] H Q := rIsi_mk (TyX.base (TyOf.bl _)) (ClsV.ty _) kt_bool_str q
theorem ri_bool_dict {K : PySem.W.Frag} {H : Hp} {Q : VK} {c : Bool} (q : Q (.bl false) H) : rIsi K [.bl c, .ty "dict"] H Q := rIsi_mk (TyX.base (TyOf.bl _)) (ClsV.ty _) kt_bool_dict q
theorem ri_str_list {K : PySem.W.Frag} {H : Hp} {Q : VK} {z : Str} (q : Q (.bl false) H) : rIsi K [.str z, .ty "list"] H Q := rIsi_mk (TyX.base (TyOf.str _)) (ClsV.ty _) kt_str_list q
theorem ri_str_tuple {K : PySem.W.Frag} {H : Hp} {Q : VK} {z : Str} (q : Q (.bl false) H) : rIsi K [.str z, .ty "tuple"] H Q := rIsi_mk (TyX.base (TyOf.str _)) (ClsV.ty _) kt_str_tuple q
theorem ri_str_bool {K : PySem.W.Frag} {H : Hp} {Q : VK} {z : Str} (q : Q (.bl false) H) : rIsi K [.str z, .ty "bool"] H Q := rIsi_mk (TyX.base (TyOf.str _)) (ClsV.ty _) kt_str_bool q
theorem ri_str_int {K : PySem.W.Frag} {H : Hp} {Q : VK} {z : Str} (q : Q (.bl false) H) : rIsi K [.str z, .ty "int"] H Q := rIsi_mk (TyX.base (TyOf.str _)) (ClsV.ty _) kt_str_int q
theorem ri_str_str {K : PySem.W.Frag} {H : Hp} {Q : VK} {z : Str} (q : Q (.bl true) H) : rIsi K [.str z, .ty "str"] H Q := rIsi_mk (TyX.base (TyOf.str _)) (ClsV.ty _) kt_str_str q
theorem ri_str_dict {K : PySem.W.Frag} {H : Hp} {Q : VK} {z : Str} (q : Q (.bl false) H) : rIsi K [.str z, .ty "dict"] H Q := rIsi_mk (TyX.base (TyOf.str _)) (ClsV.ty _) kt_str_dict q
theorem ri_NoneType_list {K : PySem.W.Frag} {H : Hp} {Q : VK}  (q : Q (.bl false) H) : rIsi K [.non, .ty "list"] H Q := rIsi_mk (TyX.base TyOf.non) (ClsV.ty _) kt_NoneType_list q
theorem ri_NoneType_tuple {K : PySem.W.Frag} {H : Hp} {Q : VK}  (q : Q (.bl false) H) : rIsi K [.non, .ty "tuple"] H Q := rIsi_mk (TyX.base TyOf.non) (ClsV.ty _) kt_NoneType_tuple q
theorem ri_NoneType_bool {K : PySem.W.Frag} {H : Hp} {Q : VK}  (q : Q (.bl false) H) : rIsi K [.non, .ty "bool"] H Q := rIsi_mk (TyX.base TyOf.non) (ClsV.ty _) kt_NoneType_bool q
theorem ri_NoneType_int {K : PySem.W.Frag} {H : Hp} {Q : VK}  (q : Q (.bl false) H) : rIsi K [.non, .ty "int"] H Q := rIsi_mk (TyX.base TyOf.non) (ClsV.ty _) kt_NoneType_int q
theorem ri_NoneType_str {K : PySem.W.Frag} {H : Hp} {Q : VK}  (q : Q (.bl false) H) : rIsi K [.non, .ty "str"] H Q := rIsi_mk (TyX.base TyOf.non) (ClsV.ty _) kt_NoneType_str q
theorem ri_NoneType_dict {K : PySem.W.Frag} {H : Hp} {Q : VK}  (q : Q (.bl false) H) : rIsi K [.non, .ty "dict"] H Q := rIsi_mk (TyX.base TyOf.non) (ClsV.ty _) kt_NoneType_dict q
theorem ri_list_list {K : PySem.W.Frag} {H : Hp} {Q : VK} {a : Addr} {xs : List V} (h : SqL K H a xs) (q : Q (.bl true) H) : rIsi K [.ref a, .ty "list"] H Q := rIsi_mk (tyx_L h) (ClsV.ty _) kt_list_list q
theorem ri_list_tuple {K : PySem.W.Frag} {H : Hp} {Q : VK} {a : Addr} {xs : List V} (h : SqL K H a xs) (q : Q (.bl false) H) : rIsi K [.ref a, .ty "tuple"] H Q := rIsi_mk (tyx_L h) (ClsV.ty _) kt_list_tuple q
theorem ri_list_bool {K : PySem.W.Frag} {H : Hp} {Q : VK} {a : Addr} {xs : List V} (h : SqL K H a xs) (q : Q (.bl false) H) : rIsi K [.ref a, .ty "bool"] H Q := rIsi_mk (tyx_L h) (ClsV.ty _) kt_list_bool q
theorem ri_list_int {K : PySem.W.Frag} {H : Hp} {Q : VK} {a : Addr} {xs : List V} (h : SqL K H a xs) (q : Q (.bl false) H) : rIsi K [.ref a, .ty "int"] H Q := rIsi_mk (tyx_L h) (ClsV.ty _) kt_list_int q
theorem ri_list_str {K : PySem.W.Frag} {H : Hp} {Q : VK} {a : Addr} {xs : List V} (h : SqL K H a xs) (q : Q (.bl false) H) : rIsi K [.ref a, .ty "str"] H Q := rIsi_mk (tyx_L h) (ClsV.ty _) kt_list_str q
theorem ri_list_dict {K : PySem.W.Frag} {H : Hp} {Q : VK} {a : Addr} {xs : List V} (h : SqL K H a xs) (q : Q (.bl false) H) : rIsi K [.ref a, .ty "dict"] H Q := rIsi_mk (tyx_L h) (ClsV.ty _) kt_list_dict q
theorem ri_tuple_list {K : PySem.W.Frag} {H : Hp} {Q : VK} {a : Addr} {xs : List V} (h : SqT K H a xs) (q : Q (.bl false) H) : rIsi K [.ref a, .ty "list"] H Q := rIsi_mk (tyx_T h) (ClsV.ty _) kt_tuple_list q
theorem ri_tuple_tuple {K : PySem.W.Frag} {H : Hp} {Q : VK} {a : Addr} {xs : List V} (h : SqT K H a xs) (q : Q (.bl true) H) : rIsi K [.ref a, .ty "tuple"] H Q := rIsi_mk (tyx_T h) (ClsV.ty _) kt_tuple_tuple q
theorem ri_tuple_bool {K : PySem.W.Frag} {H : Hp} {Q : VK} {a : Addr} {xs : List V} (h : SqT K H a xs) (q : Q (.bl false) H) : rIsi K [.ref a, .ty "bool"] H Q := rIsi_mk (tyx_T h) (ClsV.ty _) kt_tuple_bool q
theorem ri_tuple_int {K : PySem.W.Frag} {H : Hp} {Q : VK} {a : Addr} {xs : List V} (h : SqT K H a xs) (q : Q (.bl false) H) : rIsi K [.ref a, .ty "int"] H Q := rIsi_mk (tyx_T h) (ClsV.ty _) kt_tuple_int q
theorem ri_tuple_str {K : PySem.W.Frag} {H : Hp} {Q : VK} {a : Addr} {xs : List V} (h : SqT K H a xs) (q : Q (.bl false) H) : rIsi K [.ref a, .ty "str"] H Q := rIsi_mk (tyx_T h) (ClsV.ty _) kt_tuple_str q
theorem ri_tuple_dict {K : PySem.W.Frag} {H : Hp} {Q : VK} {a : Addr} {xs : List V} (h : SqT K H a xs) (q : Q (.bl false) H) : rIsi K [.ref a, .ty "dict"] H Q := rIsi_mk (tyx_T h) (ClsV.ty _) kt_tuple_dict q
def rLenSq (K : PySem.W.Frag) : List V → Hp → VK → Prop := fun xs H Q => ∃ p ys, xs = [.ref p] ∧ (SqL K H p ys ∨ SqT K H p ys) ∧ Q (.int ys.length) H
def rListOf (K : PySem.W.Frag) : List V → Hp → VK → Prop := fun xs H Q => ∃ p ys, xs = [.ref p] ∧ (SqL K H p ys ∨ SqT K H p ys) ∧ ∀ l, H l = none → Q (.ref l) (upd H l (.lst ys))
def rTupOf (K : PySem.W.Frag) : List V → Hp → VK → Prop := fun xs H Q => ∃ p ys, xs = [.ref p] ∧ ((SqL K H p ys ∧ ∀ l, H l = none → Q (.ref l) (upd H l (.tup ys))) ∨ (SqT K H p ys ∧ Q (.ref p) H))
/-- a list or a tuple -/
def Sq (K : PySem.W.Frag) (H : Hp) (a : Addr) (xs : List V) : Prop := SqL K H a xs ∨ SqT K H a xs
theorem Sq.same {K : PySem.W.Frag} {H H' : Hp} {a : Addr} {xs : List V} (h : Sq K H a xs) (s : Same H H') : Sq K H' a xs := h.elim (fun q => .inl (s.seq q)) fun q => .inr (seqT s q)
theorem seqL_ins {K : PySem.W.Frag} {H : Hp} {a p C dx : Addr} {fs : List (Str × V)} {o : HO} {xs : List V} (hp : H p = some (.ins C dx fs)) (h : SqL K H a xs) : SqL K (upd H p o) a xs := by
  rcases h with (h | ⟨u, h⟩) | h
  · exact .inl (.inl (by rw [upd_ne (ne_of h hp (by intro z; cases z))]; exact h))
  · exact .inl (.inr ⟨u, by rw [upd_ne (ne_of h hp (by intro z; cases z))]; exact h⟩)
  · exact .inr h
theorem seqT_ins {K : PySem.W.Frag} {H : Hp} {a p C dx : Addr} {fs : List (Str × V)} {o : HO} {xs : List V} (hp : H p = some (.ins C dx fs)) (h : SqT K H a xs) : SqT K (upd H p o) a xs := by
  rcases h with (h | ⟨u, h⟩) | h
  · exact .inl (.inl (by rw [upd_ne (ne_of h hp (by intro z; cases z))]; exact h))
  · exact .inl (.inr ⟨u, by rw [upd_ne (ne_of h hp (by intro z; cases z))]; exact h⟩)
  · exact .inr h
theorem Sq.ins {K : PySem.W.Frag} {H : Hp} {a p C dx : Addr} {fs : List (Str × V)} {o : HO} {xs : List V} (h : Sq K H a xs) (hp : H p = some (.ins C dx fs)) : Sq K (upd H p o) a xs := h.elim (fun q => .inl (seqL_ins hp q)) fun q => .inr (seqT_ins hp q)
/-- tuple(x) of either -/
def rTup1 (K : PySem.W.Frag) : List V → Hp → VK → Prop := fun vs H Q => ∃ p xs, vs = [.ref p] ∧ Sq K H p xs ∧ ∀ t H', Same H H' → SqT K H' t xs → Q (.ref t) H'
theorem call_tup1 {X : Cx} : CallR X (.type "tuple") (rTup1 X.K) := by
  intro pins s σ H xs us Q I r h
  obtain ⟨p, ys, rfl, hq, q⟩ := h
  refine call_tuple_of pins s σ H _ us Q I r ⟨p, ys, rfl, ?_⟩
  rcases hq with hq | hq
  · exact .inl ⟨hq, fun l hl => q l _ (Same.new hl) (SqT.of upd_same)⟩
  · exact .inr ⟨hq, q p H (Same.refl H) hq⟩
/-! ### a statement, then the rest, with a word between them -/
def tCut (t u : TS) : TS := fun D σ H => ∃ Mid : L2.St → Hp → Prop, t { D with nx := Mid } σ H ∧ ∀ σ' H', Mid σ' H' → u D σ' H'
theorem pss_cut {X : Cx} {st : Stmt} {rest : List Stmt} {t u : TS} (h1 : PS X st t) (h2 : PSs X rest u) : PSs X (st :: rest) (tCut t u) := by
  refine ⟨fun pins s σ H D I h => ?_⟩
  obtain ⟨Mid, hm, hu⟩ := h
  refine wpAny_execs_cons (thn (h1.run pins s σ H { D with nx := Mid } I hm) fun f s1 q => ?_)
  cases f with
  | next =>
    obtain ⟨σ', H', I', q⟩ := q
    exact h2.run pins s1 σ' H' D I' (hu σ' H' q)
  | ret v => exact q
  | brk => exact q
  | cont => exact q
/-! ### the law's bag: the cells, how many were taken, the rest of a great cell, a mixed number, a count -/
structure Bg where
  b : Addr
  L : Addr
  ns : List Int
structure Bag (B : Bg) (H : Hp) : Prop where
  ex : ∃ (i r s c : Int), H B.b = some (.lst [.ref B.L, .int i, .int r, .int s, .int c]) ∧ 0 ≤ i ∧ 0 ≤ r ∧ 0 ≤ s ∧ s < 2147483648
  cells : H B.L = some (.lst (B.ns.map V.int))
  ne : B.L ≠ B.b
theorem Bag.same {B : Bg} {H H' : Hp} (h : Bag B H) (s : Same H H') : Bag B H' := by
  obtain ⟨i, r, z, c, h1, h2⟩ := h.ex
  exact ⟨⟨i, r, z, c, s _ _ h1, h2⟩, s _ _ h.cells, h.ne⟩
theorem Bag.nb {B : Bg} {H : Hp} {p : Addr} (h : Bag B H) (hp : H p = none) : p ≠ B.b := by
  obtain ⟨i, r, z, c, h1, h2⟩ := h.ex
  exact Ne.symm (ne_of_none h1 hp)
theorem Bag.nL {B : Bg} {H : Hp} {p : Addr} (h : Bag B H) (hp : H p = none) : p ≠ B.L := Ne.symm (ne_of_none h.cells hp)
theorem Bag.upd {B : Bg} {H : Hp} {p : Addr} {o : HO} (h : Bag B H) (h1 : p ≠ B.b) (h2 : p ≠ B.L) : Bag B (L2.upd H p o) := by
  obtain ⟨i, r, z, c, e1, e2⟩ := h.ex
  exact ⟨⟨i, r, z, c, by rw [upd_ne (Ne.symm h1)]; exact e1, e2⟩, by rw [upd_ne (Ne.symm h2)]; exact h.cells, h.ne⟩
theorem Bag.new {B : Bg} {H : Hp} {p : Addr} {o : HO} (h : Bag B H) (hp : H p = none) : Bag B (L2.upd H p o) := h.upd (h.nb hp) (h.nL hp)
/-! ### comprehensions: what each turn gives is known (Same), or only bounded, while the bag changes (Kb) -/
section
variable {J : It} {n : Nat} {G : Hp → Prop} {Y : Nat → Hp → V → Hp → Prop} {K : PySem.W.Frag} {a b D : Addr} {xs ys : List V} {g : TG} {te : TE} {vs : List Nat} {σ : L2.St} {H0 : Hp} {Qd : Hp → Prop} {j : Nat}
theorem take_app {ys : List V} {i : Nat} {y : V} (h : ys[i]? = some y) : ys.take i ++ [y] = ys.take (i + 1) := by
  rw [List.take_add_one, h]
  rfl
/-- what is to be shown of a comprehension -/
def LcGoal (J : It) (g : TG) (te : TE) (vs : List Nat) (σ : L2.St) (H0 : Hp) (D : Addr) (Qd : Hp → Prop) : Prop :=
  ∃ W : Nat → Nat → Hp → Prop, (∃ m, W 0 m (upd H0 D (.lst []))) ∧ ∀ i m H, W i m H →
      (J.stop i H ∧ Qd H) ∨ (J.go i H ∧ ∃ Nx : Hp → Prop, (∀ H', Nx H' → ∃ m', m' < m ∧ W (i + 1) m' H') ∧ ∀ x H', J.yld i H x H' → g x (wipe σ vs) H' fun σ2 H2 => wipe σ2 vs = wipe σ vs ∧ tYes σ2 H2 fun b H3 =>
        if b = true then te σ2 H3 fun y H4 => ∃ acc, H4 D = some (.lst acc) ∧ acc.length < sizeLine ∧ Nx (upd H4 D (.lst (acc ++ [y]))) else Nx H3)
theorem lcm (w : Walk J n G Y) (ys : List V) (hn : ys.length = n) (hz : n ≤ 100000) (hD : H0 D = none) (hG : ∀ H, Same H0 H → G H)
    (hs : ∀ i y x H H', i < n → ys[i]? = some y → Same H0 H → Y i H x H' → ∀ k : VK, (∀ H4, Same H H4 → k y H4) → g x (wipe σ vs) H' fun σ2 H2 => wipe σ2 vs = wipe σ vs ∧ te σ2 H2 k)
    (hd : ∀ H, Same H0 H → H D = some (.lst ys) → Qd H) : LcGoal J g te vs σ H0 D Qd := by
  refine lc_it w (fun i H => Same H0 H ∧ H D = some (.lst (ys.take i))) ⟨Same.new hD, upd_same⟩ (fun i H _ h => hG H h.1) (fun i x H H' hi h hy => ?_) (fun H h => ?_)
  · have hi2 : i < ys.length := by omega
    refine hs i ys[i] x H H' hi (List.getElem?_eq_getElem hi2) h.1 hy _ fun H4 s4 => ⟨ys.take i, s4 _ _ h.2, ?_, fun c u q => ?_, ?_⟩
    · refine Nat.lt_of_le_of_lt (Nat.le_trans (List.length_take_le' _ _) (by omega : ys.length ≤ 100000)) (by decide)
    · rw [upd_ne (ne_of_none q hD)]
      exact s4 _ _ (h.1 _ _ q)
    · rw [upd_same, take_app (List.getElem?_eq_getElem hi2)]
  · refine hd H h.1 ?_
    rw [h.2, ← hn, List.take_length]
theorem lcb {B : Bg} (w : Walk J n G Y) (P : V → Prop) (hz : n ≤ 100000) (hB : Bag B H0) (hD : H0 D = none) (hG : ∀ H, Kb B.b H0 H → G H)
    (hs : ∀ i x H H', i < n → Kb B.b H0 H → Bag B H → Y i H x H' → ∀ k : VK, (∀ y H4, P y → Kb B.b H H4 → Bag B H4 → k y H4) → g x (wipe σ vs) H' fun σ2 H2 => wipe σ2 vs = wipe σ vs ∧ te σ2 H2 k)
    (hd : ∀ ys H, ys.length = n → (∀ y ∈ ys, P y) → Kb B.b H0 H → Bag B H → H D = some (.lst ys) → Qd H) : LcGoal J g te vs σ H0 D Qd := by
  have nb := hB.nb hD
  have nL := hB.nL hD
  refine lc_it w (fun i H => Kb B.b H0 H ∧ Bag B H ∧ ∃ ys, H D = some (.lst ys) ∧ ys.length = i ∧ ∀ y ∈ ys, P y) ⟨Kb.same (Same.new hD), hB.new hD, [], upd_same, rfl, fun y hy => by cases hy⟩ (fun i H _ h => hG H h.1) (fun i x H H' hi h hy => ?_) (fun H h => ?_)
  · obtain ⟨h1, h2, ys, h3, h4, h5⟩ := h
    refine hs i x H H' hi h1 h2 hy _ fun y H4 p kb b4 => ⟨ys, kb _ _ h3 nb, ?_, fun c u q ne => ?_, b4.upd nb nL, ys ++ [y], upd_same, ?_, ?_⟩
    · exact Nat.lt_of_le_of_lt (by omega : ys.length ≤ 100000) (by decide)
    · rw [upd_ne (ne_of_none q hD)]
      exact kb _ _ (h1 _ _ q ne) ne
    · rw [List.length_append, h4]
      rfl
    · intro z hz
      rcases List.mem_append.mp hz with q | q
      · exact h5 z q
      · rw [List.mem_singleton.mp q]
        exact p
  · obtain ⟨h1, h2, ys, h3, h4, h5⟩ := h
    exact hd ys H h4 h5 h1 h2 h3
end
theorem walk_zipT {K : PySem.W.Frag} {a b : Addr} {xs ys : List V} {n : Nat} (hn : n = min xs.length ys.length) : Walk (RZ.ItzT K a b) n (fun H => SqT K H a xs ∧ SqT K H b ys) (YPair (fun i => xs[i]?) (fun i => ys[i]?)) := by
  subst hn
  refine ⟨fun i _ hi q => ?_, fun _ q => ⟨xs, ys, q.1, q.2, by omega⟩, fun i H v H' _ q y => ?_⟩
  · have h1 : i < xs.length := by omega
    have h2 : i < ys.length := by omega
    exact ⟨xs, ys, xs[i], ys[i], q.1, q.2, by simp [h1], by simp [h2]⟩
  · obtain ⟨T, x, z, h1, h2, h3, h4, h5⟩ := y
    exact ⟨T, x, z, h1, h2, h3, h4 xs q.1, h5 ys q.2⟩
theorem ite_dec {p A B : Prop} [Decidable p] (h : p) (q : A) : if decide p = true then A else B := by
  rw [decide_eq_true h]
  exact q
theorem ite_dec' {p A B : Prop} [Decidable p] (h : ¬ p) (q : B) : if decide p = true then A else B := by
  rw [decide_eq_false h]
  exact q
theorem all_rep (n : Nat) : (List.replicate n true).all id = true := by
  rw [List.all_eq_true]
  intro x hx
  rw [(List.mem_replicate.mp hx).2]
  rfl
theorem rep_get {n i : Nat} {x y : V} (h : (List.replicate n x)[i]? = some y) : y = x := (List.mem_replicate.mp (List.mem_of_getElem? h)).2
theorem lc_zipT {K : PySem.W.Frag} {a b D : Addr} {xs ys : List Int} {f : Int → Int → Int} {te : TE} {vs : List Nat} {σ : L2.St} {H0 : Hp} {Qd : Hp → Prop} {i j : Nat} (h1 : SqT K H0 a (xs.map V.int)) (h2 : SqT K H0 b (ys.map V.int)) (hl : xs.length = ys.length) (hz : xs.length ≤ 1000) (hD : H0 D = none)
    (hw : ∀ u v, wipe (((wipe σ vs).set i (some u)).set j (some v)) vs = wipe σ vs)
    (hs : ∀ (u v : Int) (H : Hp) (k : VK), u ∈ xs → v ∈ ys → k (.int (f u v)) H → te (((wipe σ vs).set i (some (.int u))).set j (some (.int v))) H k)
    (hd : ∀ H, Same H0 H → H D = some (.lst ((List.zipWith f xs ys).map V.int)) → Qd H) : LcGoal (RZ.ItzT K a b) (gTup K 2 (gCons (gName i) (gCons (gName j) gNil))) te vs σ H0 D Qd := by
  refine lcm (walk_zipT (n := xs.length) (by rw [List.length_map, List.length_map]; omega)) ((List.zipWith f xs ys).map V.int) (by rw [List.length_map, List.length_zipWith]; omega) (by omega) hD (fun H' s => ⟨seqT s h1, seqT s h2⟩) ?_ hd
  rintro t y x H1 H2 hi hy s1 ⟨Tp, u, z, rfl, hT, rfl, hu, hz'⟩ k hk
  replace hu : (xs.map V.int)[t]? = some u := hu
  replace hz' : (ys.map V.int)[t]? = some z := hz'
  rw [List.getElem?_map] at hy hu hz'
  obtain ⟨y', hy1, rfl⟩ := Option.map_eq_some_iff.mp hy
  obtain ⟨u', hu1, rfl⟩ := Option.map_eq_some_iff.mp hu
  obtain ⟨z', hz1, rfl⟩ := Option.map_eq_some_iff.mp hz'
  rw [List.getElem?_zipWith, hu1, hz1] at hy1
  obtain rfl : f u' z' = y' := Option.some.inj hy1
  refine ⟨Tp, [.int u', .int z'], rfl, SqT.of upd_same, rfl, .int u', [.int z'], rfl, .int z', [], rfl, rfl, hw _ _, ?_⟩
  exact hs u' z' _ k (List.mem_of_getElem? hu1) (List.mem_of_getElem? hz1) (hk _ (Same.new hT))
theorem lc_zipL {K : PySem.W.Frag} {a b D : Addr} {xs ys : List Int} {f : Int → Int → Int} {te : TE} {vs : List Nat} {σ : L2.St} {H0 : Hp} {Qd : Hp → Prop} {i j : Nat} (h1 : SqL K H0 a (xs.map V.int)) (h2 : SqL K H0 b (ys.map V.int)) (hl : xs.length = ys.length) (hz : xs.length ≤ 1000) (hD : H0 D = none)
    (hw : ∀ u v, wipe (((wipe σ vs).set i (some u)).set j (some v)) vs = wipe σ vs)
    (hs : ∀ (u v : Int) (H : Hp) (k : VK), u ∈ xs → v ∈ ys → k (.int (f u v)) H → te (((wipe σ vs).set i (some (.int u))).set j (some (.int v))) H k)
    (hd : ∀ H, Same H0 H → H D = some (.lst ((List.zipWith f xs ys).map V.int)) → Qd H) : LcGoal (Itz K a b) (gTup K 2 (gCons (gName i) (gCons (gName j) gNil))) te vs σ H0 D Qd := by
  refine lcm (walk_zip (n := xs.length) (by rw [List.length_map, List.length_map]; omega)) ((List.zipWith f xs ys).map V.int) (by rw [List.length_map, List.length_zipWith]; omega) (by omega) hD (fun H' s => ⟨s.seq h1, s.seq h2⟩) ?_ hd
  rintro t y x H1 H2 hi hy s1 ⟨Tp, u, z, rfl, hT, rfl, hu, hz'⟩ k hk
  replace hu : (xs.map V.int)[t]? = some u := hu
  replace hz' : (ys.map V.int)[t]? = some z := hz'
  rw [List.getElem?_map] at hy hu hz'
  obtain ⟨y', hy1, rfl⟩ := Option.map_eq_some_iff.mp hy
  obtain ⟨u', hu1, rfl⟩ := Option.map_eq_some_iff.mp hu
  obtain ⟨z', hz1, rfl⟩ := Option.map_eq_some_iff.mp hz'
  rw [List.getElem?_zipWith, hu1, hz1] at hy1
  obtain rfl : f u' z' = y' := Option.some.inj hy1
  refine ⟨Tp, [.int u', .int z'], rfl, SqT.of upd_same, rfl, .int u', [.int z'], rfl, .int z', [], rfl, rfl, hw _ _, ?_⟩
  exact hs u' z' _ k (List.mem_of_getElem? hu1) (List.mem_of_getElem? hz1) (hk _ (Same.new hT))
theorem lc_mapT {K : PySem.W.Frag} {a D : Addr} {xs : List Int} {f : Int → Int} {te : TE} {vs : List Nat} {σ : L2.St} {H0 : Hp} {Qd : Hp → Prop} {i : Nat} (h1 : SqT K H0 a (xs.map V.int)) (hz : xs.length ≤ 1000) (hD : H0 D = none)
    (hw : ∀ u, wipe ((wipe σ vs).set i (some u)) vs = wipe σ vs) (hs : ∀ (u : Int) (H : Hp) (k : VK), u ∈ xs → k (.int (f u)) H → te ((wipe σ vs).set i (some (.int u))) H k)
    (hd : ∀ H, Same H0 H → H D = some (.lst ((xs.map f).map V.int)) → Qd H) : LcGoal (Itt K a) (gName i) te vs σ H0 D Qd := by
  refine lcm (walk_tup (K := K) (a := a) (xs := xs.map V.int)) ((xs.map f).map V.int) (by simp) (by rw [List.length_map]; omega) hD (fun H' s => seqT s h1) ?_ hd
  rintro t y x H1 H2 hi hy s1 ⟨rfl, hu⟩ k hk
  rw [List.getElem?_map] at hy hu
  obtain ⟨y', hy1, rfl⟩ := Option.map_eq_some_iff.mp hy
  obtain ⟨u', hu1, rfl⟩ := Option.map_eq_some_iff.mp hu
  rw [List.getElem?_map, hu1] at hy1
  obtain rfl : f u' = y' := Option.some.inj hy1
  exact ⟨hw _, hs u' _ k (List.mem_of_getElem? hu1) (hk _ (Same.refl _))⟩
theorem lc_mapL {K : PySem.W.Frag} {a D : Addr} {xs : List Int} {f : Int → Int} {te : TE} {vs : List Nat} {σ : L2.St} {H0 : Hp} {Qd : Hp → Prop} {i : Nat} (h1 : SqL K H0 a (xs.map V.int)) (hz : xs.length ≤ 1000) (hD : H0 D = none)
    (hw : ∀ u, wipe ((wipe σ vs).set i (some u)) vs = wipe σ vs) (hs : ∀ (u : Int) (H : Hp) (k : VK), u ∈ xs → k (.int (f u)) H → te ((wipe σ vs).set i (some (.int u))) H k)
    (hd : ∀ H, Same H0 H → H D = some (.lst ((xs.map f).map V.int)) → Qd H) : LcGoal (Itl K a) (gName i) te vs σ H0 D Qd := by
  refine lcm (walk_list (K := K) (a := a) (xs := xs.map V.int)) ((xs.map f).map V.int) (by simp) (by rw [List.length_map]; omega) hD (fun H' s => s.seq h1) ?_ hd
  rintro t y x H1 H2 hi hy s1 ⟨rfl, hu⟩ k hk
  rw [List.getElem?_map] at hy hu
  obtain ⟨y', hy1, rfl⟩ := Option.map_eq_some_iff.mp hy
  obtain ⟨u', hu1, rfl⟩ := Option.map_eq_some_iff.mp hu
  rw [List.getElem?_map, hu1] at hy1
  obtain rfl : f u' = y' := Option.some.inj hy1
  exact ⟨hw _, hs u' _ k (List.mem_of_getElem? hu1) (hk _ (Same.refl _))⟩
/-! ### whole data: lists and tuples of whole numbers -/
theorem dpAll_ints {K : PySem.W.Frag} {H : Hp} : ∀ ns : List Int, DpAll K H (ns.map V.int) (ns.map PyData.int)
  | [] => .nil
  | n :: ns => .cons (.int n) (dpAll_ints ns)
theorem lay_ints : ∀ ns : List Int, PyData.canLayAll0 (ns.map PyData.int) = true
  | [] => by simp [PyData.canLayAll0]
  | n :: ns => by simp [PyData.canLayAll0, PyData.canLay0, lay_ints ns]
theorem depth_ints : ∀ ns : List Int, PyData.depthAll (ns.map PyData.int) = 0
  | [] => by simp [PyData.depthAll]
  | n :: ns => by simp [PyData.depthAll, PyData.depth, depth_ints ns]
theorem shaped_tupI (ns : List Int) : SeqAt.shaped (.tuple (ns.map PyData.int)) = true := by simp [SeqAt.shaped, PyData.canLay0, PyData.depth, lay_ints, depth_ints]
theorem shaped_lstI (ns : List Int) : SeqAt.shaped (.list (ns.map PyData.int)) = true := by simp [SeqAt.shaped, PyData.canLay0, PyData.depth, lay_ints, depth_ints]
theorem shaped_two (xs ys : List Int) : SeqAt.shaped (.tuple [.list (xs.map PyData.int), .list (ys.map PyData.int)]) = true := by simp [SeqAt.shaped, PyData.canLay0, PyData.canLayAll0, PyData.depth, PyData.depthAll, lay_ints, depth_ints]
theorem eqv_ints : ∀ xs ys : List Int, PyData.eqvAll (xs.map PyData.int) (ys.map PyData.int) = decide (xs = ys)
  | [], [] => by simp [PyData.eqvAll]
  | [], y :: ys => by simp [PyData.eqvAll]
  | x :: xs, [] => by simp [PyData.eqvAll]
  | x :: xs, y :: ys => by
    simp only [List.map_cons, PyData.eqvAll, PyData.eqv, eqv_ints xs ys, List.cons.injEq]
    by_cases h1 : x = y <;> by_cases h2 : xs = ys <;> simp [h1, h2]
theorem eqv_tupI (xs ys : List Int) : PyData.eqv (.tuple (xs.map PyData.int)) (.tuple (ys.map PyData.int)) = decide (xs = ys) := by simp only [PyData.eqv, eqv_ints]
theorem eqv_lstI (xs ys : List Int) : PyData.eqv (.list (xs.map PyData.int)) (.list (ys.map PyData.int)) = decide (xs = ys) := by simp only [PyData.eqv, eqv_ints]
theorem eqv_two (x y : List Int × List Int) : PyData.eqv (.tuple [.list (x.1.map PyData.int), .list (x.2.map PyData.int)]) (.tuple [.list (y.1.map PyData.int), .list (y.2.map PyData.int)]) = decide (x = y) := by
  obtain ⟨a, b⟩ := x
  obtain ⟨c, d⟩ := y
  simp only [PyData.eqv, PyData.eqvAll, eqv_ints, Prod.mk.injEq]
  by_cases h1 : a = c <;> by_cases h2 : b = d <;> simp [h1, h2]
/-- == of two tuples of whole numbers -/
def rEqTI (K : PySem.W.Frag) : R2 := fun x y H Q => ∃ (a b : Addr) (xs ys : List Int), x = .ref a ∧ y = .ref b ∧ SqT K H a (xs.map V.int) ∧ SqT K H b (ys.map V.int) ∧ Q (.bl (decide (xs = ys))) H
theorem op_eqTI {X : Cx} (hu : X.A.units + 64 < cLine) : OpR X (compareOp .Eq) (rEqTI X.K) := by
  intro pins s σ H x y v u Q I rx ry h
  obtain ⟨a, b, xs, ys, rfl, rfl, h1, h2, q⟩ := h
  exact op_eqD hu pins s σ H _ _ v u Q I rx ry ⟨_, _, .tup h1 (dpAll_ints xs), .tup h2 (dpAll_ints ys), shaped_tupI xs, shaped_tupI ys, by rw [eqv_tupI]; exact q⟩
theorem and1 (n : Int) : Builtin.bitAnd n 1 = n.fmod 2 := by
  have h := PyProof.Rows.bitAnd_m1 n
  rw [Int.fmod_eq_emod_of_nonneg _ (by decide)]
  exact h
/-- a tuple that is read stands when a list is changed -/
theorem seqT_lst {K : PySem.W.Frag} {H : Hp} {a p : Addr} {zs : List V} {o : HO} {xs : List V} (hp : H p = some (.lst zs)) (h : SqT K H a xs) : SqT K (upd H p o) a xs := by
  rcases h with (h | ⟨u, h⟩) | h
  · exact .inl (.inl (by rw [upd_ne (ne_of h hp (by intro z; cases z))]; exact h))
  · exact .inl (.inr ⟨u, by rw [upd_ne (ne_of h hp (by intro z; cases z))]; exact h⟩)
  · exact .inr h
theorem seqT_kb {K : PySem.W.Frag} {H H' : Hp} {b a : Addr} {zs xs : List V} (hb : H b = some (.lst zs)) (k : Kb b H H') (h : SqT K H a xs) : SqT K H' a xs := by
  rcases h with (h | ⟨u, h⟩) | h
  · exact .inl (.inl (k _ _ h (ne_of h hb (by intro z; cases z))))
  · exact .inl (.inr ⟨u, k _ _ h (ne_of h hb (by intro z; cases z))⟩)
  · exact .inr h
section
variable {J : It} {n : Nat} {G : Hp → Prop} {Y : Nat → Hp → V → Hp → Prop} {D : Addr} {g : TG} {te : TE} {vs : List Nat} {σ : L2.St} {H0 : Hp} {Qd : Hp → Prop}
/-- a comprehension whose turns give new things, of which something is known -/
theorem lcs (w : Walk J n G Y) (P : Nat → V → Hp → Prop) (hP : ∀ i y H H', Same H H' → P i y H → P i y H') (hPD : ∀ i y H zs zs', H D = some (.lst zs) → P i y H → P i y (upd H D (.lst zs'))) (hz : n ≤ 100000) (hD : H0 D = none) (hG : ∀ H, Same H0 H → G H)
    (hs : ∀ i x H H', i < n → Same H0 H → Y i H x H' → ∀ k : VK, (∀ y H4, Same H H4 → P i y H4 → k y H4) → g x (wipe σ vs) H' fun σ2 H2 => wipe σ2 vs = wipe σ vs ∧ te σ2 H2 k)
    (hd : ∀ (ys : List V) H, ys.length = n → (∀ (i : Nat) y, ys[i]? = some y → P i y H) → Same H0 H → H D = some (.lst ys) → Qd H) : LcGoal J g te vs σ H0 D Qd := by
  refine lc_it w (fun i H => Same H0 H ∧ ∃ ys : List V, H D = some (.lst ys) ∧ ys.length = i ∧ ∀ (t : Nat) y, ys[t]? = some y → P t y H) ⟨Same.new hD, [], upd_same, rfl, fun t y h => by cases h⟩ (fun i H _ h => hG H h.1) (fun i x H H' hi h hy => ?_) (fun H h => ?_)
  · obtain ⟨h1, ys, h3, h4, h5⟩ := h
    refine hs i x H H' hi h1 hy _ fun y H4 s4 p => ⟨ys, s4 _ _ h3, ?_, fun c u q => ?_, ys ++ [y], upd_same, ?_, ?_⟩
    · exact Nat.lt_of_le_of_lt (by omega : ys.length ≤ 100000) (by decide)
    · rw [upd_ne (ne_of_none q hD)]
      exact s4 _ _ (h1 _ _ q)
    · rw [List.length_append, h4]
      rfl
    · intro t z hz
      refine hPD t z H4 ys _ (s4 _ _ h3) ?_
      rcases Nat.lt_or_ge t ys.length with q | q
      · rw [List.getElem?_append_left q] at hz
        exact hP _ _ _ _ s4 (h5 t z hz)
      · rw [List.getElem?_append_right q] at hz
        have e : t - ys.length = 0 := by
          have := (List.getElem?_eq_some_iff.mp hz).1
          simp at this
          omega
        rw [e] at hz
        obtain rfl : y = z := Option.some.inj hz
        have : t = i := by omega
        rw [this]
        exact p
  · obtain ⟨h1, ys, h3, h4, h5⟩ := h
    exact hd ys H h4 h5 h1 h3
end
end TL
namespace TL
open PySem L2

def top (i : Nat) : Stmt := PySem.Challenge.pw_turnsleft_k07_whole_wedges_add.main.body.getD i (.Pass ⟨0, 0, 0, 0⟩)
abbrev s_is_number : Stmt := top 5
abbrev N_is_number : List Str := ["value"]
theorem sc_is_number : FnScope N_is_number ["value"] (defScope s_is_number) := ⟨rfl, rfl, rfl, by decide +kernel, rfl, by decide +kernel, by decide +kernel⟩
abbrev s_is_listed : Stmt := top 6
abbrev N_is_listed : List Str := ["value"]
theorem sc_is_listed : FnScope N_is_listed ["value"] (defScope s_is_listed) := ⟨rfl, rfl, rfl, by decide +kernel, rfl, by decide +kernel, by decide +kernel⟩
abbrev s_are_numbers : Stmt := top 7
abbrev N_are_numbers : List Str := ["value", "many", "item"]
theorem sc_are_numbers : FnScope N_are_numbers ["value", "many"] (defScope s_are_numbers) := ⟨rfl, rfl, rfl, by decide +kernel, rfl, by decide +kernel, by decide +kernel⟩
abbrev s_are_bits : Stmt := top 8
abbrev N_are_bits : List Str := ["value", "many", "item"]
theorem sc_are_bits : FnScope N_are_bits ["value", "many"] (defScope s_are_bits) := ⟨rfl, rfl, rfl, by decide +kernel, rfl, by decide +kernel, by decide +kernel⟩
abbrev s_Wedge_init : Stmt := inClass (top 12) 0
abbrev N_Wedge_init : List Str := ["self", "pairs", "bits"]
theorem sc_Wedge_init : FnScope N_Wedge_init ["self", "pairs", "bits"] (defScope s_Wedge_init) := ⟨rfl, rfl, rfl, by decide +kernel, rfl, by decide +kernel, by decide +kernel⟩
abbrev s_Wedge_pairs : Stmt := inClass (top 12) 1
abbrev N_Wedge_pairs : List Str := ["self"]
theorem sc_Wedge_pairs : FnScope N_Wedge_pairs ["self"] (defScope s_Wedge_pairs) := ⟨rfl, rfl, rfl, by decide +kernel, rfl, by decide +kernel, by decide +kernel⟩
abbrev s_Wedge_bits : Stmt := inClass (top 12) 2
abbrev N_Wedge_bits : List Str := ["self"]
theorem sc_Wedge_bits : FnScope N_Wedge_bits ["self"] (defScope s_Wedge_bits) := ⟨rfl, rfl, rfl, by decide +kernel, rfl, by decide +kernel, by decide +kernel⟩
abbrev s_Wedge_add : Stmt := inClass (top 12) 10
abbrev N_Wedge_add : List Str := ["self", "other", "pairs", "one", "two"]
theorem sc_Wedge_add : FnScope N_Wedge_add ["self", "other"] (defScope s_Wedge_add) := ⟨rfl, rfl, rfl, by decide +kernel, rfl, by decide +kernel, by decide +kernel⟩
abbrev s_Wedge_sub : Stmt := inClass (top 12) 11
abbrev N_Wedge_sub : List Str := ["self", "other", "pairs", "one", "two"]
theorem sc_Wedge_sub : FnScope N_Wedge_sub ["self", "other"] (defScope s_Wedge_sub) := ⟨rfl, rfl, rfl, by decide +kernel, rfl, by decide +kernel, by decide +kernel⟩
abbrev s_Wedge_neg : Stmt := inClass (top 12) 12
abbrev N_Wedge_neg : List Str := ["self", "number"]
theorem sc_Wedge_neg : FnScope N_Wedge_neg ["self"] (defScope s_Wedge_neg) := ⟨rfl, rfl, rfl, by decide +kernel, rfl, by decide +kernel, by decide +kernel⟩
abbrev s_Wedge_mul : Stmt := inClass (top 12) 13
abbrev N_Wedge_mul : List Str := ["self", "k", "number", "bit"]
theorem sc_Wedge_mul : FnScope N_Wedge_mul ["self", "k"] (defScope s_Wedge_mul) := ⟨rfl, rfl, rfl, by decide +kernel, rfl, by decide +kernel, by decide +kernel⟩
abbrev s_Wedge_rmul : Stmt := inClass (top 12) 14
abbrev N_Wedge_rmul : List Str := ["self", "k", "number", "bit"]
theorem sc_Wedge_rmul : FnScope N_Wedge_rmul ["self", "k"] (defScope s_Wedge_rmul) := ⟨rfl, rfl, rfl, by decide +kernel, rfl, by decide +kernel, by decide +kernel⟩
abbrev s_Wedge_eq : Stmt := inClass (top 12) 15
abbrev N_Wedge_eq : List Str := ["self", "other"]
theorem sc_Wedge_eq : FnScope N_Wedge_eq ["self", "other"] (defScope s_Wedge_eq) := ⟨rfl, rfl, rfl, by decide +kernel, rfl, by decide +kernel, by decide +kernel⟩
abbrev s_Wedge_bool : Stmt := inClass (top 12) 16
abbrev N_Wedge_bool : List Str := ["self"]
theorem sc_Wedge_bool : FnScope N_Wedge_bool ["self"] (defScope s_Wedge_bool) := ⟨rfl, rfl, rfl, by decide +kernel, rfl, by decide +kernel, by decide +kernel⟩
abbrev s_nothing : Stmt := top 13
abbrev N_nothing : List Str := []
theorem sc_nothing : FnScope N_nothing [] (defScope s_nothing) := ⟨rfl, rfl, rfl, by decide +kernel, rfl, by decide +kernel, by decide +kernel⟩
abbrev s_l_bag : Stmt := top 15
abbrev N_l_bag : List Str := ["_law_script", "_law_seed", "_law_cell"]
theorem sc_l_bag : FnScope N_l_bag ["_law_script"] (defScope s_l_bag) := ⟨rfl, rfl, rfl, by decide +kernel, rfl, by decide +kernel, by decide +kernel⟩
abbrev s_l_draw : Stmt := top 16
abbrev N_l_draw : List Str := ["_law_bag_here", "_law_sides", "_law_cell", "_law_digit", "_law_seed"]
theorem sc_l_draw : FnScope N_l_draw ["_law_bag_here", "_law_sides"] (defScope s_l_draw) := ⟨rfl, rfl, rfl, by decide +kernel, rfl, by decide +kernel, by decide +kernel⟩
abbrev s_l_of : Stmt := top 17
abbrev N_l_of : List Str := ["_law_bag_here", "_law_things"]
theorem sc_l_of : FnScope N_l_of ["_law_bag_here", "_law_things"] (defScope s_l_of) := ⟨rfl, rfl, rfl, by decide +kernel, rfl, by decide +kernel, by decide +kernel⟩
abbrev s_l_same : Stmt := top 18
abbrev N_l_same : List Str := ["_law_found", "_law_due", "_law_x", "_law_y"]
theorem sc_l_same : FnScope N_l_same ["_law_found", "_law_due"] (defScope s_l_same) := ⟨rfl, rfl, rfl, by decide +kernel, rfl, by decide +kernel, by decide +kernel⟩
abbrev s_l_twos : Stmt := top 19
abbrev N_l_twos : List Str := ["_law_found", "_law_i", "_law_j"]
theorem sc_l_twos : FnScope N_l_twos [] (defScope s_l_twos) := ⟨rfl, rfl, rfl, by decide +kernel, rfl, by decide +kernel, by decide +kernel⟩
abbrev s_l_added : Stmt := top 20
abbrev N_l_added : List Str := ["_law_w", "_law_z", "_law_x", "_law_y"]
theorem sc_l_added : FnScope N_l_added ["_law_w", "_law_z"] (defScope s_l_added) := ⟨rfl, rfl, rfl, by decide +kernel, rfl, by decide +kernel, by decide +kernel⟩
abbrev s_l_none : Stmt := top 21
abbrev N_l_none : List Str := []
theorem sc_l_none : FnScope N_l_none [] (defScope s_l_none) := ⟨rfl, rfl, rfl, by decide +kernel, rfl, by decide +kernel, by decide +kernel⟩
abbrev s_l_wedge_seen : Stmt := top 22
abbrev N_l_wedge_seen : List Str := ["_law_w"]
theorem sc_l_wedge_seen : FnScope N_l_wedge_seen ["_law_w"] (defScope s_l_wedge_seen) := ⟨rfl, rfl, rfl, by decide +kernel, rfl, by decide +kernel, by decide +kernel⟩
abbrev s_l_wedge_due : Stmt := top 23
abbrev N_l_wedge_due : List Str := ["_law_w"]
theorem sc_l_wedge_due : FnScope N_l_wedge_due ["_law_w"] (defScope s_l_wedge_due) := ⟨rfl, rfl, rfl, by decide +kernel, rfl, by decide +kernel, by decide +kernel⟩
abbrev s_l_wedge_drawn : Stmt := top 24
abbrev N_l_wedge_drawn : List Str := ["_law_bag_here", "_law_kind", "_law_found", "_law_wide", "_law_thin", "_law_drawn", "_law_turn", "_law_a", "_law_b", "_law_n", "_law_more", "_law_i", "_law_j"]
theorem sc_l_wedge_drawn : FnScope N_l_wedge_drawn ["_law_bag_here"] (defScope s_l_wedge_drawn) := ⟨rfl, rfl, rfl, by decide +kernel, rfl, by decide +kernel, by decide +kernel⟩
abbrev s_l_wedge_made : Stmt := top 25
abbrev N_l_wedge_made : List Str := ["_law_w"]
theorem sc_l_wedge_made : FnScope N_l_wedge_made ["_law_w"] (defScope s_l_wedge_made) := ⟨rfl, rfl, rfl, by decide +kernel, rfl, by decide +kernel, by decide +kernel⟩
abbrev s_l_times : Stmt := top 26
abbrev N_l_times : List Str := ["_law_w", "_law_n", "_law_x"]
theorem sc_l_times : FnScope N_l_times ["_law_w", "_law_n"] (defScope s_l_times) := ⟨rfl, rfl, rfl, by decide +kernel, rfl, by decide +kernel, by decide +kernel⟩
abbrev s_l_opposite : Stmt := top 27
abbrev N_l_opposite : List Str := ["_law_w", "_law_x"]
theorem sc_l_opposite : FnScope N_l_opposite ["_law_w"] (defScope s_l_opposite) := ⟨rfl, rfl, rfl, by decide +kernel, rfl, by decide +kernel, by decide +kernel⟩
abbrev s_l_all_so : Stmt := top 28
abbrev N_l_all_so : List Str := ["_law_told", "_law_dues", "_law_w"]
theorem sc_l_all_so : FnScope N_l_all_so ["_law_told", "_law_dues"] (defScope s_l_all_so) := ⟨rfl, rfl, rfl, by decide +kernel, rfl, by decide +kernel, by decide +kernel⟩
abbrev s_law : Stmt := top 29
abbrev N_law : List Str := ["_law_script", "_law_bag_here", "_law_x", "_law_y", "_law_z", "_law_a", "_law_b", "_law_c", "_law_n", "_law_m", "_law_both", "_law_told", "_law_dues", "_law_due"]
theorem sc_law : FnScope N_law ["_law_script"] (defScope s_law) := ⟨rfl, rfl, rfl, by decide +kernel, rfl, by decide +kernel, by decide +kernel⟩
structure InsOk (K : PySem.W.Frag) (C : Addr) : Prop where
  ca : PySem.W.findIn K (.ref C) "__class__" = some (some (.builtin "object.__class__"))
  cn : PySem.W.specialIn K (.builtin "object.__class__") "__get__" = some (some (.builtin "getset_descriptor.__get__"))
  ct : PySem.W.takesIn K (.builtin "object.__class__") = some true
  cm : PySem.W.mroIn K C (.type "object") = some true
  me : PySem.W.kitOne K (.ref C) (.ref C) = some true
structure Tx (K : PySem.W.Frag) (mg : Str → Option Value) : Type where
  z_len : mg "len" = none
  z_abs : mg "abs" = none
  z_int : mg "int" = none
  z_isinstance : mg "isinstance" = none
  z_list : mg "list" = none
  z_tuple : mg "tuple" = none
  z_bool : mg "bool" = none
  z_str : mg "str" = none
  z_all : mg "all" = none
  z_any : mg "any" = none
  z_zip : mg "zip" = none
  z_range : mg "range" = none
  C_Wedge : Addr
  c_Wedge : Cls K C_Wedge
  g_Wedge : mg "Wedge" = some (.ref C_Wedge)
  n_Wedge_pairs : NoAttr K C_Wedge "_pairs"
  n_Wedge_bits : NoAttr K C_Wedge "_bits"
  i_Wedge : InsOk K C_Wedge
  e_PRIMES : Addr
  m_PRIMES : mg "PRIMES" = some (.ref e_PRIMES)
  q_PRIMES : ∀ H : Hp, SqT K H e_PRIMES [.int 2, .int 3, .int 5, .int 7, .int 11, .int 13]
  e_PAIRS : Addr
  m_PAIRS : mg "PAIRS" = some (.ref e_PAIRS)
  l_PAIRS : ∃ xs : List V, xs.length = 15 ∧ ∀ H : Hp, SqT K H e_PAIRS xs
  e_bits : Addr
  q_bits : ∀ H : Hp, SqT K H e_bits [.int 0, .int 0, .int 0, .int 0, .int 0, .int 0]
  f_is_number : Addr
  d_is_number : FuncData
  F_is_number : Fun K "is_number" "is_number" s_is_number f_is_number d_is_number
  b_is_number : Binds K d_is_number ["value"] []
  m_is_number : mg "is_number" = some (.ref f_is_number)
  f_is_listed : Addr
  d_is_listed : FuncData
  F_is_listed : Fun K "is_listed" "is_listed" s_is_listed f_is_listed d_is_listed
  b_is_listed : Binds K d_is_listed ["value"] []
  m_is_listed : mg "is_listed" = some (.ref f_is_listed)
  f_are_numbers : Addr
  d_are_numbers : FuncData
  F_are_numbers : Fun K "are_numbers" "are_numbers" s_are_numbers f_are_numbers d_are_numbers
  b_are_numbers : Binds K d_are_numbers ["value", "many"] []
  m_are_numbers : mg "are_numbers" = some (.ref f_are_numbers)
  f_are_bits : Addr
  d_are_bits : FuncData
  F_are_bits : Fun K "are_bits" "are_bits" s_are_bits f_are_bits d_are_bits
  b_are_bits : Binds K d_are_bits ["value", "many"] []
  m_are_bits : mg "are_bits" = some (.ref f_are_bits)
  f_Wedge_init : Addr
  d_Wedge_init : FuncData
  F_Wedge_init : FunD K "__init__" "Wedge.__init__" (defArgs s_Wedge_init) (defBody s_Wedge_init) (defScope s_Wedge_init) [V.ref e_bits] [] f_Wedge_init d_Wedge_init
  ds_Wedge_init : List Value
  v_Wedge_init : Vals [V.ref e_bits] ds_Wedge_init
  b_Wedge_init : Binds K d_Wedge_init ["self", "pairs", "bits"] []
  b1_Wedge_init : Binds K d_Wedge_init ["self", "pairs", "bits"] ds_Wedge_init
  k_Wedge : Mk K C_Wedge f_Wedge_init
  f_Wedge_pairs : Addr
  d_Wedge_pairs : FuncData
  F_Wedge_pairs : Fun K "pairs" "Wedge.pairs" s_Wedge_pairs f_Wedge_pairs d_Wedge_pairs
  b_Wedge_pairs : Binds K d_Wedge_pairs ["self"] []
  a_Wedge_pairs : Meth K C_Wedge "pairs" f_Wedge_pairs
  f_Wedge_bits : Addr
  d_Wedge_bits : FuncData
  F_Wedge_bits : Fun K "bits" "Wedge.bits" s_Wedge_bits f_Wedge_bits d_Wedge_bits
  b_Wedge_bits : Binds K d_Wedge_bits ["self"] []
  a_Wedge_bits : Meth K C_Wedge "bits" f_Wedge_bits
  f_Wedge_add : Addr
  d_Wedge_add : FuncData
  F_Wedge_add : Fun K "__add__" "Wedge.__add__" s_Wedge_add f_Wedge_add d_Wedge_add
  b_Wedge_add : Binds K d_Wedge_add ["self", "other"] []
  a_Wedge_add : Meth K C_Wedge "__add__" f_Wedge_add
  f_Wedge_sub : Addr
  d_Wedge_sub : FuncData
  F_Wedge_sub : Fun K "__sub__" "Wedge.__sub__" s_Wedge_sub f_Wedge_sub d_Wedge_sub
  b_Wedge_sub : Binds K d_Wedge_sub ["self", "other"] []
  a_Wedge_sub : Meth K C_Wedge "__sub__" f_Wedge_sub
  f_Wedge_neg : Addr
  d_Wedge_neg : FuncData
  F_Wedge_neg : Fun K "__neg__" "Wedge.__neg__" s_Wedge_neg f_Wedge_neg d_Wedge_neg
  b_Wedge_neg : Binds K d_Wedge_neg ["self"] []
  a_Wedge_neg : Meth K C_Wedge "__neg__" f_Wedge_neg
  f_Wedge_mul : Addr
  d_Wedge_mul : FuncData
  F_Wedge_mul : Fun K "__mul__" "Wedge.__mul__" s_Wedge_mul f_Wedge_mul d_Wedge_mul
  b_Wedge_mul : Binds K d_Wedge_mul ["self", "k"] []
  a_Wedge_mul : Meth K C_Wedge "__mul__" f_Wedge_mul
  f_Wedge_rmul : Addr
  d_Wedge_rmul : FuncData
  F_Wedge_rmul : Fun K "__rmul__" "Wedge.__rmul__" s_Wedge_rmul f_Wedge_rmul d_Wedge_rmul
  b_Wedge_rmul : Binds K d_Wedge_rmul ["self", "k"] []
  a_Wedge_rmul : Meth K C_Wedge "__rmul__" f_Wedge_rmul
  f_Wedge_eq : Addr
  d_Wedge_eq : FuncData
  F_Wedge_eq : Fun K "__eq__" "Wedge.__eq__" s_Wedge_eq f_Wedge_eq d_Wedge_eq
  b_Wedge_eq : Binds K d_Wedge_eq ["self", "other"] []
  a_Wedge_eq : Meth K C_Wedge "__eq__" f_Wedge_eq
  f_Wedge_bool : Addr
  d_Wedge_bool : FuncData
  F_Wedge_bool : Fun K "__bool__" "Wedge.__bool__" s_Wedge_bool f_Wedge_bool d_Wedge_bool
  b_Wedge_bool : Binds K d_Wedge_bool ["self"] []
  a_Wedge_bool : Meth K C_Wedge "__bool__" f_Wedge_bool
  f_nothing : Addr
  d_nothing : FuncData
  F_nothing : Fun K "nothing" "nothing" s_nothing f_nothing d_nothing
  b_nothing : Binds K d_nothing [] []
  m_nothing : mg "nothing" = some (.ref f_nothing)
  f_l_bag : Addr
  d_l_bag : FuncData
  F_l_bag : Fun K "_law_bag" "_law_bag" s_l_bag f_l_bag d_l_bag
  b_l_bag : Binds K d_l_bag ["_law_script"] []
  m_l_bag : mg "_law_bag" = some (.ref f_l_bag)
  f_l_draw : Addr
  d_l_draw : FuncData
  F_l_draw : Fun K "_law_draw" "_law_draw" s_l_draw f_l_draw d_l_draw
  b_l_draw : Binds K d_l_draw ["_law_bag_here", "_law_sides"] []
  m_l_draw : mg "_law_draw" = some (.ref f_l_draw)
  f_l_of : Addr
  d_l_of : FuncData
  F_l_of : Fun K "_law_of" "_law_of" s_l_of f_l_of d_l_of
  b_l_of : Binds K d_l_of ["_law_bag_here", "_law_things"] []
  m_l_of : mg "_law_of" = some (.ref f_l_of)
  f_l_same : Addr
  d_l_same : FuncData
  F_l_same : Fun K "_law_same" "_law_same" s_l_same f_l_same d_l_same
  b_l_same : Binds K d_l_same ["_law_found", "_law_due"] []
  m_l_same : mg "_law_same" = some (.ref f_l_same)
  f_l_twos : Addr
  d_l_twos : FuncData
  F_l_twos : Fun K "_law_twos" "_law_twos" s_l_twos f_l_twos d_l_twos
  b_l_twos : Binds K d_l_twos [] []
  m_l_twos : mg "_law_twos" = some (.ref f_l_twos)
  f_l_added : Addr
  d_l_added : FuncData
  F_l_added : Fun K "_law_added" "_law_added" s_l_added f_l_added d_l_added
  b_l_added : Binds K d_l_added ["_law_w", "_law_z"] []
  m_l_added : mg "_law_added" = some (.ref f_l_added)
  f_l_none : Addr
  d_l_none : FuncData
  F_l_none : Fun K "_law_none" "_law_none" s_l_none f_l_none d_l_none
  b_l_none : Binds K d_l_none [] []
  m_l_none : mg "_law_none" = some (.ref f_l_none)
  f_l_wedge_seen : Addr
  d_l_wedge_seen : FuncData
  F_l_wedge_seen : Fun K "_law_wedge_seen" "_law_wedge_seen" s_l_wedge_seen f_l_wedge_seen d_l_wedge_seen
  b_l_wedge_seen : Binds K d_l_wedge_seen ["_law_w"] []
  m_l_wedge_seen : mg "_law_wedge_seen" = some (.ref f_l_wedge_seen)
  f_l_wedge_due : Addr
  d_l_wedge_due : FuncData
  F_l_wedge_due : Fun K "_law_wedge_due" "_law_wedge_due" s_l_wedge_due f_l_wedge_due d_l_wedge_due
  b_l_wedge_due : Binds K d_l_wedge_due ["_law_w"] []
  m_l_wedge_due : mg "_law_wedge_due" = some (.ref f_l_wedge_due)
  f_l_wedge_drawn : Addr
  d_l_wedge_drawn : FuncData
  F_l_wedge_drawn : Fun K "_law_wedge_drawn" "_law_wedge_drawn" s_l_wedge_drawn f_l_wedge_drawn d_l_wedge_drawn
  b_l_wedge_drawn : Binds K d_l_wedge_drawn ["_law_bag_here"] []
  m_l_wedge_drawn : mg "_law_wedge_drawn" = some (.ref f_l_wedge_drawn)
  f_l_wedge_made : Addr
  d_l_wedge_made : FuncData
  F_l_wedge_made : Fun K "_law_wedge_made" "_law_wedge_made" s_l_wedge_made f_l_wedge_made d_l_wedge_made
  b_l_wedge_made : Binds K d_l_wedge_made ["_law_w"] []
  m_l_wedge_made : mg "_law_wedge_made" = some (.ref f_l_wedge_made)
  f_l_times : Addr
  d_l_times : FuncData
  F_l_times : Fun K "_law_times" "_law_times" s_l_times f_l_times d_l_times
  b_l_times : Binds K d_l_times ["_law_w", "_law_n"] []
  m_l_times : mg "_law_times" = some (.ref f_l_times)
  f_l_opposite : Addr
  d_l_opposite : FuncData
  F_l_opposite : Fun K "_law_opposite" "_law_opposite" s_l_opposite f_l_opposite d_l_opposite
  b_l_opposite : Binds K d_l_opposite ["_law_w"] []
  m_l_opposite : mg "_law_opposite" = some (.ref f_l_opposite)
  f_l_all_so : Addr
  d_l_all_so : FuncData
  F_l_all_so : Fun K "_law_all_so" "_law_all_so" s_l_all_so f_l_all_so d_l_all_so
  b_l_all_so : Binds K d_l_all_so ["_law_told", "_law_dues"] []
  m_l_all_so : mg "_law_all_so" = some (.ref f_l_all_so)
  f_law : Addr
  d_law : FuncData
  F_law : Fun K "law" "law" s_law f_law d_law
  b_law : Binds K d_law ["_law_script"] []
  m_law : mg "law" = some (.ref f_law)
  sf : PySem.W.selfFirst K C_Wedge = true
  sI : PySem.W.subIn K (.type "int") (.ref C_Wedge) = some false
  sC : PySem.W.subIn K (.ref C_Wedge) (.type "int") = some false
  iM : ∃ fo, PySem.W.findIn K (.type "int") ("__mul__" : Str) = some fo
  iR : ∃ ro, PySem.W.findIn K (.type "int") ("__rmul__" : Str) = some ro
/-! ### steps of a reading -/
local macro_rules | `(tactic| walk_at "hp") => `(tactic| first | assumption | exact upd_same | (refine (upd_ne (by first | assumption | (exact Ne.symm (by assumption)))).trans ?_; walk_at "hp"))
local macro_rules | `(tactic| walk_at "ok") => `(tactic| first | (exact Or.inr ⟨by decide, by decide⟩) | (exact ⟨by decide, by decide⟩) | (exact ⟨by decide, by decide, by decide⟩) | (show _ ≠ _; omega) | (show _ ≠ _; decide) | (exact Or.inl ⟨by omega, by omega⟩) | decide)
local macro_rules | `(tactic| walk_at "sq") => `(tactic| first | assumption | exact SqL.of (by walk_at "hp") | exact SqT.of (by walk_at "hp"))
local macro_rules | `(tactic| walk_at "ty") => `(tactic| first | refine ⟨_, _, Value.type "int", Value.type "list", false, rfl, ClsV.ty _, TyX.base (TyOf.int _), kt_int_list, ?_⟩ | refine ⟨_, _, Value.type "bool", Value.type "list", false, rfl, ClsV.ty _, TyX.base (TyOf.bl _), kt_bool_list, ?_⟩ | refine ⟨_, _, Value.type "str", Value.type "list", false, rfl, ClsV.ty _, TyX.base (TyOf.str _), kt_str_list, ?_⟩ | refine ⟨_, _, Value.type "NoneType", Value.type "list", false, rfl, ClsV.ty _, TyX.base TyOf.non, kt_NoneType_list, ?_⟩ | refine ⟨_, _, Value.type "list", Value.type "list", true, rfl, ClsV.ty _, tyx_L (by walk_at "sq"), kt_list_list, ?_⟩ | refine ⟨_, _, Value.type "tuple", Value.type "list", false, rfl, ClsV.ty _, tyx_T (by walk_at "sq"), kt_tuple_list, ?_⟩ | refine ⟨_, _, Value.type "int", Value.type "tuple", false, rfl, ClsV.ty _, TyX.base (TyOf.int _), kt_int_tuple, ?_⟩ | refine ⟨_, _, Value.type "bool", Value.type "tuple", false, rfl, ClsV.ty _, TyX.base (TyOf.bl _), kt_bool_tuple, ?_⟩ | refine ⟨_, _, Value.type "str", Value.type "tuple", false, rfl, ClsV.ty _, TyX.base (TyOf.str _), kt_str_tuple, ?_⟩ | refine ⟨_, _, Value.type "NoneType", Value.type "tuple", false, rfl, ClsV.ty _, TyX.base TyOf.non, kt_NoneType_tuple, ?_⟩ | refine ⟨_, _, Value.type "list", Value.type "tuple", false, rfl, ClsV.ty _, tyx_L (by walk_at "sq"), kt_list_tuple, ?_⟩ | refine ⟨_, _, Value.type "tuple", Value.type "tuple", true, rfl, ClsV.ty _, tyx_T (by walk_at "sq"), kt_tuple_tuple, ?_⟩ | refine ⟨_, _, Value.type "int", Value.type "bool", false, rfl, ClsV.ty _, TyX.base (TyOf.int _), kt_int_bool, ?_⟩ | refine ⟨_, _, Value.type "bool", Value.type "bool", true, rfl, ClsV.ty _, TyX.base (TyOf.bl _), kt_bool_bool, ?_⟩ | refine ⟨_, _, Value.type "str", Value.type "bool", false, rfl, ClsV.ty _, TyX.base (TyOf.str _), kt_str_bool, ?_⟩ | refine ⟨_, _, Value.type "NoneType", Value.type "bool", false, rfl, ClsV.ty _, TyX.base TyOf.non, kt_NoneType_bool, ?_⟩ | refine ⟨_, _, Value.type "list", Value.type "bool", false, rfl, ClsV.ty _, tyx_L (by walk_at "sq"), kt_list_bool, ?_⟩ | refine ⟨_, _, Value.type "tuple", Value.type "bool", false, rfl, ClsV.ty _, tyx_T (by walk_at "sq"), kt_tuple_bool, ?_⟩ | refine ⟨_, _, Value.type "int", Value.type "int", true, rfl, ClsV.ty _, TyX.base (TyOf.int _), kt_int_int, ?_⟩ | refine ⟨_, _, Value.type "bool", Value.type "int", true, rfl, ClsV.ty _, TyX.base (TyOf.bl _), kt_bool_int, ?_⟩ | refine ⟨_, _, Value.type "str", Value.type "int", false, rfl, ClsV.ty _, TyX.base (TyOf.str _), kt_str_int, ?_⟩ | refine ⟨_, _, Value.type "NoneType", Value.type "int", false, rfl, ClsV.ty _, TyX.base TyOf.non, kt_NoneType_int, ?_⟩ | refine ⟨_, _, Value.type "list", Value.type "int", false, rfl, ClsV.ty _, tyx_L (by walk_at "sq"), kt_list_int, ?_⟩ | refine ⟨_, _, Value.type "tuple", Value.type "int", false, rfl, ClsV.ty _, tyx_T (by walk_at "sq"), kt_tuple_int, ?_⟩ | refine ⟨_, _, Value.type "int", Value.type "str", false, rfl, ClsV.ty _, TyX.base (TyOf.int _), kt_int_str, ?_⟩ | refine ⟨_, _, Value.type "bool", Value.type "str", false, rfl, ClsV.ty _, TyX.base (TyOf.bl _), kt_bool_str, ?_⟩ | refine ⟨_, _, Value.type "str", Value.type "str", true, rfl, ClsV.ty _, TyX.base (TyOf.str _), kt_str_str, ?_⟩ | refine ⟨_, _, Value.type "NoneType", Value.type "str", false, rfl, ClsV.ty _, TyX.base TyOf.non, kt_NoneType_str, ?_⟩ | refine ⟨_, _, Value.type "list", Value.type "str", false, rfl, ClsV.ty _, tyx_L (by walk_at "sq"), kt_list_str, ?_⟩ | refine ⟨_, _, Value.type "tuple", Value.type "str", false, rfl, ClsV.ty _, tyx_T (by walk_at "sq"), kt_tuple_str, ?_⟩)
local macro_rules | `(tactic| walk_at "go1") => `(tactic| first
  | (refine ⟨_, rfl, ?_⟩)
  | (refine ⟨_, _, rfl, rfl, ?_⟩)
  | (refine ⟨_, _, _, _, rfl, rfl, SqL.of (by walk_at "hp"), rfl, ?_⟩)
  | (refine Or.inl ⟨_, rfl, ?_⟩)
  | (refine ⟨rfl, ?_⟩)
  | (refine ⟨_, _, rfl, .inl (SqL.of (by walk_at "hp")), ?_⟩)
  | (refine ⟨_, _, rfl, Or.inl (by assumption), ?_⟩)
  | (refine ⟨_, _, rfl, Or.inr (by assumption), ?_⟩)
  | (refine ⟨(by walk_at "ok"), ?_⟩)
  | (refine ⟨_, _, _, _, rfl, rfl, (by walk_at "hp"), rfl, ?_⟩))
local macro_rules | `(tactic| walk_at "go") => `(tactic| repeat (walk_at "go1"))
local macro_rules | `(tactic| walk_at "gt") => `(tactic| repeat (first | walk_at "go1" | walk_at "ty"))

/-! ### the law's own helpers -/
section
variable {P : Program} {w : World} {K : PySem.W.Frag} {mg : Str → Option Value} {base : Heap}
def spDraw : Sp := fun vs H Q _ => ∃ (B : Bg) (n : Int), vs = [.ref B.b, .int n] ∧ 0 < n ∧ n.natAbs < 2 ^ 200 ∧ Bag B H ∧ ∀ (d : Int) (H' : Hp), 0 ≤ d → d < n → Bag B H' → Kb B.b H H' → Q (.int d) H'
theorem ok_draw (T : Tx K mg) : FnOk P w K mg base CX0 1 T.f_l_draw T.d_l_draw ["_law_bag_here", "_law_sides"] spDraw := by
  refine T.F_l_draw.ok sc_l_draw (fun vs H Q E h => ?_) (fun cdv A outer s H vs Q E hr h => ?_)
  · obtain ⟨g, n, rfl, _⟩ := h
    rfl
  obtain ⟨⟨g, L, ns⟩, n, rfl, hn, hn2, ⟨⟨i, r, z, c, hg, hi, hrr, hz, hz2⟩, hL, hne⟩, q⟩ := h
  dsimp only at hg hL hne q
  have nd := sc_l_draw.nd
  refine ⟨_, (pss_cut (ps_if (PW.pt (pw_and (pt_cmpR op_eq (pe_ix (show IxR _ (rIxL K) from ix_list) (pv 0) pe_int (fun _ _ => rfl)) pe_int (nomark _)) (pw_and1 (pt_cmpR op_lt (pe_ix (show IxR _ (rIxL K) from ix_list) (pv 0) pe_int (fun _ _ => rfl)) (pe_callB (show CallR _ _ (rLenSq K) from call_len_seq) (by rfl) T.z_len (by decide +kernel) (pa_cons (pe_ix (show IxR _ (rIxL K) from ix_list) (pv 0) pe_int (fun _ _ => rfl)) pa_nil)) (nomark _))))) (pss_cons (ps_set (i := 2) nd rfl (Or.inl rfl) (pe_callB call_abs (by rfl) T.z_abs (by decide +kernel) (pa_cons (pe_callTy call_int1 (by rfl) T.z_int (by decide +kernel) (pa_cons (pe_ix (show IxR _ (rIxL K) from ix_list) (pe_ix (show IxR _ (rIxL K) from ix_list) (pv 0) pe_int (fun _ _ => rfl)) (pe_ix (show IxR _ (rIxL K) from ix_list) (pv 0) pe_int (fun _ _ => rfl)) (fun _ _ => rfl)) pa_nil)) pa_nil)))
    (pss_cons (ps_asg (pe_op op_add (pe_ix (show IxR _ (rIxL K) from ix_list) (pv 0) pe_int (fun _ _ => rfl)) pe_int) (pg_sub (pv 0) pe_int set_list))
    (pss_one (ps_if (pt_cmpR op_ge (pv 2) (pe_op op_pow pe_int pe_int) (nomark _)) (pss_one (ps_asg (pv 2) (pg_sub (pv 0) pe_int set_list))) (pss_one (ps_asg (pe_op op_modN (pe_callTy call_int1 (by rfl) T.z_int (by decide +kernel) (pa_cons (pe_op op_add (pe_op op_add (pe_op op_mul (pe_ix (show IxR _ (rIxL K) from ix_list) (pv 0) pe_int (fun _ _ => rfl)) pe_int) (pe_op op_mul (pe_op op_modN (pv 2) pe_int) pe_int)) pe_int) pa_nil)) pe_int) (pg_sub (pv 0) pe_int set_list))))))) pss_nil)
    (pss_cons (ps_if (pt_cmpR op_gt (pe_ix (show IxR _ (rIxL K) from ix_list) (pv 0) pe_int (fun _ _ => rfl)) pe_int (nomark _)) (pss_cons (ps_set (i := 3) nd rfl (Or.inl rfl) (pe_op op_modN (pe_callTy call_int1 (by rfl) T.z_int (by decide +kernel) (pa_cons (pe_ix (show IxR _ (rIxL K) from ix_list) (pv 0) pe_int (fun _ _ => rfl)) pa_nil)) (pv 1)))
    (pss_cons (ps_asg (pe_op op_fdivW (pe_ix (show IxR _ (rIxL K) from ix_list) (pv 0) pe_int (fun _ _ => rfl)) (pv 1)) (pg_sub (pv 0) pe_int set_list))
    (pss_one (ps_ret (pv 3))))) pss_nil)
    (pss_cons (ps_asg (pe_op op_add (pe_ix (show IxR _ (rIxL K) from ix_list) (pv 0) pe_int (fun _ _ => rfl)) pe_int) (pg_sub (pv 0) pe_int set_list))
    (pss_cons (ps_set (i := 4) nd rfl (Or.inl rfl) (pe_callTy call_int1 (by rfl) T.z_int (by decide +kernel) (pa_cons (pe_ix (show IxR _ (rIxL K) from ix_list) (pv 0) pe_int (fun _ _ => rfl)) pa_nil)))
    (pss_cons (ps_asg (pe_op op_modN (pe_callTy call_int1 (by rfl) T.z_int (by decide +kernel) (pa_cons (pe_op op_add (pe_op op_add (pe_op op_add (pe_op op_mul (pe_op op_mul (pv 4) (pv 4)) pe_int) (pe_op op_mul (pv 4) pe_int)) (pe_op op_mul (pe_ix (show IxR _ (rIxL K) from ix_list) (pv 0) pe_int (fun _ _ => rfl)) pe_int)) pe_int) pa_nil)) pe_int) (pg_sub (pv 0) pe_int set_list))
    (pss_one (ps_ret (pe_op op_modN (pe_callTy call_int1 (by rfl) T.z_int (by decide +kernel) (pa_cons (pe_op op_add (pe_op op_fdivN (pe_ix (show IxR _ (rIxL K) from ix_list) (pv 0) pe_int (fun _ _ => rfl)) pe_int) (pe_op op_mul (pe_op op_modN (pe_callTy call_int1 (by rfl) T.z_int (by decide +kernel) (pa_cons (pe_ix (show IxR _ (rIxL K) from ix_list) (pv 0) pe_int (fun _ _ => rfl)) pa_nil)) pe_int) pe_int)) pa_nil)) (pv 1))))))))), ?_⟩
  refine ⟨fun σ' H' => (∃ a : Option V, σ' = [some (.ref g), some (.int n), a, none, none]) ∧ Bag ⟨g, L, ns⟩ H' ∧ Kb g H H', ?_, ?_⟩
  · walk_at "go"
    refine ite2 (fun c1 => ?_) (fun c1 => ?_)
    · walk_at "go"
      refine ite2 (fun c2 => ?_) (fun c2 => ?_)
      · have c2' : i < (((ns.map V.int).length : Nat) : Int) := of_decide_eq_true c2
        rw [List.length_map] at c2'
        have hk : i.toNat < ns.length := by omega
        walk_at "go"
        refine ⟨L, ns.map V.int, i, V.int ns[i.toNat], rfl, rfl, SqL.of hL, at_of (j := i.toNat) (by omega) (by rw [List.getElem?_map, List.getElem?_eq_getElem hk]; rfl), ?_⟩
        walk_at "go"
        have c3 : 0 ≤ (if ns[i.toNat] < 0 then -ns[i.toNat] else ns[i.toNat]) := by split <;> omega
        refine ite2 (fun _ => ?_) (fun _ => ?_)
        · walk_at "go"
          exact ⟨⟨_, rfl⟩, ⟨⟨i + 1, _, z, c, upd_same, by omega, c3, hz, hz2⟩, by rw [upd_ne hne, upd_ne hne]; exact hL, hne⟩, Kb.at.trans Kb.at⟩
        · walk_at "go"
          have m1 := fm (i := z * 69621 + (if ns[i.toNat] < 0 then -ns[i.toNat] else ns[i.toNat]).fmod 1000003 * 907 + 29) (j := 2147483629) (by decide)
          exact ⟨⟨_, rfl⟩, ⟨⟨i + 1, r, _, c, upd_same, by omega, hrr, m1.1, by omega⟩, by rw [upd_ne hne, upd_ne hne]; exact hL, hne⟩, Kb.at.trans Kb.at⟩
      · exact ⟨⟨_, rfl⟩, ⟨⟨i, r, z, c, hg, hi, hrr, hz, hz2⟩, hL, hne⟩, Kb.refl _ _⟩
    · walk_at "go"
      exact ⟨⟨_, rfl⟩, ⟨⟨i, r, z, c, hg, hi, hrr, hz, hz2⟩, hL, hne⟩, Kb.refl _ _⟩
  · clear hg hL hne hi hrr hz hz2
    rintro σ' H' ⟨⟨a, rfl⟩, ⟨⟨i, r, z, c, hg, hi, hrr, hz, hz2⟩, hL, hne⟩, kb⟩
    dsimp only at hg hL hne
    walk_at "go"
    refine ite2 (fun c1 => ?_) (fun c1 => ?_)
    · have m1 := fm (i := r) (j := n) hn
      walk_at "go"
      refine ⟨wide_div hn hn2 (by decide) (by decide), ?_⟩
      walk_at "go"
      exact q _ _ m1.1 m1.2 ⟨⟨i, _, z, c, upd_same, hi, Int.ediv_nonneg hrr (by omega), hz, hz2⟩, by rw [upd_ne hne]; exact hL, hne⟩ (kb.trans Kb.at)
    · walk_at "go"
      have m1 := fm (i := z * z * 19 + z * 50021 + (c + 1) * 7877 + 40009) (j := 2147483587) (by decide)
      have m2 := fm (i := ((z * z * 19 + z * 50021 + (c + 1) * 7877 + 40009).fmod 2147483587).fdiv 89 + ((z * z * 19 + z * 50021 + (c + 1) * 7877 + 40009).fmod 2147483587).fmod 9973 * 53) (j := n) hn
      exact q _ _ m2.1 m2.2 ⟨⟨i, r, _, _, upd_same, hi, hrr, m1.1, by omega⟩, by rw [upd_ne hne, upd_ne hne]; exact hL, hne⟩ ((kb.trans Kb.at).trans Kb.at)
/-- the law's bag of a script -/
def spBag (K : PySem.W.Frag) : Sp := fun vs H Q _ => ∃ (a : Addr) (ns : List Int), vs = [.ref a] ∧ SqL K H a (ns.map V.int) ∧ ns.length ≤ 63 ∧ ∀ (B : Bg) (H' : Hp), Same H H' → Bag B H' → H B.b = none → Q (.ref B.b) H'
theorem cut63 {xs : List V} (h : xs.length ≤ 63) : cutV xs none (some 63) = xs := by
  unfold cutV
  have e1 : HT.sIx xs.length 0 none = 0 := rfl
  have e2 : HT.sIx xs.length xs.length (some 63) = xs.length := by
    unfold HT.sIx
    simp
    omega
  rw [e1, e2]
  simp
theorem ok_bag (T : Tx K mg) : FnOk P w K mg base CX0 1 T.f_l_bag T.d_l_bag ["_law_script"] (spBag K) := by
  refine T.F_l_bag.ok sc_l_bag (fun vs H Q E h => ?_) (fun cdv A outer s H vs Q E hr h => ?_)
  · obtain ⟨a, ns, rfl, _⟩ := h
    rfl
  obtain ⟨a, ns, rfl, hS, h63, q⟩ := h
  have nd := sc_l_bag.nd
  have hc : cutV (ns.map V.int) none (some 63) = ns.map V.int := cut63 (by rw [List.length_map]; exact h63)
  refine ⟨_, (pss_cons (ps_set (i := 1) nd rfl (Or.inl rfl) pe_int)
    (pss_cons (ps_for PassesOwn.never rfl (show PI _ _ _ (iList K _) from pi_list (pe_slice (show SlR _ (rSlL K) from sl_list) (pv 0) po_none (po_some pe_int))) (pg_name (i := 2) nd rfl (Or.inl rfl)) (pss_one (ps_set (i := 1) nd rfl (Or.inl rfl) (pe_op op_modN (pe_callTy call_int1 (by rfl) T.z_int (by decide +kernel) (pa_cons (pe_op op_add (pe_op op_add (pe_op op_mul (pv 1) pe_int) (pe_op op_mul (pe_op op_modN (pe_callTy call_int1 (by rfl) T.z_int (by decide +kernel) (pa_cons (pv 2) pa_nil)) pe_int) pe_int)) pe_int) pa_nil)) pe_int))))
    (pss_one (ps_ret (pe_lst (pa_cons (pe_callTy (show CallR _ _ (rListOf K) from call_list_of) (by rfl) T.z_list (by decide +kernel) (pa_cons (pe_slice (show SlR _ (rSlL K) from sl_list) (pv 0) po_none (po_some pe_int)) pa_nil)) (pa_cons pe_int (pa_cons pe_int (pa_cons (pv 1) (pa_cons pe_int pa_nil)))))))))), ?_⟩
  refine ⟨_, rfl, _, rfl, a, _, rfl, hS, fun p hp => ?_⟩
  rw [hc]
  refine ⟨p, rfl, ⟨_, SqL.of upd_same⟩, for_list (K := K) (a := p) (xs := ns.map V.int) (fun i σ' H' => (∃ (z : Int) (v : Option V), σ' = [some (.ref a), some (.int z), v] ∧ 0 ≤ z ∧ z < 2147483648) ∧ H' = upd H p (.lst (ns.map V.int)))
    ⟨⟨7919, none, rfl, by decide, by decide⟩, rfl⟩ (fun i σ' H' _ h => by rw [h.2]; exact SqL.of upd_same) ?_ ?_⟩
  · rintro i y σ' H' hi ⟨⟨z, v, rfl, h1, h2⟩, rfl⟩
    obtain ⟨k, rfl⟩ : ∃ k, y = V.int k := by
      rw [List.getElem?_map] at hi
      cases e : ns[i]? with
      | none => rw [e] at hi; cases hi
      | some k => rw [e] at hi; exact ⟨k, (Option.some.inj hi).symm⟩
    walk_at "go"
    have m1 := fm (i := z * 48271 + k.fmod 1000003 * 401 + 13) (j := 2147483647) (by decide)
    exact ⟨⟨_, _, rfl, m1.1, by omega⟩, rfl⟩
  · rintro σ' H' ⟨⟨z, v, rfl, h1, h2⟩, rfl⟩
    have s1 : Same H (upd H p (.lst (ns.map V.int))) := Same.new hp
    refine ⟨_, rfl, _, rfl, a, _, rfl, s1.seq hS, fun p2 hp2 => ?_⟩
    rw [hc]
    have s2 := s1.trans (Same.new (o := .lst (ns.map V.int)) hp2)
    refine ⟨_, _, rfl, .inl (SqL.of upd_same), fun p3 hp3 => ?_⟩
    have s3 := s2.trans (Same.new (o := .lst (ns.map V.int)) hp3)
    walk_at "go"
    refine ⟨(by show 5 ≤ sizeLine; decide), fun p4 hp4 => ?_⟩
    have n4 : p3 ≠ p4 := ne_of_none upd_same hp4
    exact q ⟨p4, p3, ns⟩ _ (s3.trans (Same.new hp4)) ⟨⟨0, 0, z, 0, upd_same, by decide, by decide, h1, h2⟩, by rw [upd_ne n4]; exact upd_same, n4⟩ (s3.free hp4)
/-- one of some things -/
def spOf (K : PySem.W.Frag) : Sp := fun vs H Q _ => ∃ (B : Bg) (a : Addr) (xs : List V), vs = [.ref B.b, .ref a] ∧ SqL K H a xs ∧ a ≠ B.b ∧ 0 < xs.length ∧ xs.length ≤ 1000 ∧ Bag B H ∧ ∀ (i : Nat) (v : V) (H' : Hp), xs[i]? = some v → Bag B H' → Kb B.b H H' → Q v H'
theorem Kb.seq {g : Addr} {H H' : Hp} {a : Addr} {xs : List V} (e : Kb g H H') (n : a ≠ g) (h : SqL K H a xs) : SqL K H' a xs := by
  rcases h with (h | ⟨o, h⟩) | h
  · exact .inl (.inl (e _ _ h n))
  · exact .inl (.inr ⟨o, e _ _ h n⟩)
  · exact .inr h
theorem ok_of (T : Tx K mg) : FnOk P w K mg base CX0 2 T.f_l_of T.d_l_of ["_law_bag_here", "_law_things"] (spOf K) := by
  have G_l_draw := ok_draw (P := P) (w := w) (base := base) T
  refine T.F_l_of.ok sc_l_of (fun vs H Q E h => ?_) (fun cdv A outer s H vs Q E hr h => ?_)
  · obtain ⟨B, a, xs, rfl, _⟩ := h
    rfl
  obtain ⟨B, a, xs, rfl, hS, hne, h0, h1, hB, q⟩ := h
  have nd := sc_l_of.nd
  refine ⟨_, (pss_one (ps_ret (pe_ix (show IxR _ (rIxL K) from ix_list) (pv 1) (pe_call G_l_draw (hr.mono (by decide)) (by rfl) T.m_l_draw T.F_l_draw.kp T.b_l_draw .nil pass0 (pa_cons (pv 0) (pa_cons (pe_callB (show CallR _ _ (rLenSq K) from call_len_seq) (by rfl) T.z_len (by decide +kernel) (pa_cons (pv 1) pa_nil)) pa_nil))) (fun _ _ => rfl)))), ?_⟩
  refine ⟨_, rfl, _, rfl, _, rfl, _, _, rfl, .inl hS, B, _, rfl, by omega, Nat.lt_of_le_of_lt (by omega : ((xs.length : Int)).natAbs ≤ 1000) (by decide), hB, fun d H' d0 d1 hB' kb => ?_⟩
  have hk : d.toNat < xs.length := by omega
  refine ⟨_, _, _, xs[d.toNat], rfl, rfl, kb.seq hne hS, at_of (j := d.toNat) (by omega) (List.getElem?_eq_getElem hk), ?_⟩
  exact q d.toNat _ H' (List.getElem?_eq_getElem hk) hB' kb
/-! ### equal data -/
inductive DEq (K : PySem.W.Frag) (H : Hp) : Nat → V → V → Prop where
  | non {n : Nat} : DEq K H n .non .non
  | bl {n : Nat} (b : Bool) : DEq K H n (.bl b) (.bl b)
  | int {n : Nat} (i : Int) : DEq K H n (.int i) (.int i)
  | str {n : Nat} (x : Str) : DEq K H n (.str x) (.str x)
  | lst {n : Nat} {a b : Addr} {xs ys : List V} (h1 : SqL K H a xs) (h2 : SqL K H b ys) (hlen : xs.length ≤ 100000) (hl : xs.length = ys.length) (h : ∀ (i : Nat) (x y : V), xs[i]? = some x → ys[i]? = some y → DEq K H n x y) : DEq K H (n + 1) (.ref a) (.ref b)
  | tup {n : Nat} {a b : Addr} {xs ys : List V} (h1 : SqT K H a xs) (h2 : SqT K H b ys) (hlen : xs.length ≤ 100000) (hl : xs.length = ys.length) (h : ∀ (i : Nat) (x y : V), xs[i]? = some x → ys[i]? = some y → DEq K H n x y) : DEq K H (n + 1) (.ref a) (.ref b)
theorem DEq.same {n : Nat} {H H' : Hp} {x y : V} (h : DEq K H n x y) (s : Same H H') : DEq K H' n x y := by
  induction h with
  | non => exact .non
  | bl b => exact .bl b
  | int i => exact .int i
  | str x => exact .str x
  | lst h1 h2 hlen hl _ ih => exact .lst (s.seq h1) (s.seq h2) hlen hl ih
  | tup h1 h2 hlen hl _ ih => exact .tup (seqT s h1) (seqT s h2) hlen hl ih
end

end TL
namespace TL
open PySem L2

/-! ### steps of a reading -/
local macro_rules | `(tactic| walk_at "hp") => `(tactic| first | assumption | exact upd_same | (refine (upd_ne (by first | assumption | (exact Ne.symm (by assumption)))).trans ?_; walk_at "hp"))
local macro_rules | `(tactic| walk_at "ok") => `(tactic| first | (exact Or.inr ⟨by decide, by decide⟩) | (exact ⟨by decide, by decide⟩) | (exact ⟨by decide, by decide, by decide⟩) | (show _ ≠ _; omega) | (show _ ≠ _; decide) | (exact Or.inl ⟨by omega, by omega⟩) | decide)
local macro_rules | `(tactic| walk_at "sq") => `(tactic| first | assumption | exact SqL.of (by walk_at "hp") | exact SqT.of (by walk_at "hp"))
local macro_rules | `(tactic| walk_at "ty") => `(tactic| first | refine ⟨_, _, Value.type "int", Value.type "list", false, rfl, ClsV.ty _, TyX.base (TyOf.int _), kt_int_list, ?_⟩ | refine ⟨_, _, Value.type "bool", Value.type "list", false, rfl, ClsV.ty _, TyX.base (TyOf.bl _), kt_bool_list, ?_⟩ | refine ⟨_, _, Value.type "str", Value.type "list", false, rfl, ClsV.ty _, TyX.base (TyOf.str _), kt_str_list, ?_⟩ | refine ⟨_, _, Value.type "NoneType", Value.type "list", false, rfl, ClsV.ty _, TyX.base TyOf.non, kt_NoneType_list, ?_⟩ | refine ⟨_, _, Value.type "list", Value.type "list", true, rfl, ClsV.ty _, tyx_L (by walk_at "sq"), kt_list_list, ?_⟩ | refine ⟨_, _, Value.type "tuple", Value.type "list", false, rfl, ClsV.ty _, tyx_T (by walk_at "sq"), kt_tuple_list, ?_⟩ | refine ⟨_, _, Value.type "int", Value.type "tuple", false, rfl, ClsV.ty _, TyX.base (TyOf.int _), kt_int_tuple, ?_⟩ | refine ⟨_, _, Value.type "bool", Value.type "tuple", false, rfl, ClsV.ty _, TyX.base (TyOf.bl _), kt_bool_tuple, ?_⟩ | refine ⟨_, _, Value.type "str", Value.type "tuple", false, rfl, ClsV.ty _, TyX.base (TyOf.str _), kt_str_tuple, ?_⟩ | refine ⟨_, _, Value.type "NoneType", Value.type "tuple", false, rfl, ClsV.ty _, TyX.base TyOf.non, kt_NoneType_tuple, ?_⟩ | refine ⟨_, _, Value.type "list", Value.type "tuple", false, rfl, ClsV.ty _, tyx_L (by walk_at "sq"), kt_list_tuple, ?_⟩ | refine ⟨_, _, Value.type "tuple", Value.type "tuple", true, rfl, ClsV.ty _, tyx_T (by walk_at "sq"), kt_tuple_tuple, ?_⟩ | refine ⟨_, _, Value.type "int", Value.type "bool", false, rfl, ClsV.ty _, TyX.base (TyOf.int _), kt_int_bool, ?_⟩ | refine ⟨_, _, Value.type "bool", Value.type "bool", true, rfl, ClsV.ty _, TyX.base (TyOf.bl _), kt_bool_bool, ?_⟩ | refine ⟨_, _, Value.type "str", Value.type "bool", false, rfl, ClsV.ty _, TyX.base (TyOf.str _), kt_str_bool, ?_⟩ | refine ⟨_, _, Value.type "NoneType", Value.type "bool", false, rfl, ClsV.ty _, TyX.base TyOf.non, kt_NoneType_bool, ?_⟩ | refine ⟨_, _, Value.type "list", Value.type "bool", false, rfl, ClsV.ty _, tyx_L (by walk_at "sq"), kt_list_bool, ?_⟩ | refine ⟨_, _, Value.type "tuple", Value.type "bool", false, rfl, ClsV.ty _, tyx_T (by walk_at "sq"), kt_tuple_bool, ?_⟩ | refine ⟨_, _, Value.type "int", Value.type "int", true, rfl, ClsV.ty _, TyX.base (TyOf.int _), kt_int_int, ?_⟩ | refine ⟨_, _, Value.type "bool", Value.type "int", true, rfl, ClsV.ty _, TyX.base (TyOf.bl _), kt_bool_int, ?_⟩ | refine ⟨_, _, Value.type "str", Value.type "int", false, rfl, ClsV.ty _, TyX.base (TyOf.str _), kt_str_int, ?_⟩ | refine ⟨_, _, Value.type "NoneType", Value.type "int", false, rfl, ClsV.ty _, TyX.base TyOf.non, kt_NoneType_int, ?_⟩ | refine ⟨_, _, Value.type "list", Value.type "int", false, rfl, ClsV.ty _, tyx_L (by walk_at "sq"), kt_list_int, ?_⟩ | refine ⟨_, _, Value.type "tuple", Value.type "int", false, rfl, ClsV.ty _, tyx_T (by walk_at "sq"), kt_tuple_int, ?_⟩ | refine ⟨_, _, Value.type "int", Value.type "str", false, rfl, ClsV.ty _, TyX.base (TyOf.int _), kt_int_str, ?_⟩ | refine ⟨_, _, Value.type "bool", Value.type "str", false, rfl, ClsV.ty _, TyX.base (TyOf.bl _), kt_bool_str, ?_⟩ | refine ⟨_, _, Value.type "str", Value.type "str", true, rfl, ClsV.ty _, TyX.base (TyOf.str _), kt_str_str, ?_⟩ | refine ⟨_, _, Value.type "NoneType", Value.type "str", false, rfl, ClsV.ty _, TyX.base TyOf.non, kt_NoneType_str, ?_⟩ | refine ⟨_, _, Value.type "list", Value.type "str", false, rfl, ClsV.ty _, tyx_L (by walk_at "sq"), kt_list_str, ?_⟩ | refine ⟨_, _, Value.type "tuple", Value.type "str", false, rfl, ClsV.ty _, tyx_T (by walk_at "sq"), kt_tuple_str, ?_⟩)
local macro_rules | `(tactic| walk_at "go1") => `(tactic| first
  | (refine ⟨_, rfl, ?_⟩)
  | (refine ⟨_, _, rfl, rfl, ?_⟩)
  | (refine ⟨_, _, _, _, rfl, rfl, SqL.of (by walk_at "hp"), rfl, ?_⟩)
  | (refine Or.inl ⟨_, rfl, ?_⟩)
  | (refine ⟨rfl, ?_⟩)
  | (refine ⟨_, _, rfl, .inl (SqL.of (by walk_at "hp")), ?_⟩)
  | (refine ⟨_, _, rfl, Or.inl (by assumption), ?_⟩)
  | (refine ⟨_, _, rfl, Or.inr (by assumption), ?_⟩)
  | (refine ⟨(by walk_at "ok"), ?_⟩)
  | (refine ⟨_, _, _, _, rfl, rfl, (by walk_at "hp"), rfl, ?_⟩))
local macro_rules | `(tactic| walk_at "go") => `(tactic| repeat (walk_at "go1"))
local macro_rules | `(tactic| walk_at "gt") => `(tactic| repeat (first | walk_at "go1" | walk_at "ty"))

section
variable {P : Program} {w : World} {K : PySem.W.Frag} {mg : Str → Option Value} {base : Heap}
/-! ### _law_same of equal data -/
def spSame (K : PySem.W.Frag) (m : Nat) : Sp := fun vs H Q _ => ∃ (n : Nat) (x y : V), vs = [x, y] ∧ n < m ∧ DEq K H n x y ∧ ∀ H', Same H H' → Q (.bl true) H'
theorem ok_same_step (T : Tx K mg) {m : Nat} (G_l_same : FnOk P w K mg base CX0 m T.f_l_same T.d_l_same ["_law_found", "_law_due"] (spSame K m)) : FnOk P w K mg base CX0 (m + 1) T.f_l_same T.d_l_same ["_law_found", "_law_due"] (spSame K (m + 1)) := by
  refine T.F_l_same.ok sc_l_same (fun vs H Q E h => ?_) (fun cdv A outer s H vs Q E hr h => ?_)
  · obtain ⟨n, x, y, rfl, _⟩ := h
    rfl
  obtain ⟨n, x, y, rfl, hm, hd, q⟩ := h
  have nd := sc_l_same.nd
  refine ⟨_, (pss_cons (ps_if (pt_val (pe_callB (show CallR _ _ (rIsi K) from call_isi) (by rfl) T.z_isinstance (by decide +kernel) (pa_cons (pv 1) (pa_cons (pe_bltn (v := .ty "list") (u := .type "list") (by rfl) T.z_list (by decide +kernel) rfl) pa_nil)))) (pss_one (ps_ret (pe_and (pe_callB (show CallR _ _ (rIsi K) from call_isi) (by rfl) T.z_isinstance (by decide +kernel) (pa_cons (pv 0) (pa_cons (pe_bltn (v := .ty "list") (u := .type "list") (by rfl) T.z_list (by decide +kernel) rfl) pa_nil))) (pe_and (pe_cmpR op_eq (pe_callB (show CallR _ _ (rLenSq K) from call_len_seq) (by rfl) T.z_len (by decide +kernel) (pa_cons (pv 0) pa_nil)) (pe_callB (show CallR _ _ (rLenSq K) from call_len_seq) (by rfl) T.z_len (by decide +kernel) (pa_cons (pv 1) pa_nil)) (nomark _)) (pe_one (pe_callB (show CallR _ _ (rAll K) from cr_all rfl) (by rfl) T.z_all (by decide +kernel) (pa_cons (pe_lc (own := [("_law_x", 2), ("_law_y", 3)]) (g := (gTup K 2 (gCons (gName 2) (gCons (gName 3) gNil)))) rfl nd (show PI _ _ _ (RZ.iZipA K _) from RZ.pi_zipA (by rfl) T.z_zip (pa_cons (pv 0) (pa_cons (pv 1) pa_nil))) (blkOk_by (own := [("_law_x", 2), ("_law_y", 3)]) (N := N_l_same) (sc := defScope s_l_same) (by decide +kernel)) (fun _ _ _ _ _ => by exact (pg_tup rfl (pgs_cons (pg_name (i := 2) nd rfl (Or.inl rfl)) (pgs_cons (pg_name (i := 3) nd rfl (Or.inl rfl)) pgs_nil)))) (fun _ _ _ _ _ => by exact pts_nil) (fun _ _ _ _ _ => by exact (pe_call G_l_same hr (by rfl) T.m_l_same T.F_l_same.kp T.b_l_same .nil pass0 (pa_cons (pv 2) (pa_cons (pv 3) pa_nil))))) pa_nil))))))) pss_nil)
    (pss_cons (ps_if (pt_val (pe_callB (show CallR _ _ (rIsi K) from call_isi) (by rfl) T.z_isinstance (by decide +kernel) (pa_cons (pv 1) (pa_cons (pe_bltn (v := .ty "tuple") (u := .type "tuple") (by rfl) T.z_tuple (by decide +kernel) rfl) pa_nil)))) (pss_one (ps_ret (pe_and (pe_callB (show CallR _ _ (rIsi K) from call_isi) (by rfl) T.z_isinstance (by decide +kernel) (pa_cons (pv 0) (pa_cons (pe_bltn (v := .ty "tuple") (u := .type "tuple") (by rfl) T.z_tuple (by decide +kernel) rfl) pa_nil))) (pe_and (pe_cmpR op_eq (pe_callB (show CallR _ _ (rLenSq K) from call_len_seq) (by rfl) T.z_len (by decide +kernel) (pa_cons (pv 0) pa_nil)) (pe_callB (show CallR _ _ (rLenSq K) from call_len_seq) (by rfl) T.z_len (by decide +kernel) (pa_cons (pv 1) pa_nil)) (nomark _)) (pe_one (pe_callB (show CallR _ _ (rAll K) from cr_all rfl) (by rfl) T.z_all (by decide +kernel) (pa_cons (pe_lc (own := [("_law_x", 2), ("_law_y", 3)]) (g := (gTup K 2 (gCons (gName 2) (gCons (gName 3) gNil)))) rfl nd (show PI _ _ _ (RZ.iZipA K _) from RZ.pi_zipA (by rfl) T.z_zip (pa_cons (pv 0) (pa_cons (pv 1) pa_nil))) (blkOk_by (own := [("_law_x", 2), ("_law_y", 3)]) (N := N_l_same) (sc := defScope s_l_same) (by decide +kernel)) (fun _ _ _ _ _ => by exact (pg_tup rfl (pgs_cons (pg_name (i := 2) nd rfl (Or.inl rfl)) (pgs_cons (pg_name (i := 3) nd rfl (Or.inl rfl)) pgs_nil)))) (fun _ _ _ _ _ => by exact pts_nil) (fun _ _ _ _ _ => by exact (pe_call G_l_same hr (by rfl) T.m_l_same T.F_l_same.kp T.b_l_same .nil pass0 (pa_cons (pv 2) (pa_cons (pv 3) pa_nil))))) pa_nil))))))) pss_nil)
    (pss_cons (ps_if (PW.pt (pw_or (pt_cmpR op_isN (pv 1) pe_non (nomark _)) (pw_or1 (pt_cmpR op_isN (pv 0) pe_non (nomark _))))) (pss_one (ps_ret (pe_and (pe_cmpR op_isN (pv 1) pe_non (nomark _)) (pe_one (pe_cmpR op_isN (pv 0) pe_non (nomark _)))))) pss_nil)
    (pss_cons (ps_if (PW.pt (pw_or (pt_val (pe_callB (show CallR _ _ (rIsi K) from call_isi) (by rfl) T.z_isinstance (by decide +kernel) (pa_cons (pv 1) (pa_cons (pe_bltn (v := .ty "bool") (u := .type "bool") (by rfl) T.z_bool (by decide +kernel) rfl) pa_nil)))) (pw_or1 (pt_val (pe_callB (show CallR _ _ (rIsi K) from call_isi) (by rfl) T.z_isinstance (by decide +kernel) (pa_cons (pv 0) (pa_cons (pe_bltn (v := .ty "bool") (u := .type "bool") (by rfl) T.z_bool (by decide +kernel) rfl) pa_nil))))))) (pss_one (ps_ret (pe_and (pe_callB (show CallR _ _ (rIsi K) from call_isi) (by rfl) T.z_isinstance (by decide +kernel) (pa_cons (pv 1) (pa_cons (pe_bltn (v := .ty "bool") (u := .type "bool") (by rfl) T.z_bool (by decide +kernel) rfl) pa_nil))) (pe_and (pe_callB (show CallR _ _ (rIsi K) from call_isi) (by rfl) T.z_isinstance (by decide +kernel) (pa_cons (pv 0) (pa_cons (pe_bltn (v := .ty "bool") (u := .type "bool") (by rfl) T.z_bool (by decide +kernel) rfl) pa_nil))) (pe_one (pe_cmpR op_eq (pv 0) (pv 1) (nomark _))))))) pss_nil)
    (pss_cons (ps_if (pt_val (pe_callB (show CallR _ _ (rIsi K) from call_isi) (by rfl) T.z_isinstance (by decide +kernel) (pa_cons (pv 1) (pa_cons (pe_bltn (v := .ty "int") (u := .type "int") (by rfl) T.z_int (by decide +kernel) rfl) pa_nil)))) (pss_one (ps_ret (pe_and (pe_callB (show CallR _ _ (rIsi K) from call_isi) (by rfl) T.z_isinstance (by decide +kernel) (pa_cons (pv 0) (pa_cons (pe_bltn (v := .ty "int") (u := .type "int") (by rfl) T.z_int (by decide +kernel) rfl) pa_nil))) (pe_one (pe_cmpR op_eq (pv 0) (pv 1) (nomark _)))))) pss_nil)
    (pss_cons (ps_if (pt_val (pe_callB (show CallR _ _ (rIsi K) from call_isi) (by rfl) T.z_isinstance (by decide +kernel) (pa_cons (pv 1) (pa_cons (pe_bltn (v := .ty "str") (u := .type "str") (by rfl) T.z_str (by decide +kernel) rfl) pa_nil)))) (pss_one (ps_ret (pe_and (pe_callB (show CallR _ _ (rIsi K) from call_isi) (by rfl) T.z_isinstance (by decide +kernel) (pa_cons (pv 0) (pa_cons (pe_bltn (v := .ty "str") (u := .type "str") (by rfl) T.z_str (by decide +kernel) rfl) pa_nil))) (pe_one (pe_cmpR op_eq (pv 0) (pv 1) (nomark _)))))) pss_nil)
    (pss_one (ps_ret (pe_and (pe_not (pe_callB (show CallR _ _ (rIsiT K) from call_isiT) (by rfl) T.z_isinstance (by decide +kernel) (pa_cons (pv 0) (pa_cons (pe_tup (pa_cons (pe_bltn (v := .ty "int") (u := .type "int") (by rfl) T.z_int (by decide +kernel) rfl) (pa_cons (pe_bltn (v := .ty "str") (u := .type "str") (by rfl) T.z_str (by decide +kernel) rfl) (pa_cons (pe_bltn (v := .ty "list") (u := .type "list") (by rfl) T.z_list (by decide +kernel) rfl) (pa_cons (pe_bltn (v := .ty "tuple") (u := .type "tuple") (by rfl) T.z_tuple (by decide +kernel) rfl) pa_nil))))) pa_nil)))) (pe_one (pe_cmpR op_eq (pv 0) (pv 1) (nomark _)))))))))))), ?_⟩
  cases hd with
  | int i =>
    walk_at "gt"
    rw [decide_eq_true rfl]
    exact q H (Same.refl H)
  | bl b =>
    walk_at "gt"
    rw [decide_eq_true rfl]
    exact q H (Same.refl H)
  | str x =>
    walk_at "gt"
    rw [decide_eq_true rfl]
    exact q H (Same.refl H)
  | non =>
    walk_at "gt"
    rw [decide_eq_true rfl]
    exact q H (Same.refl H)
  | @lst n a b xs ys h1 h2 hlen hl he =>
    walk_at "gt"
    refine ite_dec (by rw [hl]) ?_
    refine ⟨_, rfl, _, rfl, a, b, xs, ys, rfl, .inl ⟨h1, h2, fun D hD => ?_⟩⟩
    refine lcm (walk_zip (n := xs.length) (by omega)) (List.replicate xs.length (V.bl true)) (by simp) hlen hD (fun H' s => ⟨s.seq h1, s.seq h2⟩) ?_ ?_
    · rintro i y x H1 H2 hi hy s1 ⟨Tp, u, z, rfl, hT, rfl, hu, hz⟩ k hk
      obtain rfl := rep_get hy
      have s2 : Same H1 (upd H1 Tp (.tup [u, z])) := Same.new hT
      refine ⟨Tp, [u, z], rfl, SqT.of upd_same, rfl, u, [z], rfl, z, [], rfl, rfl, rfl, ?_⟩
      exact ⟨_, rfl, _, rfl, n, u, z, rfl, by omega, (he i u z hu hz).same (s1.trans s2), fun H4 s4 => hk H4 (s2.trans s4)⟩
    · intro H' s1 hD'
      refine ⟨D, List.replicate xs.length true, rfl, SqL.of (by rw [hD', List.map_replicate]), ?_⟩
      rw [all_rep]
      exact q H' s1
  | @tup n a b xs ys h1 h2 hlen hl he =>
    walk_at "gt"
    refine ite_dec (by rw [hl]) ?_
    refine ⟨_, rfl, _, rfl, a, b, xs, ys, rfl, .inr ⟨h1, h2, fun D hD => ?_⟩⟩
    refine lcm (walk_zipT (n := xs.length) (by omega)) (List.replicate xs.length (V.bl true)) (by simp) hlen hD (fun H' s => ⟨seqT s h1, seqT s h2⟩) ?_ ?_
    · rintro i y x H1 H2 hi hy s1 ⟨Tp, u, z, rfl, hT, rfl, hu, hz⟩ k hk
      obtain rfl := rep_get hy
      have s2 : Same H1 (upd H1 Tp (.tup [u, z])) := Same.new hT
      refine ⟨Tp, [u, z], rfl, SqT.of upd_same, rfl, u, [z], rfl, z, [], rfl, rfl, rfl, ?_⟩
      exact ⟨_, rfl, _, rfl, n, u, z, rfl, by omega, (he i u z hu hz).same (s1.trans s2), fun H4 s4 => hk H4 (s2.trans s4)⟩
    · intro H' s1 hD'
      refine ⟨D, List.replicate xs.length true, rfl, SqL.of (by rw [hD', List.map_replicate]), ?_⟩
      rw [all_rep]
      exact q H' s1
theorem ok_same (T : Tx K mg) : ∀ m : Nat, FnOk P w K mg base CX0 m T.f_l_same T.d_l_same ["_law_found", "_law_due"] (spSame K m)
  | 0 => by
    have no : ∀ vs H Q E, ¬ spSame K 0 vs H Q E := fun vs H Q E h => by
      obtain ⟨n, x, y, _, h1, _⟩ := h
      omega
    exact ⟨fun vs H Q E h => absurd h (no vs H Q E), fun A outer s H args us vs Q E _ _ _ _ h => absurd h (no vs H Q E)⟩
  | m + 1 => ok_same_step T (ok_same T m)
end
end TL
namespace TL
open PySem L2

/-! ### steps of a reading -/
local macro_rules | `(tactic| walk_at "hp") => `(tactic| first | assumption | exact upd_same | (refine (upd_ne (by first | assumption | (exact Ne.symm (by assumption)))).trans ?_; walk_at "hp"))
local macro_rules | `(tactic| walk_at "ok") => `(tactic| first | (exact Or.inr ⟨by decide, by decide⟩) | (exact ⟨by decide, by decide⟩) | (exact ⟨by decide, by decide, by decide⟩) | (show _ ≠ _; omega) | (show _ ≠ _; decide) | (exact Or.inl ⟨by omega, by omega⟩) | decide)
local macro_rules | `(tactic| walk_at "sq") => `(tactic| first | assumption | exact SqL.of (by walk_at "hp") | exact SqT.of (by walk_at "hp"))
local macro_rules | `(tactic| walk_at "ty") => `(tactic| first | refine ⟨_, _, Value.type "int", Value.type "list", false, rfl, ClsV.ty _, TyX.base (TyOf.int _), kt_int_list, ?_⟩ | refine ⟨_, _, Value.type "bool", Value.type "list", false, rfl, ClsV.ty _, TyX.base (TyOf.bl _), kt_bool_list, ?_⟩ | refine ⟨_, _, Value.type "str", Value.type "list", false, rfl, ClsV.ty _, TyX.base (TyOf.str _), kt_str_list, ?_⟩ | refine ⟨_, _, Value.type "NoneType", Value.type "list", false, rfl, ClsV.ty _, TyX.base TyOf.non, kt_NoneType_list, ?_⟩ | refine ⟨_, _, Value.type "list", Value.type "list", true, rfl, ClsV.ty _, tyx_L (by walk_at "sq"), kt_list_list, ?_⟩ | refine ⟨_, _, Value.type "tuple", Value.type "list", false, rfl, ClsV.ty _, tyx_T (by walk_at "sq"), kt_tuple_list, ?_⟩ | refine ⟨_, _, Value.type "int", Value.type "tuple", false, rfl, ClsV.ty _, TyX.base (TyOf.int _), kt_int_tuple, ?_⟩ | refine ⟨_, _, Value.type "bool", Value.type "tuple", false, rfl, ClsV.ty _, TyX.base (TyOf.bl _), kt_bool_tuple, ?_⟩ | refine ⟨_, _, Value.type "str", Value.type "tuple", false, rfl, ClsV.ty _, TyX.base (TyOf.str _), kt_str_tuple, ?_⟩ | refine ⟨_, _, Value.type "NoneType", Value.type "tuple", false, rfl, ClsV.ty _, TyX.base TyOf.non, kt_NoneType_tuple, ?_⟩ | refine ⟨_, _, Value.type "list", Value.type "tuple", false, rfl, ClsV.ty _, tyx_L (by walk_at "sq"), kt_list_tuple, ?_⟩ | refine ⟨_, _, Value.type "tuple", Value.type "tuple", true, rfl, ClsV.ty _, tyx_T (by walk_at "sq"), kt_tuple_tuple, ?_⟩ | refine ⟨_, _, Value.type "int", Value.type "bool", false, rfl, ClsV.ty _, TyX.base (TyOf.int _), kt_int_bool, ?_⟩ | refine ⟨_, _, Value.type "bool", Value.type "bool", true, rfl, ClsV.ty _, TyX.base (TyOf.bl _), kt_bool_bool, ?_⟩ | refine ⟨_, _, Value.type "str", Value.type "bool", false, rfl, ClsV.ty _, TyX.base (TyOf.str _), kt_str_bool, ?_⟩ | refine ⟨_, _, Value.type "NoneType", Value.type "bool", false, rfl, ClsV.ty _, TyX.base TyOf.non, kt_NoneType_bool, ?_⟩ | refine ⟨_, _, Value.type "list", Value.type "bool", false, rfl, ClsV.ty _, tyx_L (by walk_at "sq"), kt_list_bool, ?_⟩ | refine ⟨_, _, Value.type "tuple", Value.type "bool", false, rfl, ClsV.ty _, tyx_T (by walk_at "sq"), kt_tuple_bool, ?_⟩ | refine ⟨_, _, Value.type "int", Value.type "int", true, rfl, ClsV.ty _, TyX.base (TyOf.int _), kt_int_int, ?_⟩ | refine ⟨_, _, Value.type "bool", Value.type "int", true, rfl, ClsV.ty _, TyX.base (TyOf.bl _), kt_bool_int, ?_⟩ | refine ⟨_, _, Value.type "str", Value.type "int", false, rfl, ClsV.ty _, TyX.base (TyOf.str _), kt_str_int, ?_⟩ | refine ⟨_, _, Value.type "NoneType", Value.type "int", false, rfl, ClsV.ty _, TyX.base TyOf.non, kt_NoneType_int, ?_⟩ | refine ⟨_, _, Value.type "list", Value.type "int", false, rfl, ClsV.ty _, tyx_L (by walk_at "sq"), kt_list_int, ?_⟩ | refine ⟨_, _, Value.type "tuple", Value.type "int", false, rfl, ClsV.ty _, tyx_T (by walk_at "sq"), kt_tuple_int, ?_⟩ | refine ⟨_, _, Value.type "int", Value.type "str", false, rfl, ClsV.ty _, TyX.base (TyOf.int _), kt_int_str, ?_⟩ | refine ⟨_, _, Value.type "bool", Value.type "str", false, rfl, ClsV.ty _, TyX.base (TyOf.bl _), kt_bool_str, ?_⟩ | refine ⟨_, _, Value.type "str", Value.type "str", true, rfl, ClsV.ty _, TyX.base (TyOf.str _), kt_str_str, ?_⟩ | refine ⟨_, _, Value.type "NoneType", Value.type "str", false, rfl, ClsV.ty _, TyX.base TyOf.non, kt_NoneType_str, ?_⟩ | refine ⟨_, _, Value.type "list", Value.type "str", false, rfl, ClsV.ty _, tyx_L (by walk_at "sq"), kt_list_str, ?_⟩ | refine ⟨_, _, Value.type "tuple", Value.type "str", false, rfl, ClsV.ty _, tyx_T (by walk_at "sq"), kt_tuple_str, ?_⟩)
local macro_rules | `(tactic| walk_at "go1") => `(tactic| first
  | (refine ⟨_, rfl, ?_⟩)
  | (refine ⟨_, _, rfl, rfl, ?_⟩)
  | (refine ⟨_, _, _, _, rfl, rfl, SqL.of (by walk_at "hp"), rfl, ?_⟩)
  | (refine Or.inl ⟨_, rfl, ?_⟩)
  | (refine ⟨rfl, ?_⟩)
  | (refine ⟨_, _, rfl, .inl (SqL.of (by walk_at "hp")), ?_⟩)
  | (refine ⟨_, _, rfl, Or.inl (by assumption), ?_⟩)
  | (refine ⟨_, _, rfl, Or.inr (by assumption), ?_⟩)
  | (refine ⟨(by walk_at "ok"), ?_⟩)
  | (refine ⟨_, _, _, _, rfl, rfl, (by walk_at "hp"), rfl, ?_⟩))
local macro_rules | `(tactic| walk_at "go") => `(tactic| repeat (walk_at "go1"))
local macro_rules | `(tactic| walk_at "gt") => `(tactic| repeat (first | walk_at "go1" | walk_at "ty"))

section
variable {P : Program} {w : World} {K : PySem.W.Frag} {mg : Str → Option Value} {base : Heap}
def spIsNum : Sp := fun vs H Q _ => ∃ n, vs = [.int n] ∧ Q (.bl true) H
theorem ok_is_number (T : Tx K mg) : FnOk P w K mg base CX0 1 T.f_is_number T.d_is_number ["value"] spIsNum := by
  refine T.F_is_number.ok sc_is_number (fun vs H Q E h => ?_) (fun cdv A outer s H vs Q E hr h => ?_)
  · obtain ⟨n, rfl, _⟩ := h
    rfl
  obtain ⟨n, rfl, q⟩ := h
  refine ⟨_, (pss_one (ps_ret (pe_and (pe_callB (show CallR _ _ (rIsi K) from call_isi) (by rfl) T.z_isinstance (by decide +kernel) (pa_cons (pv 0) (pa_cons (pe_bltn (v := .ty "int") (u := .type "int") (by rfl) T.z_int (by decide +kernel) rfl) pa_nil))) (pe_one (pe_not (pe_callB (show CallR _ _ (rIsi K) from call_isi) (by rfl) T.z_isinstance (by decide +kernel) (pa_cons (pv 0) (pa_cons (pe_bltn (v := .ty "bool") (u := .type "bool") (by rfl) T.z_bool (by decide +kernel) rfl) pa_nil)))))))), ?_⟩
  walk_at "gt"
  exact q
def spIsListed (K : PySem.W.Frag) : Sp := fun vs H Q _ => ∃ a xs, vs = [.ref a] ∧ Sq K H a xs ∧ ∀ H', Same H H' → Q (.bl true) H'
theorem kit_l : PySem.W.kitAny K (.type "list") [.type "list", .type "tuple"] = some true := kitAny_cons kt_list_list (fun z => nomatch z) (fun _ => rfl)
theorem kit_t : PySem.W.kitAny K (.type "tuple") [.type "list", .type "tuple"] = some true := kitAny_cons kt_tuple_list (fun _ => kitAny_cons kt_tuple_tuple (fun z => nomatch z) (fun _ => rfl)) (fun _ => rfl)
theorem ok_is_listed (T : Tx K mg) : FnOk P w K mg base CX0 1 T.f_is_listed T.d_is_listed ["value"] (spIsListed K) := by
  refine T.F_is_listed.ok sc_is_listed (fun vs H Q E h => ?_) (fun cdv A outer s H vs Q E hr h => ?_)
  · obtain ⟨a, xs, rfl, _⟩ := h
    rfl
  obtain ⟨a, xs, rfl, hS, q⟩ := h
  refine ⟨_, (pss_one (ps_ret (pe_callB (show CallR _ _ (rIsiT K) from call_isiT) (by rfl) T.z_isinstance (by decide +kernel) (pa_cons (pv 0) (pa_cons (pe_tup (pa_cons (pe_bltn (v := .ty "list") (u := .type "list") (by rfl) T.z_list (by decide +kernel) rfl) (pa_cons (pe_bltn (v := .ty "tuple") (u := .type "tuple") (by rfl) T.z_tuple (by decide +kernel) rfl) pa_nil))) pa_nil))))), ?_⟩
  refine ⟨_, rfl, (by show 2 ≤ sizeLine; decide), fun p hp => ?_⟩
  have s1 : Same H (upd H p (.tup [.ty "list", .ty "tuple"])) := Same.new hp
  rcases hS with h | h
  · exact ⟨_, p, _, .type "list", [.type "list", .type "tuple"], true, rfl, upd_same, .cons (.ty _) (.cons (.ty _) .nil), tyx_L (s1.seq h), kit_l, q _ s1⟩
  · exact ⟨_, p, _, .type "tuple", [.type "list", .type "tuple"], true, rfl, upd_same, .cons (.ty _) (.cons (.ty _) .nil), tyx_T (seqT s1 h), kit_t, q _ s1⟩
def spAreNums (K : PySem.W.Frag) : Sp := fun vs H Q _ => ∃ (a : Addr) (ns : List Int), vs = [.ref a, .int (ns.length : Int)] ∧ Sq K H a (ns.map V.int) ∧ ns.length ≤ 1000 ∧ ∀ H', Same H H' → Q (.bl true) H'
theorem len_map {ns : List Int} : (ns.map V.int).length = ns.length := List.length_map _
theorem ok_are_numbers (T : Tx K mg) : FnOk P w K mg base CX0 2 T.f_are_numbers T.d_are_numbers ["value", "many"] (spAreNums K) := by
  have G_is_number := ok_is_number (P := P) (w := w) (base := base) T
  have G_is_listed := ok_is_listed (P := P) (w := w) (base := base) T
  refine T.F_are_numbers.ok sc_are_numbers (fun vs H Q E h => ?_) (fun cdv A outer s H vs Q E hr h => ?_)
  · obtain ⟨a, ns, rfl, _⟩ := h
    rfl
  obtain ⟨a, ns, rfl, hS, hz, q⟩ := h
  have nd := sc_are_numbers.nd
  rcases hS with hS | hS
  · refine ⟨_, (pss_cons (ps_if (PW.pt (pw_or (pt_not (pt_val (pe_call G_is_listed hr (by rfl) T.m_is_listed T.F_is_listed.kp T.b_is_listed .nil pass0 (pa_cons (pv 0) pa_nil)))) (pw_or1 (pt_cmpR op_ne (pe_callB (show CallR _ _ (rLenSq K) from call_len_seq) (by rfl) T.z_len (by decide +kernel) (pa_cons (pv 0) pa_nil)) (pv 1) (nomark _))))) (pss_one (ps_ret pe_bl)) pss_nil)
    (pss_one (ps_ret (pe_callB (show CallR _ _ (rAll K) from cr_all rfl) (by rfl) T.z_all (by decide +kernel) (pa_cons (pe_lc (own := [("item", 2)]) (g := (gName 2)) rfl nd (show PI _ _ _ (iList K _) from pi_list (pv 0)) (blkOk_by (own := [("item", 2)]) (N := N_are_numbers) (sc := defScope s_are_numbers) (by decide +kernel)) (fun _ _ _ _ _ => by exact (pg_name (i := 2) nd rfl (Or.inl rfl))) (fun _ _ _ _ _ => by exact pts_nil) (fun _ _ _ _ _ => by exact (pe_call G_is_number hr (by rfl) T.m_is_number T.F_is_number.kp T.b_is_number .nil pass0 (pa_cons (pv 2) pa_nil)))) pa_nil))))), ?_⟩
    refine ⟨_, rfl, a, _, rfl, .inl hS, fun H1 s1 => ?_⟩
    have hS1 := s1.seq hS
    walk_at "go"
    rw [len_map]
    walk_at "go"
    refine iteNS rfl ?_
    refine ⟨_, rfl, a, rfl, ⟨_, hS1⟩, fun D hD => ?_⟩
    refine lcm (walk_list (K := K) (a := a) (xs := ns.map V.int)) (List.replicate ns.length (V.bl true)) (by simp) (by rw [len_map]; omega) hD (fun H' s => s.seq hS1) ?_ ?_
    · rintro i y x H2 H3 hi hy s2 ⟨rfl, hx⟩ k hk
      obtain rfl := rep_get hy
      obtain ⟨n, hn, rfl⟩ := List.getElem?_map .. ▸ hx |> Option.map_eq_some_iff.mp
      exact ⟨rfl, _, rfl, n, rfl, hk _ (Same.refl _)⟩
    · intro H' s2 hD'
      refine ⟨D, List.replicate ns.length true, rfl, SqL.of (by rw [hD', List.map_replicate]), ?_⟩
      rw [all_rep]
      exact q H' (s1.trans s2)
  · refine ⟨_, (pss_cons (ps_if (PW.pt (pw_or (pt_not (pt_val (pe_call G_is_listed hr (by rfl) T.m_is_listed T.F_is_listed.kp T.b_is_listed .nil pass0 (pa_cons (pv 0) pa_nil)))) (pw_or1 (pt_cmpR op_ne (pe_callB (show CallR _ _ (rLenSq K) from call_len_seq) (by rfl) T.z_len (by decide +kernel) (pa_cons (pv 0) pa_nil)) (pv 1) (nomark _))))) (pss_one (ps_ret pe_bl)) pss_nil)
    (pss_one (ps_ret (pe_callB (show CallR _ _ (rAll K) from cr_all rfl) (by rfl) T.z_all (by decide +kernel) (pa_cons (pe_lc (own := [("item", 2)]) (g := (gName 2)) rfl nd (show PI _ _ _ (iTup K _) from pi_tup (pv 0)) (blkOk_by (own := [("item", 2)]) (N := N_are_numbers) (sc := defScope s_are_numbers) (by decide +kernel)) (fun _ _ _ _ _ => by exact (pg_name (i := 2) nd rfl (Or.inl rfl))) (fun _ _ _ _ _ => by exact pts_nil) (fun _ _ _ _ _ => by exact (pe_call G_is_number hr (by rfl) T.m_is_number T.F_is_number.kp T.b_is_number .nil pass0 (pa_cons (pv 2) pa_nil)))) pa_nil))))), ?_⟩
    refine ⟨_, rfl, a, _, rfl, .inr hS, fun H1 s1 => ?_⟩
    have hS1 := seqT s1 hS
    walk_at "go"
    rw [len_map]
    walk_at "go"
    refine iteNS rfl ?_
    refine ⟨_, rfl, a, rfl, ⟨_, hS1⟩, fun D hD => ?_⟩
    refine lcm (walk_tup (K := K) (a := a) (xs := ns.map V.int)) (List.replicate ns.length (V.bl true)) (by simp) (by rw [len_map]; omega) hD (fun H' s => seqT s hS1) ?_ ?_
    · rintro i y x H2 H3 hi hy s2 ⟨rfl, hx⟩ k hk
      obtain rfl := rep_get hy
      obtain ⟨n, hn, rfl⟩ := List.getElem?_map .. ▸ hx |> Option.map_eq_some_iff.mp
      exact ⟨rfl, _, rfl, n, rfl, hk _ (Same.refl _)⟩
    · intro H' s2 hD'
      refine ⟨D, List.replicate ns.length true, rfl, SqL.of (by rw [hD', List.map_replicate]), ?_⟩
      rw [all_rep]
      exact q H' (s1.trans s2)
def Bit (b : Int) : Prop := b = 0 ∨ b = 1
def spAreBits (K : PySem.W.Frag) : Sp := fun vs H Q _ => ∃ (a : Addr) (ns : List Int), vs = [.ref a, .int (ns.length : Int)] ∧ Sq K H a (ns.map V.int) ∧ ns.length ≤ 1000 ∧ (∀ b ∈ ns, Bit b) ∧ ∀ H', Same H H' → Q (.bl true) H'
theorem int_at {ns : List Int} {i : Nat} {x : V} (h : (ns.map V.int)[i]? = some x) : ∃ n, ns[i]? = some n ∧ x = .int n := by
  rw [List.getElem?_map] at h
  obtain ⟨n, h1, h2⟩ := Option.map_eq_some_iff.mp h
  exact ⟨n, h1, h2.symm⟩
theorem in01 {b : Int} (h : Bit b) : inV (.int b) [.int 0, .int 1] = true := by
  rcases h with rfl | rfl <;> decide
theorem ok_are_bits (T : Tx K mg) : FnOk P w K mg base CX0 3 T.f_are_bits T.d_are_bits ["value", "many"] (spAreBits K) := by
  have G_are_numbers := ok_are_numbers (P := P) (w := w) (base := base) T
  refine T.F_are_bits.ok sc_are_bits (fun vs H Q E h => ?_) (fun cdv A outer s H vs Q E hr h => ?_)
  · obtain ⟨a, ns, rfl, _⟩ := h
    rfl
  obtain ⟨a, ns, rfl, hS, hz, hb, q⟩ := h
  have nd := sc_are_bits.nd
  rcases hS with hS | hS
  · refine ⟨_, (pss_one (ps_ret (pe_and (pe_call G_are_numbers hr (by rfl) T.m_are_numbers T.F_are_numbers.kp T.b_are_numbers .nil pass0 (pa_cons (pv 0) (pa_cons (pv 1) pa_nil))) (pe_one (pe_callB (show CallR _ _ (rAll K) from cr_all rfl) (by rfl) T.z_all (by decide +kernel) (pa_cons (pe_lc (own := [("item", 2)]) (g := (gName 2)) rfl nd (show PI _ _ _ (iList K _) from pi_list (pv 0)) (blkOk_by (own := [("item", 2)]) (N := N_are_bits) (sc := defScope s_are_bits) (by decide +kernel)) (fun _ _ _ _ _ => by exact (pg_name (i := 2) nd rfl (Or.inl rfl))) (fun _ _ _ _ _ => by exact pts_nil) (fun _ _ _ _ _ => by exact (pe_cmpR (show OpR _ _ (rIn K false) from op_in_seq) (pv 2) (pe_tup (pa_cons pe_int (pa_cons pe_int pa_nil))) rfl))) pa_nil)))))), ?_⟩
    refine ⟨_, rfl, _, rfl, a, ns, rfl, .inl hS, hz, fun H1 s1 => ?_⟩
    have hS1 := s1.seq hS
    walk_at "go"
    refine ⟨⟨_, hS1⟩, fun D hD => ?_⟩
    refine lcm (walk_list (K := K) (a := a) (xs := ns.map V.int)) (List.replicate ns.length (V.bl true)) (by simp) (by rw [len_map]; omega) hD (fun H' s => s.seq hS1) ?_ ?_
    · rintro i y x H2 H3 hi hy s2 ⟨rfl, hx⟩ k hk
      obtain rfl := rep_get hy
      obtain ⟨n, hn, rfl⟩ := int_at hx
      refine ⟨rfl, _, rfl, (by show 2 ≤ sizeLine; decide), fun p hp => ?_⟩
      refine ⟨p, _, rfl, .inr (SqT.of upd_same), rfl, rfl, ?_⟩
      show k (.bl (inV (.int n) [.int 0, .int 1])) _
      rw [in01 (hb n (List.mem_of_getElem? hn))]
      exact hk _ (Same.new hp)
    · intro H' s2 hD'
      refine ⟨D, List.replicate ns.length true, rfl, SqL.of (by rw [hD', List.map_replicate]), ?_⟩
      rw [all_rep]
      exact q H' (s1.trans s2)
  · refine ⟨_, (pss_one (ps_ret (pe_and (pe_call G_are_numbers hr (by rfl) T.m_are_numbers T.F_are_numbers.kp T.b_are_numbers .nil pass0 (pa_cons (pv 0) (pa_cons (pv 1) pa_nil))) (pe_one (pe_callB (show CallR _ _ (rAll K) from cr_all rfl) (by rfl) T.z_all (by decide +kernel) (pa_cons (pe_lc (own := [("item", 2)]) (g := (gName 2)) rfl nd (show PI _ _ _ (iTup K _) from pi_tup (pv 0)) (blkOk_by (own := [("item", 2)]) (N := N_are_bits) (sc := defScope s_are_bits) (by decide +kernel)) (fun _ _ _ _ _ => by exact (pg_name (i := 2) nd rfl (Or.inl rfl))) (fun _ _ _ _ _ => by exact pts_nil) (fun _ _ _ _ _ => by exact (pe_cmpR (show OpR _ _ (rIn K false) from op_in_seq) (pv 2) (pe_tup (pa_cons pe_int (pa_cons pe_int pa_nil))) rfl))) pa_nil)))))), ?_⟩
    refine ⟨_, rfl, _, rfl, a, ns, rfl, .inr hS, hz, fun H1 s1 => ?_⟩
    have hS1 := seqT s1 hS
    walk_at "go"
    refine ⟨⟨_, hS1⟩, fun D hD => ?_⟩
    refine lcm (walk_tup (K := K) (a := a) (xs := ns.map V.int)) (List.replicate ns.length (V.bl true)) (by simp) (by rw [len_map]; omega) hD (fun H' s => seqT s hS1) ?_ ?_
    · rintro i y x H2 H3 hi hy s2 ⟨rfl, hx⟩ k hk
      obtain rfl := rep_get hy
      obtain ⟨n, hn, rfl⟩ := int_at hx
      refine ⟨rfl, _, rfl, (by show 2 ≤ sizeLine; decide), fun p hp => ?_⟩
      refine ⟨p, _, rfl, .inr (SqT.of upd_same), rfl, rfl, ?_⟩
      show k (.bl (inV (.int n) [.int 0, .int 1])) _
      rw [in01 (hb n (List.mem_of_getElem? hn))]
      exact hk _ (Same.new hp)
    · intro H' s2 hD'
      refine ⟨D, List.replicate ns.length true, rfl, SqL.of (by rw [hD', List.map_replicate]), ?_⟩
      rw [all_rep]
      exact q H' (s1.trans s2)
/-! ### wedges -/
abbrev W2 := List Int × List Int
structure WOk (w : W2) : Prop where
  l1 : w.1.length = 15
  l2 : w.2.length = 6
  bit : ∀ b ∈ w.2, Bit b
def wf (t1 t2 : Addr) : List (Str × V) := [("_pairs", .ref t1), ("_bits", .ref t2)]
structure WAt (K : PySem.W.Frag) (C : Addr) (H : Hp) (p : Addr) (w : W2) : Prop where
  ex : ∃ dx t1 t2, H p = some (.ins C dx (wf t1 t2)) ∧ SqT K H t1 (w.1.map V.int) ∧ SqT K H t2 (w.2.map V.int)
  ok : WOk w
theorem WAt.same {C : Addr} {H H' : Hp} {p : Addr} {w : W2} (h : WAt K C H p w) (s : Same H H') : WAt K C H' p w := by
  obtain ⟨dx, t1, t2, h1, h2, h3⟩ := h.ex
  exact ⟨⟨dx, t1, t2, s _ _ h1, seqT s h2, seqT s h3⟩, h.ok⟩
theorem npb : ¬ (("_pairs" : Str) = "_bits") := by decide +kernel
theorem wf_put (t1 t2 : Addr) : putF "_bits" (V.ref t2) (putF "_pairs" (V.ref t1) []) = wf t1 t2 := by
  show (if ("_pairs" : Str) = "_bits" then [(("_pairs" : Str), V.ref t2)] else (("_pairs" : Str), V.ref t1) :: putF "_bits" (V.ref t2) []) = _
  rw [if_neg npb]
  rfl
theorem wf_p (t1 t2 : Addr) : (wf t1 t2).lookup ("_pairs" : Str) = some (.ref t1) := by simp [wf, List.lookup]
theorem wf_b (t1 t2 : Addr) : (wf t1 t2).lookup ("_bits" : Str) = some (.ref t2) := by
  have : (("_bits" : Str) == "_pairs") = false := by decide +kernel
  simp [wf, List.lookup, this]
theorem wf_no (t1 t2 : Addr) {m : Str} (h1 : ¬ m = "_pairs") (h2 : ¬ m = "_bits") : (wf t1 t2).lookup m = none := by
  have e1 : (m == ("_pairs" : Str)) = false := by simpa using h1
  have e2 : (m == ("_bits" : Str)) = false := by simpa using h2
  simp [wf, List.lookup, e1, e2]
def spInit (K : PySem.W.Frag) (C : Addr) : Sp := fun vs H Q _ => ∃ (p dx a b : Addr) (w : W2), vs = [.ref p, .ref a, .ref b] ∧ H p = some (.ins C dx []) ∧ Sq K H a (w.1.map V.int) ∧ Sq K H b (w.2.map V.int) ∧ WOk w ∧
  ∀ H', WAt K C H' p w → (∀ c o, H c = some o → c ≠ p → H' c = some o) → Q .non H'
theorem ok_init (T : Tx K mg) : FnOk P w K mg base CX0 4 T.f_Wedge_init T.d_Wedge_init ["self", "pairs", "bits"] (spInit K T.C_Wedge) := by
  have G_are_numbers := ok_are_numbers (P := P) (w := w) (base := base) T
  have G_are_bits := ok_are_bits (P := P) (w := w) (base := base) T
  refine T.F_Wedge_init.ok sc_Wedge_init (fun vs H Q E h => ?_) (fun cdv A outer s H vs Q E hr h => ?_)
  · obtain ⟨p, dx, a, b, w, rfl, _⟩ := h
    rfl
  obtain ⟨p, dx, a, b, wd, rfl, hp, h1, h2, hw, q⟩ := h
  have nd := sc_Wedge_init.nd
  obtain ⟨xsP, lP, hP⟩ := T.l_PAIRS
  refine ⟨_, (pss_cons (ps_if (PW.pt (pw_or (pt_not (pt_val (pe_call G_are_numbers (hr.mono (by decide)) (by rfl) T.m_are_numbers T.F_are_numbers.kp T.b_are_numbers .nil pass0 (pa_cons (pv 1) (pa_cons (pe_callB (show CallR _ _ (rLenSq K) from call_len_seq) (by rfl) T.z_len (by decide +kernel) (pa_cons (pe_glob (v := .ref T.e_PAIRS) (by rfl) T.m_PAIRS rfl) pa_nil)) pa_nil))))) (pw_or1 (pt_not (pt_val (pe_call G_are_bits hr (by rfl) T.m_are_bits T.F_are_bits.kp T.b_are_bits .nil pass0 (pa_cons (pv 2) (pa_cons (pe_callB (show CallR _ _ (rLenSq K) from call_len_seq) (by rfl) T.z_len (by decide +kernel) (pa_cons (pe_glob (v := .ref T.e_PRIMES) (by rfl) T.m_PRIMES rfl) pa_nil)) pa_nil)))))))) (pss_one ps_never) pss_nil)
    (pss_cons (ps_fld (pv 0) (pe_callTy (show CallR _ _ (rTup1 K) from call_tup1) (by rfl) T.z_tuple (by decide +kernel) (pa_cons (pv 1) pa_nil)) rfl)
    (pss_one (ps_fld (pv 0) (pe_callTy (show CallR _ _ (rTup1 K) from call_tup1) (by rfl) T.z_tuple (by decide +kernel) (pa_cons (pv 2) pa_nil)) rfl)))), ?_⟩
  refine ⟨_, rfl, T.e_PAIRS, xsP, rfl, .inr (hP _), a, wd.1, (by rw [lP, hw.l1]; rfl), h1, (by rw [hw.l1]; decide), fun H1 s1 => ?_⟩
  walk_at "go"
  refine ⟨T.e_PRIMES, _, rfl, .inr (T.q_PRIMES _), b, wd.2, (by rw [hw.l2]; rfl), h2.same s1, (by rw [hw.l2]; decide), hw.bit, fun H2 s2 => ?_⟩
  have s12 := s1.trans s2
  walk_at "go"
  refine ⟨a, _, rfl, h1.same s12, fun t1 H3 s3 ht1 => ?_⟩
  have s13 := s12.trans s3
  refine ⟨_, rfl, p, T.C_Wedge, dx, [], rfl, s13 _ _ hp, T.c_Wedge, T.n_Wedge_pairs, (by show 0 < 1000; decide), ?_⟩
  refine ⟨_, rfl, b, _, rfl, (h2.same s13).ins (s13 _ _ hp), fun t2 H4 s4 ht2 => ?_⟩
  have hp4 := s4 _ _ (upd_same (H := H3) (a := p) (o := .ins T.C_Wedge dx (putF "_pairs" (V.ref t1) [])))
  refine ⟨_, rfl, p, T.C_Wedge, dx, _, rfl, hp4, T.c_Wedge, T.n_Wedge_bits, (by show 1 < 1000; decide), ?_⟩
  rw [wf_put]
  refine q _ ⟨⟨dx, t1, t2, upd_same, seqT_ins hp4 (seqT s4 (seqT_ins (s13 _ _ hp) ht1)), seqT_ins hp4 ht2⟩, hw⟩ fun c o e n => ?_
  rw [upd_ne n]
  refine s4 _ _ ?_
  rw [upd_ne n]
  exact s13 _ _ e
/-! ### Wedge(..), and what the operators give -/
section
variable {H : Hp} {Q : VK} {E : XK} {C : Addr}
theorem make_w {a b : Addr} {wd : W2} (h1 : Sq K H a (wd.1.map V.int)) (h2 : Sq K H b (wd.2.map V.int)) (hw : WOk wd) (q : ∀ x H', Same H H' → WAt K C H' x wd → Q (.ref x) H') :
    ∀ x dx, H x = none → H dx = none → dx ≠ x → spInit K C (.ref x :: ([.ref a, .ref b] ++ [])) (upd (upd H dx (.own x)) x (.ins C dx [])) (fun v H2 => v = .non ∧ Q (.ref x) H2) E := by
  intro x dx nx nd ne
  have s0 : Same H (upd (upd H dx (.own x)) x (.ins C dx [])) := fun c o e => by
    rw [upd_ne (ne_of_none e nx), upd_ne (ne_of_none e nd)]
    exact e
  refine ⟨x, dx, a, b, wd, rfl, upd_same, h1.same s0, h2.same s0, hw, fun H' hx kp => ⟨rfl, ?_⟩⟩
  exact q x H' (fun c o e => kp c o (s0 c o e) (ne_of_none e nx)) hx
end
def addW (x y : W2) : W2 := (List.zipWith (· + ·) x.1 y.1, List.zipWith (fun a b => (a + b).fmod 2) x.2 y.2)
def subW (x y : W2) : W2 := (List.zipWith (· - ·) x.1 y.1, List.zipWith (fun a b => (a + b).fmod 2) x.2 y.2)
def negW (x : W2) : W2 := (x.1.map (- ·), x.2)
def mulW (k : Int) (x : W2) : W2 := (x.1.map (k * ·), x.2.map (fun b => (k * b).fmod 2))
theorem bit_mod (a : Int) : Bit (a.fmod 2) := by
  have := fm (i := a) (j := 2) (by decide)
  unfold Bit
  omega
theorem bit_zip {f : Int → Int → Int} (hf : ∀ a b, Bit (f a b)) {xs ys : List Int} : ∀ z ∈ List.zipWith f xs ys, Bit z := by
  intro z hz
  obtain ⟨i, hi, rfl⟩ := List.mem_iff_getElem.mp hz
  rw [List.getElem_zipWith]
  exact hf _ _
theorem addW_ok {x y : W2} (h1 : WOk x) (h2 : WOk y) : WOk (addW x y) := ⟨by simp [addW, h1.l1, h2.l1], by simp [addW, h1.l2, h2.l2], bit_zip fun a b => bit_mod _⟩
theorem subW_ok {x y : W2} (h1 : WOk x) (h2 : WOk y) : WOk (subW x y) := ⟨by simp [subW, h1.l1, h2.l1], by simp [subW, h1.l2, h2.l2], bit_zip fun a b => bit_mod _⟩
theorem negW_ok {x : W2} (h1 : WOk x) : WOk (negW x) := ⟨by simp [negW, h1.l1], h1.l2, h1.bit⟩
theorem mulW_ok {k : Int} {x : W2} (h1 : WOk x) : WOk (mulW k x) := ⟨by simp [mulW, h1.l1], by simp [mulW, h1.l2], fun b hb => by
  obtain ⟨c, _, rfl⟩ := List.mem_map.mp hb
  exact bit_mod _⟩
/-- x op y of two wedges -/
def spOp2 (K : PySem.W.Frag) (C : Addr) (f : W2 → W2 → W2) : Sp := fun vs H Q _ => ∃ (p r : Addr) (x y : W2), vs = [.ref p, .ref r] ∧ WAt K C H p x ∧ WAt K C H r y ∧ ∀ t H', Same H H' → WAt K C H' t (f x y) → Q (.ref t) H'
end
end TL
namespace TL
open PySem L2

/-! ### steps of a reading -/
local macro_rules | `(tactic| walk_at "hp") => `(tactic| first | assumption | exact upd_same | (refine (upd_ne (by first | assumption | (exact Ne.symm (by assumption)))).trans ?_; walk_at "hp"))
local macro_rules | `(tactic| walk_at "ok") => `(tactic| first | (exact Or.inr ⟨by decide, by decide⟩) | (exact ⟨by decide, by decide⟩) | (exact ⟨by decide, by decide, by decide⟩) | (show _ ≠ _; omega) | (show _ ≠ _; decide) | (exact Or.inl ⟨by omega, by omega⟩) | decide)
local macro_rules | `(tactic| walk_at "sq") => `(tactic| first | assumption | exact SqL.of (by walk_at "hp") | exact SqT.of (by walk_at "hp"))
local macro_rules | `(tactic| walk_at "ty") => `(tactic| first | refine ⟨_, _, Value.type "int", Value.type "list", false, rfl, ClsV.ty _, TyX.base (TyOf.int _), kt_int_list, ?_⟩ | refine ⟨_, _, Value.type "bool", Value.type "list", false, rfl, ClsV.ty _, TyX.base (TyOf.bl _), kt_bool_list, ?_⟩ | refine ⟨_, _, Value.type "str", Value.type "list", false, rfl, ClsV.ty _, TyX.base (TyOf.str _), kt_str_list, ?_⟩ | refine ⟨_, _, Value.type "NoneType", Value.type "list", false, rfl, ClsV.ty _, TyX.base TyOf.non, kt_NoneType_list, ?_⟩ | refine ⟨_, _, Value.type "list", Value.type "list", true, rfl, ClsV.ty _, tyx_L (by walk_at "sq"), kt_list_list, ?_⟩ | refine ⟨_, _, Value.type "tuple", Value.type "list", false, rfl, ClsV.ty _, tyx_T (by walk_at "sq"), kt_tuple_list, ?_⟩ | refine ⟨_, _, Value.type "int", Value.type "tuple", false, rfl, ClsV.ty _, TyX.base (TyOf.int _), kt_int_tuple, ?_⟩ | refine ⟨_, _, Value.type "bool", Value.type "tuple", false, rfl, ClsV.ty _, TyX.base (TyOf.bl _), kt_bool_tuple, ?_⟩ | refine ⟨_, _, Value.type "str", Value.type "tuple", false, rfl, ClsV.ty _, TyX.base (TyOf.str _), kt_str_tuple, ?_⟩ | refine ⟨_, _, Value.type "NoneType", Value.type "tuple", false, rfl, ClsV.ty _, TyX.base TyOf.non, kt_NoneType_tuple, ?_⟩ | refine ⟨_, _, Value.type "list", Value.type "tuple", false, rfl, ClsV.ty _, tyx_L (by walk_at "sq"), kt_list_tuple, ?_⟩ | refine ⟨_, _, Value.type "tuple", Value.type "tuple", true, rfl, ClsV.ty _, tyx_T (by walk_at "sq"), kt_tuple_tuple, ?_⟩ | refine ⟨_, _, Value.type "int", Value.type "bool", false, rfl, ClsV.ty _, TyX.base (TyOf.int _), kt_int_bool, ?_⟩ | refine ⟨_, _, Value.type "bool", Value.type "bool", true, rfl, ClsV.ty _, TyX.base (TyOf.bl _), kt_bool_bool, ?_⟩ | refine ⟨_, _, Value.type "str", Value.type "bool", false, rfl, ClsV.ty _, TyX.base (TyOf.str _), kt_str_bool, ?_⟩ | refine ⟨_, _, Value.type "NoneType", Value.type "bool", false, rfl, ClsV.ty _, TyX.base TyOf.non, kt_NoneType_bool, ?_⟩ | refine ⟨_, _, Value.type "list", Value.type "bool", false, rfl, ClsV.ty _, tyx_L (by walk_at "sq"), kt_list_bool, ?_⟩ | refine ⟨_, _, Value.type "tuple", Value.type "bool", false, rfl, ClsV.ty _, tyx_T (by walk_at "sq"), kt_tuple_bool, ?_⟩ | refine ⟨_, _, Value.type "int", Value.type "int", true, rfl, ClsV.ty _, TyX.base (TyOf.int _), kt_int_int, ?_⟩ | refine ⟨_, _, Value.type "bool", Value.type "int", true, rfl, ClsV.ty _, TyX.base (TyOf.bl _), kt_bool_int, ?_⟩ | refine ⟨_, _, Value.type "str", Value.type "int", false, rfl, ClsV.ty _, TyX.base (TyOf.str _), kt_str_int, ?_⟩ | refine ⟨_, _, Value.type "NoneType", Value.type "int", false, rfl, ClsV.ty _, TyX.base TyOf.non, kt_NoneType_int, ?_⟩ | refine ⟨_, _, Value.type "list", Value.type "int", false, rfl, ClsV.ty _, tyx_L (by walk_at "sq"), kt_list_int, ?_⟩ | refine ⟨_, _, Value.type "tuple", Value.type "int", false, rfl, ClsV.ty _, tyx_T (by walk_at "sq"), kt_tuple_int, ?_⟩ | refine ⟨_, _, Value.type "int", Value.type "str", false, rfl, ClsV.ty _, TyX.base (TyOf.int _), kt_int_str, ?_⟩ | refine ⟨_, _, Value.type "bool", Value.type "str", false, rfl, ClsV.ty _, TyX.base (TyOf.bl _), kt_bool_str, ?_⟩ | refine ⟨_, _, Value.type "str", Value.type "str", true, rfl, ClsV.ty _, TyX.base (TyOf.str _), kt_str_str, ?_⟩ | refine ⟨_, _, Value.type "NoneType", Value.type "str", false, rfl, ClsV.ty _, TyX.base TyOf.non, kt_NoneType_str, ?_⟩ | refine ⟨_, _, Value.type "list", Value.type "str", false, rfl, ClsV.ty _, tyx_L (by walk_at "sq"), kt_list_str, ?_⟩ | refine ⟨_, _, Value.type "tuple", Value.type "str", false, rfl, ClsV.ty _, tyx_T (by walk_at "sq"), kt_tuple_str, ?_⟩)
local macro_rules | `(tactic| walk_at "go1") => `(tactic| first
  | (refine ⟨_, rfl, ?_⟩)
  | (refine ⟨_, _, rfl, rfl, ?_⟩)
  | (refine ⟨_, _, _, _, rfl, rfl, SqL.of (by walk_at "hp"), rfl, ?_⟩)
  | (refine Or.inl ⟨_, rfl, ?_⟩)
  | (refine ⟨rfl, ?_⟩)
  | (refine ⟨_, _, rfl, .inl (SqL.of (by walk_at "hp")), ?_⟩)
  | (refine ⟨_, _, rfl, Or.inl (by assumption), ?_⟩)
  | (refine ⟨_, _, rfl, Or.inr (by assumption), ?_⟩)
  | (refine ⟨(by walk_at "ok"), ?_⟩)
  | (refine ⟨_, _, _, _, rfl, rfl, (by walk_at "hp"), rfl, ?_⟩))
local macro_rules | `(tactic| walk_at "go") => `(tactic| repeat (walk_at "go1"))
local macro_rules | `(tactic| walk_at "gt") => `(tactic| repeat (first | walk_at "go1" | walk_at "ty"))

section
variable {P : Program} {w : World} {K : PySem.W.Frag} {mg : Str → Option Value} {base : Heap}
theorem ok_add (T : Tx K mg) : FnOk P w K mg base CX0 6 T.f_Wedge_add T.d_Wedge_add ["self", "other"] (spOp2 K T.C_Wedge addW) := by
  have G_Wedge_init := ok_init (P := P) (w := w) (base := base) T
  refine T.F_Wedge_add.ok sc_Wedge_add (fun vs H Q E h => ?_) (fun cdv A outer s H vs Q E hr h => ?_)
  · obtain ⟨p, r, x, y, rfl, _⟩ := h
    rfl
  obtain ⟨p, r, x, y, rfl, hx, hy, q⟩ := h
  have nd := sc_Wedge_add.nd
  obtain ⟨⟨dx, t1, t2, e1, e2, e3⟩, ox⟩ := id hx
  obtain ⟨⟨dy, r1, r2, g1, g2, g3⟩, oy⟩ := id hy
  refine ⟨_, (pss_cons (ps_setLc (i := 2) (own := [("one", 3), ("two", 4)]) (g := (gTup K 2 (gCons (gName 3) (gCons (gName 4) gNil)))) rfl nd rfl rfl (sw_true rfl rfl rfl (by decide +kernel)) (show PI _ _ _ (RZ.iZipA K _) from RZ.pi_zipA (by rfl) T.z_zip (pa_cons (show PE _ _ (tFld K _ _) from pe_fld (pv 0) rfl) (pa_cons (show PE _ _ (tFld K _ _) from pe_fld (pv 1) rfl) pa_nil))) (blkOk_by (own := [("one", 3), ("two", 4)]) (N := N_Wedge_add) (sc := defScope s_Wedge_add) (by decide +kernel)) (fun _ _ _ _ _ => by exact (pg_tup rfl (pgs_cons (pg_name (i := 3) nd rfl (Or.inl rfl)) (pgs_cons (pg_name (i := 4) nd rfl (Or.inl rfl)) pgs_nil)))) (fun _ _ _ _ _ => by exact pts_nil) (fun _ _ _ _ _ => by exact (pe_op op_add (pv 3) (pv 4))))
    (pss_one (ps_ret (pe_make T.k_Wedge G_Wedge_init hr (by rfl) T.g_Wedge T.b_Wedge_init .nil pass0 (pa_cons (pv 2) (pa_cons (pe_lc (own := [("one", 3), ("two", 4)]) (g := (gTup K 2 (gCons (gName 3) (gCons (gName 4) gNil)))) rfl nd (show PI _ _ _ (RZ.iZipA K _) from RZ.pi_zipA (by rfl) T.z_zip (pa_cons (show PE _ _ (tFld K _ _) from pe_fld (pv 0) rfl) (pa_cons (show PE _ _ (tFld K _ _) from pe_fld (pv 1) rfl) pa_nil))) (blkOk_by (own := [("one", 3), ("two", 4)]) (N := N_Wedge_add) (sc := defScope s_Wedge_add) (by decide +kernel)) (fun _ _ _ _ _ => by exact (pg_tup rfl (pgs_cons (pg_name (i := 3) nd rfl (Or.inl rfl)) (pgs_cons (pg_name (i := 4) nd rfl (Or.inl rfl)) pgs_nil)))) (fun _ _ _ _ _ => by exact pts_nil) (fun _ _ _ _ _ => by exact (pe_op op_modN (pe_op op_add (pv 3) (pv 4)) pe_int))) pa_nil)))))), ?_⟩
  refine ⟨_, rfl, p, _, _, _, _, rfl, e1, T.c_Wedge, T.n_Wedge_pairs, wf_p _ _, _, rfl, r, _, _, _, _, rfl, g1, T.c_Wedge, T.n_Wedge_pairs, wf_p _ _, t1, r1, _, _, rfl, .inr ⟨e2, g2, fun D hD => ?_⟩⟩
  refine lc_zipT (f := fun a b => a + b) e2 g2 (by rw [ox.l1, oy.l1]) (by rw [ox.l1]; decide) hD (fun u v => rfl) (fun u v H1 k _ _ hk => ⟨_, rfl, _, rfl, u, v, rfl, rfl, hk⟩) fun H1 s1 hD1 => ?_
  refine ⟨_, rfl, _, rfl, p, _, _, _, _, rfl, s1 _ _ e1, T.c_Wedge, T.n_Wedge_bits, wf_b _ _, _, rfl, r, _, _, _, _, rfl, s1 _ _ g1, T.c_Wedge, T.n_Wedge_bits, wf_b _ _, t2, r2, _, _, rfl, .inr ⟨seqT s1 e3, seqT s1 g3, fun D2 hD2 => ?_⟩⟩
  refine lc_zipT (f := fun a b => (a + b).fmod 2) (seqT s1 e3) (seqT s1 g3) (by rw [ox.l2, oy.l2]) (by rw [ox.l2]; decide) hD2 (fun u v => rfl) (fun u v H1 k _ _ hk => ⟨_, rfl, _, rfl, u, v, rfl, rfl, _, _, rfl, rfl, (by show (2 : Int) ≠ 0; decide), hk⟩) fun H2 s2 hD3 => ?_
  exact make_w (wd := addW x y) (.inl (SqL.of (s2 _ _ hD1))) (.inl (SqL.of hD3)) (addW_ok ox oy) fun z H' s3 hz => q z H' ((s1.trans s2).trans s3) hz
theorem ok_sub (T : Tx K mg) : FnOk P w K mg base CX0 6 T.f_Wedge_sub T.d_Wedge_sub ["self", "other"] (spOp2 K T.C_Wedge subW) := by
  have G_Wedge_init := ok_init (P := P) (w := w) (base := base) T
  refine T.F_Wedge_sub.ok sc_Wedge_sub (fun vs H Q E h => ?_) (fun cdv A outer s H vs Q E hr h => ?_)
  · obtain ⟨p, r, x, y, rfl, _⟩ := h
    rfl
  obtain ⟨p, r, x, y, rfl, hx, hy, q⟩ := h
  have nd := sc_Wedge_sub.nd
  obtain ⟨⟨dx, t1, t2, e1, e2, e3⟩, ox⟩ := id hx
  obtain ⟨⟨dy, r1, r2, g1, g2, g3⟩, oy⟩ := id hy
  refine ⟨_, (pss_cons (ps_setLc (i := 2) (own := [("one", 3), ("two", 4)]) (g := (gTup K 2 (gCons (gName 3) (gCons (gName 4) gNil)))) rfl nd rfl rfl (sw_true rfl rfl rfl (by decide +kernel)) (show PI _ _ _ (RZ.iZipA K _) from RZ.pi_zipA (by rfl) T.z_zip (pa_cons (show PE _ _ (tFld K _ _) from pe_fld (pv 0) rfl) (pa_cons (show PE _ _ (tFld K _ _) from pe_fld (pv 1) rfl) pa_nil))) (blkOk_by (own := [("one", 3), ("two", 4)]) (N := N_Wedge_sub) (sc := defScope s_Wedge_sub) (by decide +kernel)) (fun _ _ _ _ _ => by exact (pg_tup rfl (pgs_cons (pg_name (i := 3) nd rfl (Or.inl rfl)) (pgs_cons (pg_name (i := 4) nd rfl (Or.inl rfl)) pgs_nil)))) (fun _ _ _ _ _ => by exact pts_nil) (fun _ _ _ _ _ => by exact (pe_op op_sub (pv 3) (pv 4))))
    (pss_one (ps_ret (pe_make T.k_Wedge G_Wedge_init hr (by rfl) T.g_Wedge T.b_Wedge_init .nil pass0 (pa_cons (pv 2) (pa_cons (pe_lc (own := [("one", 3), ("two", 4)]) (g := (gTup K 2 (gCons (gName 3) (gCons (gName 4) gNil)))) rfl nd (show PI _ _ _ (RZ.iZipA K _) from RZ.pi_zipA (by rfl) T.z_zip (pa_cons (show PE _ _ (tFld K _ _) from pe_fld (pv 0) rfl) (pa_cons (show PE _ _ (tFld K _ _) from pe_fld (pv 1) rfl) pa_nil))) (blkOk_by (own := [("one", 3), ("two", 4)]) (N := N_Wedge_sub) (sc := defScope s_Wedge_sub) (by decide +kernel)) (fun _ _ _ _ _ => by exact (pg_tup rfl (pgs_cons (pg_name (i := 3) nd rfl (Or.inl rfl)) (pgs_cons (pg_name (i := 4) nd rfl (Or.inl rfl)) pgs_nil)))) (fun _ _ _ _ _ => by exact pts_nil) (fun _ _ _ _ _ => by exact (pe_op op_modN (pe_op op_add (pv 3) (pv 4)) pe_int))) pa_nil)))))), ?_⟩
  refine ⟨_, rfl, p, _, _, _, _, rfl, e1, T.c_Wedge, T.n_Wedge_pairs, wf_p _ _, _, rfl, r, _, _, _, _, rfl, g1, T.c_Wedge, T.n_Wedge_pairs, wf_p _ _, t1, r1, _, _, rfl, .inr ⟨e2, g2, fun D hD => ?_⟩⟩
  refine lc_zipT (f := fun a b => a - b) e2 g2 (by rw [ox.l1, oy.l1]) (by rw [ox.l1]; decide) hD (fun u v => rfl) (fun u v H1 k _ _ hk => ⟨_, rfl, _, rfl, u, v, rfl, rfl, hk⟩) fun H1 s1 hD1 => ?_
  refine ⟨_, rfl, _, rfl, p, _, _, _, _, rfl, s1 _ _ e1, T.c_Wedge, T.n_Wedge_bits, wf_b _ _, _, rfl, r, _, _, _, _, rfl, s1 _ _ g1, T.c_Wedge, T.n_Wedge_bits, wf_b _ _, t2, r2, _, _, rfl, .inr ⟨seqT s1 e3, seqT s1 g3, fun D2 hD2 => ?_⟩⟩
  refine lc_zipT (f := fun a b => (a + b).fmod 2) (seqT s1 e3) (seqT s1 g3) (by rw [ox.l2, oy.l2]) (by rw [ox.l2]; decide) hD2 (fun u v => rfl) (fun u v H1 k _ _ hk => ⟨_, rfl, _, rfl, u, v, rfl, rfl, _, _, rfl, rfl, (by show (2 : Int) ≠ 0; decide), hk⟩) fun H2 s2 hD3 => ?_
  exact make_w (wd := subW x y) (.inl (SqL.of (s2 _ _ hD1))) (.inl (SqL.of hD3)) (subW_ok ox oy) fun z H' s3 hz => q z H' ((s1.trans s2).trans s3) hz
def spNegW (K : PySem.W.Frag) (C : Addr) : Sp := fun vs H Q _ => ∃ (p : Addr) (x : W2), vs = [.ref p] ∧ WAt K C H p x ∧ ∀ t H', Same H H' → WAt K C H' t (negW x) → Q (.ref t) H'
theorem ok_neg (T : Tx K mg) : FnOk P w K mg base CX0 6 T.f_Wedge_neg T.d_Wedge_neg ["self"] (spNegW K T.C_Wedge) := by
  have G_Wedge_init := ok_init (P := P) (w := w) (base := base) T
  refine T.F_Wedge_neg.ok sc_Wedge_neg (fun vs H Q E h => ?_) (fun cdv A outer s H vs Q E hr h => ?_)
  · obtain ⟨p, x, rfl, _⟩ := h
    rfl
  obtain ⟨p, x, rfl, hx, q⟩ := h
  have nd := sc_Wedge_neg.nd
  obtain ⟨⟨dx, t1, t2, e1, e2, e3⟩, ox⟩ := id hx
  refine ⟨_, (pss_one (ps_ret (pe_make T.k_Wedge G_Wedge_init hr (by rfl) T.g_Wedge T.b_Wedge_init .nil pass0 (pa_cons (pe_lc (own := [("number", 1)]) (g := (gName 1)) rfl nd (show PI _ _ _ (iTup K _) from pi_tup (show PE _ _ (tFld K _ _) from pe_fld (pv 0) rfl)) (blkOk_by (own := [("number", 1)]) (N := N_Wedge_neg) (sc := defScope s_Wedge_neg) (by decide +kernel)) (fun _ _ _ _ _ => by exact (pg_name (i := 1) nd rfl (Or.inl rfl))) (fun _ _ _ _ _ => by exact pts_nil) (fun _ _ _ _ _ => by exact (pe_un un_neg (pv 1)))) (pa_cons (show PE _ _ (tFld K _ _) from pe_fld (pv 0) rfl) pa_nil))))), ?_⟩
  refine ⟨_, rfl, p, _, _, _, _, rfl, e1, T.c_Wedge, T.n_Wedge_pairs, wf_p _ _, t1, rfl, ⟨_, e2⟩, fun D hD => ?_⟩
  refine lc_mapT (f := fun a => -a) e2 (by rw [ox.l1]; decide) hD (fun u => rfl) (fun u H1 k _ hk => ⟨_, rfl, u, rfl, hk⟩) fun H1 s1 hD1 => ?_
  refine ⟨_, rfl, p, _, _, _, _, rfl, s1 _ _ e1, T.c_Wedge, T.n_Wedge_bits, wf_b _ _, ?_⟩
  exact make_w (wd := negW x) (.inl (SqL.of hD1)) (.inr (seqT s1 e3)) (negW_ok ox) fun z H' s3 hz => q z H' (s1.trans s3) hz
def Small (k : Int) (x : W2) : Prop := ∀ u ∈ x.1, CMulW k u
def spMulW (K : PySem.W.Frag) (C : Addr) : Sp := fun vs H Q _ => ∃ (p : Addr) (k : Int) (x : W2), vs = [.ref p, .int k] ∧ WAt K C H p x ∧ Small k x ∧ ∀ t H', Same H H' → WAt K C H' t (mulW k x) → Q (.ref t) H'
theorem bit_mul (k : Int) {b : Int} (h : Bit b) : CMul k b := by
  refine .inr ?_
  rcases h with rfl | rfl <;> exact ⟨by decide, by decide⟩
theorem ok_mul (T : Tx K mg) : FnOk P w K mg base CX0 6 T.f_Wedge_mul T.d_Wedge_mul ["self", "k"] (spMulW K T.C_Wedge) := by
  have G_Wedge_init := ok_init (P := P) (w := w) (base := base) T
  refine T.F_Wedge_mul.ok sc_Wedge_mul (fun vs H Q E h => ?_) (fun cdv A outer s H vs Q E hr h => ?_)
  · obtain ⟨p, k, x, rfl, _⟩ := h
    rfl
  obtain ⟨p, k, x, rfl, hx, hsm, q⟩ := h
  have nd := sc_Wedge_mul.nd
  obtain ⟨⟨dx, t1, t2, e1, e2, e3⟩, ox⟩ := id hx
  refine ⟨_, (pss_one (ps_ret (pe_make T.k_Wedge G_Wedge_init hr (by rfl) T.g_Wedge T.b_Wedge_init .nil pass0 (pa_cons (pe_lc (own := [("number", 2)]) (g := (gName 2)) rfl nd (show PI _ _ _ (iTup K _) from pi_tup (show PE _ _ (tFld K _ _) from pe_fld (pv 0) rfl)) (blkOk_by (own := [("number", 2)]) (N := N_Wedge_mul) (sc := defScope s_Wedge_mul) (by decide +kernel)) (fun _ _ _ _ _ => by exact (pg_name (i := 2) nd rfl (Or.inl rfl))) (fun _ _ _ _ _ => by exact pts_nil) (fun _ _ _ _ _ => by exact (pe_op op_mulW (pv 1) (pv 2)))) (pa_cons (pe_lc (own := [("bit", 3)]) (g := (gName 3)) rfl nd (show PI _ _ _ (iTup K _) from pi_tup (show PE _ _ (tFld K _ _) from pe_fld (pv 0) rfl)) (blkOk_by (own := [("bit", 3)]) (N := N_Wedge_mul) (sc := defScope s_Wedge_mul) (by decide +kernel)) (fun _ _ _ _ _ => by exact (pg_name (i := 3) nd rfl (Or.inl rfl))) (fun _ _ _ _ _ => by exact pts_nil) (fun _ _ _ _ _ => by exact (pe_op op_modN (pe_op op_mul (pv 1) (pv 3)) pe_int))) pa_nil))))), ?_⟩
  refine ⟨_, rfl, p, _, _, _, _, rfl, e1, T.c_Wedge, T.n_Wedge_pairs, wf_p _ _, t1, rfl, ⟨_, e2⟩, fun D hD => ?_⟩
  refine lc_mapT (f := fun a => k * a) e2 (by rw [ox.l1]; decide) hD (fun u => rfl) (fun u H1 kk hu hk => ⟨_, rfl, _, rfl, k, u, rfl, rfl, hsm u hu, hk⟩) fun H1 s1 hD1 => ?_
  refine ⟨_, rfl, p, _, _, _, _, rfl, s1 _ _ e1, T.c_Wedge, T.n_Wedge_bits, wf_b _ _, t2, rfl, ⟨_, seqT s1 e3⟩, fun D2 hD2 => ?_⟩
  refine lc_mapT (f := fun b => (k * b).fmod 2) (seqT s1 e3) (by rw [ox.l2]; decide) hD2 (fun u => rfl) (fun u H1 kk hu hk => ⟨_, rfl, _, rfl, k, u, rfl, rfl, bit_mul k (ox.bit u hu), _, _, rfl, rfl, (by show (2 : Int) ≠ 0; decide), hk⟩) fun H2 s2 hD3 => ?_
  exact make_w (wd := mulW k x) (.inl (SqL.of (s2 _ _ hD1))) (.inl (SqL.of hD3)) (mulW_ok ox) fun z H' s3 hz => q z H' ((s1.trans s2).trans s3) hz
theorem ok_rmul (T : Tx K mg) : FnOk P w K mg base CX0 6 T.f_Wedge_rmul T.d_Wedge_rmul ["self", "k"] (spMulW K T.C_Wedge) := by
  have G_Wedge_init := ok_init (P := P) (w := w) (base := base) T
  refine T.F_Wedge_rmul.ok sc_Wedge_rmul (fun vs H Q E h => ?_) (fun cdv A outer s H vs Q E hr h => ?_)
  · obtain ⟨p, k, x, rfl, _⟩ := h
    rfl
  obtain ⟨p, k, x, rfl, hx, hsm, q⟩ := h
  have nd := sc_Wedge_rmul.nd
  obtain ⟨⟨dx, t1, t2, e1, e2, e3⟩, ox⟩ := id hx
  refine ⟨_, (pss_one (ps_ret (pe_make T.k_Wedge G_Wedge_init hr (by rfl) T.g_Wedge T.b_Wedge_init .nil pass0 (pa_cons (pe_lc (own := [("number", 2)]) (g := (gName 2)) rfl nd (show PI _ _ _ (iTup K _) from pi_tup (show PE _ _ (tFld K _ _) from pe_fld (pv 0) rfl)) (blkOk_by (own := [("number", 2)]) (N := N_Wedge_rmul) (sc := defScope s_Wedge_rmul) (by decide +kernel)) (fun _ _ _ _ _ => by exact (pg_name (i := 2) nd rfl (Or.inl rfl))) (fun _ _ _ _ _ => by exact pts_nil) (fun _ _ _ _ _ => by exact (pe_op op_mulW (pv 1) (pv 2)))) (pa_cons (pe_lc (own := [("bit", 3)]) (g := (gName 3)) rfl nd (show PI _ _ _ (iTup K _) from pi_tup (show PE _ _ (tFld K _ _) from pe_fld (pv 0) rfl)) (blkOk_by (own := [("bit", 3)]) (N := N_Wedge_rmul) (sc := defScope s_Wedge_rmul) (by decide +kernel)) (fun _ _ _ _ _ => by exact (pg_name (i := 3) nd rfl (Or.inl rfl))) (fun _ _ _ _ _ => by exact pts_nil) (fun _ _ _ _ _ => by exact (pe_op op_modN (pe_op op_mul (pv 1) (pv 3)) pe_int))) pa_nil))))), ?_⟩
  refine ⟨_, rfl, p, _, _, _, _, rfl, e1, T.c_Wedge, T.n_Wedge_pairs, wf_p _ _, t1, rfl, ⟨_, e2⟩, fun D hD => ?_⟩
  refine lc_mapT (f := fun a => k * a) e2 (by rw [ox.l1]; decide) hD (fun u => rfl) (fun u H1 kk hu hk => ⟨_, rfl, _, rfl, k, u, rfl, rfl, hsm u hu, hk⟩) fun H1 s1 hD1 => ?_
  refine ⟨_, rfl, p, _, _, _, _, rfl, s1 _ _ e1, T.c_Wedge, T.n_Wedge_bits, wf_b _ _, t2, rfl, ⟨_, seqT s1 e3⟩, fun D2 hD2 => ?_⟩
  refine lc_mapT (f := fun b => (k * b).fmod 2) (seqT s1 e3) (by rw [ox.l2]; decide) hD2 (fun u => rfl) (fun u H1 kk hu hk => ⟨_, rfl, _, rfl, k, u, rfl, rfl, bit_mul k (ox.bit u hu), _, _, rfl, rfl, (by show (2 : Int) ≠ 0; decide), hk⟩) fun H2 s2 hD3 => ?_
  exact make_w (wd := mulW k x) (.inl (SqL.of (s2 _ _ hD1))) (.inl (SqL.of hD3)) (mulW_ok ox) fun z H' s3 hz => q z H' ((s1.trans s2).trans s3) hz
end
end TL
namespace TL
open PySem L2

/-! ### steps of a reading -/
local macro_rules | `(tactic| walk_at "hp") => `(tactic| first | assumption | exact upd_same | (refine (upd_ne (by first | assumption | (exact Ne.symm (by assumption)))).trans ?_; walk_at "hp"))
local macro_rules | `(tactic| walk_at "ok") => `(tactic| first | (exact Or.inr ⟨by decide, by decide⟩) | (exact ⟨by decide, by decide⟩) | (exact ⟨by decide, by decide, by decide⟩) | (show _ ≠ _; omega) | (show _ ≠ _; decide) | (exact Or.inl ⟨by omega, by omega⟩) | decide)
local macro_rules | `(tactic| walk_at "sq") => `(tactic| first | assumption | exact SqL.of (by walk_at "hp") | exact SqT.of (by walk_at "hp"))
local macro_rules | `(tactic| walk_at "ty") => `(tactic| first | refine ⟨_, _, Value.type "int", Value.type "list", false, rfl, ClsV.ty _, TyX.base (TyOf.int _), kt_int_list, ?_⟩ | refine ⟨_, _, Value.type "bool", Value.type "list", false, rfl, ClsV.ty _, TyX.base (TyOf.bl _), kt_bool_list, ?_⟩ | refine ⟨_, _, Value.type "str", Value.type "list", false, rfl, ClsV.ty _, TyX.base (TyOf.str _), kt_str_list, ?_⟩ | refine ⟨_, _, Value.type "NoneType", Value.type "list", false, rfl, ClsV.ty _, TyX.base TyOf.non, kt_NoneType_list, ?_⟩ | refine ⟨_, _, Value.type "list", Value.type "list", true, rfl, ClsV.ty _, tyx_L (by walk_at "sq"), kt_list_list, ?_⟩ | refine ⟨_, _, Value.type "tuple", Value.type "list", false, rfl, ClsV.ty _, tyx_T (by walk_at "sq"), kt_tuple_list, ?_⟩ | refine ⟨_, _, Value.type "int", Value.type "tuple", false, rfl, ClsV.ty _, TyX.base (TyOf.int _), kt_int_tuple, ?_⟩ | refine ⟨_, _, Value.type "bool", Value.type "tuple", false, rfl, ClsV.ty _, TyX.base (TyOf.bl _), kt_bool_tuple, ?_⟩ | refine ⟨_, _, Value.type "str", Value.type "tuple", false, rfl, ClsV.ty _, TyX.base (TyOf.str _), kt_str_tuple, ?_⟩ | refine ⟨_, _, Value.type "NoneType", Value.type "tuple", false, rfl, ClsV.ty _, TyX.base TyOf.non, kt_NoneType_tuple, ?_⟩ | refine ⟨_, _, Value.type "list", Value.type "tuple", false, rfl, ClsV.ty _, tyx_L (by walk_at "sq"), kt_list_tuple, ?_⟩ | refine ⟨_, _, Value.type "tuple", Value.type "tuple", true, rfl, ClsV.ty _, tyx_T (by walk_at "sq"), kt_tuple_tuple, ?_⟩ | refine ⟨_, _, Value.type "int", Value.type "bool", false, rfl, ClsV.ty _, TyX.base (TyOf.int _), kt_int_bool, ?_⟩ | refine ⟨_, _, Value.type "bool", Value.type "bool", true, rfl, ClsV.ty _, TyX.base (TyOf.bl _), kt_bool_bool, ?_⟩ | refine ⟨_, _, Value.type "str", Value.type "bool", false, rfl, ClsV.ty _, TyX.base (TyOf.str _), kt_str_bool, ?_⟩ | refine ⟨_, _, Value.type "NoneType", Value.type "bool", false, rfl, ClsV.ty _, TyX.base TyOf.non, kt_NoneType_bool, ?_⟩ | refine ⟨_, _, Value.type "list", Value.type "bool", false, rfl, ClsV.ty _, tyx_L (by walk_at "sq"), kt_list_bool, ?_⟩ | refine ⟨_, _, Value.type "tuple", Value.type "bool", false, rfl, ClsV.ty _, tyx_T (by walk_at "sq"), kt_tuple_bool, ?_⟩ | refine ⟨_, _, Value.type "int", Value.type "int", true, rfl, ClsV.ty _, TyX.base (TyOf.int _), kt_int_int, ?_⟩ | refine ⟨_, _, Value.type "bool", Value.type "int", true, rfl, ClsV.ty _, TyX.base (TyOf.bl _), kt_bool_int, ?_⟩ | refine ⟨_, _, Value.type "str", Value.type "int", false, rfl, ClsV.ty _, TyX.base (TyOf.str _), kt_str_int, ?_⟩ | refine ⟨_, _, Value.type "NoneType", Value.type "int", false, rfl, ClsV.ty _, TyX.base TyOf.non, kt_NoneType_int, ?_⟩ | refine ⟨_, _, Value.type "list", Value.type "int", false, rfl, ClsV.ty _, tyx_L (by walk_at "sq"), kt_list_int, ?_⟩ | refine ⟨_, _, Value.type "tuple", Value.type "int", false, rfl, ClsV.ty _, tyx_T (by walk_at "sq"), kt_tuple_int, ?_⟩ | refine ⟨_, _, Value.type "int", Value.type "str", false, rfl, ClsV.ty _, TyX.base (TyOf.int _), kt_int_str, ?_⟩ | refine ⟨_, _, Value.type "bool", Value.type "str", false, rfl, ClsV.ty _, TyX.base (TyOf.bl _), kt_bool_str, ?_⟩ | refine ⟨_, _, Value.type "str", Value.type "str", true, rfl, ClsV.ty _, TyX.base (TyOf.str _), kt_str_str, ?_⟩ | refine ⟨_, _, Value.type "NoneType", Value.type "str", false, rfl, ClsV.ty _, TyX.base TyOf.non, kt_NoneType_str, ?_⟩ | refine ⟨_, _, Value.type "list", Value.type "str", false, rfl, ClsV.ty _, tyx_L (by walk_at "sq"), kt_list_str, ?_⟩ | refine ⟨_, _, Value.type "tuple", Value.type "str", false, rfl, ClsV.ty _, tyx_T (by walk_at "sq"), kt_tuple_str, ?_⟩)
local macro_rules | `(tactic| walk_at "go1") => `(tactic| first
  | (refine ⟨_, rfl, ?_⟩)
  | (refine ⟨_, _, rfl, rfl, ?_⟩)
  | (refine ⟨_, _, _, _, rfl, rfl, SqL.of (by walk_at "hp"), rfl, ?_⟩)
  | (refine Or.inl ⟨_, rfl, ?_⟩)
  | (refine ⟨rfl, ?_⟩)
  | (refine ⟨_, _, rfl, .inl (SqL.of (by walk_at "hp")), ?_⟩)
  | (refine ⟨_, _, rfl, Or.inl (by assumption), ?_⟩)
  | (refine ⟨_, _, rfl, Or.inr (by assumption), ?_⟩)
  | (refine ⟨(by walk_at "ok"), ?_⟩)
  | (refine ⟨_, _, _, _, rfl, rfl, (by walk_at "hp"), rfl, ?_⟩))
local macro_rules | `(tactic| walk_at "go") => `(tactic| repeat (walk_at "go1"))
local macro_rules | `(tactic| walk_at "gt") => `(tactic| repeat (first | walk_at "go1" | walk_at "ty"))

section
variable {P : Program} {w : World} {K : PySem.W.Frag} {mg : Str → Option Value} {base : Heap}
def spGet (K : PySem.W.Frag) (C : Addr) (f : W2 → List Int) : Sp := fun vs H Q _ => ∃ (p : Addr) (x : W2), vs = [.ref p] ∧ WAt K C H p x ∧ ∀ t, SqT K H t ((f x).map V.int) → Q (.ref t) H
theorem ok_pairs (T : Tx K mg) : FnOk P w K mg base CX0 1 T.f_Wedge_pairs T.d_Wedge_pairs ["self"] (spGet K T.C_Wedge (·.1)) := by
  refine T.F_Wedge_pairs.ok sc_Wedge_pairs (fun vs H Q E h => ?_) (fun cdv A outer s H vs Q E hr h => ?_)
  · obtain ⟨p, x, rfl, _⟩ := h
    rfl
  obtain ⟨p, x, rfl, ⟨⟨dx, t1, t2, e1, e2, e3⟩, ox⟩, q⟩ := h
  refine ⟨_, (pss_one (ps_ret (show PE _ _ (tFld K _ _) from pe_fld (pv 0) rfl))), ?_⟩
  exact ⟨_, rfl, p, _, _, _, _, rfl, e1, T.c_Wedge, T.n_Wedge_pairs, wf_p _ _, q t1 e2⟩
theorem ok_bits (T : Tx K mg) : FnOk P w K mg base CX0 1 T.f_Wedge_bits T.d_Wedge_bits ["self"] (spGet K T.C_Wedge (·.2)) := by
  refine T.F_Wedge_bits.ok sc_Wedge_bits (fun vs H Q E h => ?_) (fun cdv A outer s H vs Q E hr h => ?_)
  · obtain ⟨p, x, rfl, _⟩ := h
    rfl
  obtain ⟨p, x, rfl, ⟨⟨dx, t1, t2, e1, e2, e3⟩, ox⟩, q⟩ := h
  refine ⟨_, (pss_one (ps_ret (show PE _ _ (tFld K _ _) from pe_fld (pv 0) rfl))), ?_⟩
  exact ⟨_, rfl, p, _, _, _, _, rfl, e1, T.c_Wedge, T.n_Wedge_bits, wf_b _ _, q t2 e3⟩
def spEqW (K : PySem.W.Frag) (C : Addr) : Sp := fun vs H Q _ => ∃ (p r : Addr) (x y : W2), vs = [.ref p, .ref r] ∧ WAt K C H p x ∧ WAt K C H r y ∧ Q (.bl (decide (x = y))) H
theorem dec_two (x y : W2) : decide (x = y) = (decide (x.1 = y.1) && decide (x.2 = y.2)) := by
  obtain ⟨a, b⟩ := x
  obtain ⟨c, d⟩ := y
  by_cases h1 : a = c <;> by_cases h2 : b = d <;> simp [h1, h2]
theorem ok_eq (T : Tx K mg) : FnOk P w K mg base CX0 1 T.f_Wedge_eq T.d_Wedge_eq ["self", "other"] (spEqW K T.C_Wedge) := by
  refine T.F_Wedge_eq.ok sc_Wedge_eq (fun vs H Q E h => ?_) (fun cdv A outer s H vs Q E hr h => ?_)
  · obtain ⟨p, r, x, y, rfl, _⟩ := h
    rfl
  obtain ⟨p, r, x, y, rfl, ⟨⟨dx, t1, t2, e1, e2, e3⟩, ox⟩, ⟨⟨dy, r1, r2, g1, g2, g3⟩, oy⟩, q⟩ := h
  refine ⟨_, (pss_one (ps_ret (pe_and (pe_callB (show CallR _ _ (rIsi K) from call_isi) (by rfl) T.z_isinstance (by decide +kernel) (pa_cons (pv 1) (pa_cons (pe_glob (v := .ref T.C_Wedge) (by rfl) T.g_Wedge rfl) pa_nil))) (pe_and (pe_cmpR (show OpR _ _ (rEqTI K) from op_eqTI hr.units) (show PE _ _ (tFld K _ _) from pe_fld (pv 0) rfl) (show PE _ _ (tFld K _ _) from pe_fld (pv 1) rfl) (nomark _)) (pe_one (pe_cmpR (show OpR _ _ (rEqTI K) from op_eqTI hr.units) (show PE _ _ (tFld K _ _) from pe_fld (pv 0) rfl) (show PE _ _ (tFld K _ _) from pe_fld (pv 1) rfl) (nomark _))))))), ?_⟩
  have i := T.i_Wedge
  refine ⟨_, rfl, _, _, _, .ref T.C_Wedge, true, rfl, ClsV.own _, TyX.base (TyOf.ins g1 T.c_Wedge i.ca i.cn i.ct i.cm), i.me, ?_⟩
  refine ⟨_, rfl, ?_⟩
  refine ⟨_, rfl, p, _, _, _, _, rfl, e1, T.c_Wedge, T.n_Wedge_pairs, wf_p _ _, _, rfl, r, _, _, _, _, rfl, g1, T.c_Wedge, T.n_Wedge_pairs, wf_p _ _, t1, r1, _, _, rfl, rfl, e2, g2, _, rfl, ?_⟩
  rw [dec_two] at q
  refine ite2 (fun c => ?_) (fun c => ?_)
  · refine ⟨_, rfl, p, _, _, _, _, rfl, e1, T.c_Wedge, T.n_Wedge_bits, wf_b _ _, _, rfl, r, _, _, _, _, rfl, g1, T.c_Wedge, T.n_Wedge_bits, wf_b _ _, t2, r2, _, _, rfl, rfl, e3, g3, ?_⟩
    rw [c, Bool.true_and] at q
    exact q
  · rw [Bool.eq_false_iff.mpr c, Bool.false_and] at q
    exact q
def boolW (x : W2) : Bool := x.1.any (fun n => n != 0) || x.2.any (fun n => n != 0)
def spBoolW (K : PySem.W.Frag) (C : Addr) : Sp := fun vs H Q _ => ∃ (p : Addr) (x : W2), vs = [.ref p] ∧ WAt K C H p x ∧ Q (.bl (boolW x)) H
theorem ok_bool (T : Tx K mg) : FnOk P w K mg base CX0 1 T.f_Wedge_bool T.d_Wedge_bool ["self"] (spBoolW K T.C_Wedge) := by
  refine T.F_Wedge_bool.ok sc_Wedge_bool (fun vs H Q E h => ?_) (fun cdv A outer s H vs Q E hr h => ?_)
  · obtain ⟨p, x, rfl, _⟩ := h
    rfl
  obtain ⟨p, x, rfl, ⟨⟨dx, t1, t2, e1, e2, e3⟩, ox⟩, q⟩ := h
  refine ⟨_, (pss_one (ps_ret (pe_or (pe_callB (show CallR _ _ (rAnyT K) from cr_anyT rfl) (by rfl) T.z_any (by decide +kernel) (pa_cons (show PE _ _ (tFld K _ _) from pe_fld (pv 0) rfl) pa_nil)) (pe_one (pe_callB (show CallR _ _ (rAnyT K) from cr_anyT rfl) (by rfl) T.z_any (by decide +kernel) (pa_cons (show PE _ _ (tFld K _ _) from pe_fld (pv 0) rfl) pa_nil)))))), ?_⟩
  refine ⟨_, rfl, p, _, _, _, _, rfl, e1, T.c_Wedge, T.n_Wedge_pairs, wf_p _ _, t1, x.1, rfl, e2, _, rfl, ?_⟩
  unfold boolW at q
  refine ite2 (fun c => ?_) (fun c => ?_)
  · rw [c, Bool.true_or] at q
    exact q
  · rw [Bool.eq_false_iff.mpr c, Bool.false_or] at q
    exact ⟨_, rfl, p, _, _, _, _, rfl, e1, T.c_Wedge, T.n_Wedge_bits, wf_b _ _, t2, x.2, rfl, e3, q⟩
def zeroW : W2 := (List.replicate 15 0, List.replicate 6 0)
theorem zeroW_ok : WOk zeroW := ⟨by decide, by decide, fun b hb => .inl (List.mem_replicate.mp hb).2⟩
def spNothing (K : PySem.W.Frag) (C : Addr) : Sp := fun vs H Q _ => vs = [] ∧ ∀ t H', Same H H' → WAt K C H' t zeroW → Q (.ref t) H'
theorem ok_nothing (T : Tx K mg) : FnOk P w K mg base CX0 6 T.f_nothing T.d_nothing [] (spNothing K T.C_Wedge) := by
  have G_Wedge_init := ok_init (P := P) (w := w) (base := base) T
  refine T.F_nothing.ok sc_nothing (fun vs H Q E h => ?_) (fun cdv A outer s H vs Q E hr h => ?_)
  · obtain ⟨rfl, _⟩ := h
    rfl
  obtain ⟨rfl, q⟩ := h
  obtain ⟨xsP, lP, hP⟩ := T.l_PAIRS
  refine ⟨_, (pss_one (ps_ret (pe_make T.k_Wedge G_Wedge_init hr (by rfl) T.g_Wedge T.b1_Wedge_init T.v_Wedge_init pass0 (pa_cons (pe_op op_rep (pe_lst (pa_cons pe_int pa_nil)) (pe_callB (show CallR _ _ (rLenSq K) from call_len_seq) (by rfl) T.z_len (by decide +kernel) (pa_cons (pe_glob (v := .ref T.e_PAIRS) (by rfl) T.m_PAIRS rfl) pa_nil))) pa_nil)))), ?_⟩
  refine ⟨(by show 1 ≤ sizeLine; decide), fun p hp => ⟨T.e_PAIRS, xsP, rfl, .inr (hP _), p, _, _, rfl, rfl, upd_same, ?_⟩⟩
  rw [lP]
  refine ⟨by decide, by decide, by decide, fun l hl => ?_⟩
  have s1 : Same H (upd H p (.lst [.int 0])) := Same.new hp
  have s2 := s1.trans (Same.new (o := .lst (zeroW.1.map V.int)) hl)
  exact make_w (wd := zeroW) (.inl (SqL.of upd_same)) (.inr (T.q_bits _)) zeroW_ok fun x H' s3 hx => q x H' (s2.trans s3) hx
end
end TL
namespace TL
open PySem L2

/-! ### steps of a reading -/
local macro_rules | `(tactic| walk_at "hp") => `(tactic| first | assumption | exact upd_same | (refine (upd_ne (by first | assumption | (exact Ne.symm (by assumption)))).trans ?_; walk_at "hp"))
local macro_rules | `(tactic| walk_at "ok") => `(tactic| first | (exact Or.inr ⟨by decide, by decide⟩) | (exact ⟨by decide, by decide⟩) | (exact ⟨by decide, by decide, by decide⟩) | (show _ ≠ _; omega) | (show _ ≠ _; decide) | (exact Or.inl ⟨by omega, by omega⟩) | decide)
local macro_rules | `(tactic| walk_at "sq") => `(tactic| first | assumption | exact SqL.of (by walk_at "hp") | exact SqT.of (by walk_at "hp"))
local macro_rules | `(tactic| walk_at "ty") => `(tactic| first | refine ⟨_, _, Value.type "int", Value.type "list", false, rfl, ClsV.ty _, TyX.base (TyOf.int _), kt_int_list, ?_⟩ | refine ⟨_, _, Value.type "bool", Value.type "list", false, rfl, ClsV.ty _, TyX.base (TyOf.bl _), kt_bool_list, ?_⟩ | refine ⟨_, _, Value.type "str", Value.type "list", false, rfl, ClsV.ty _, TyX.base (TyOf.str _), kt_str_list, ?_⟩ | refine ⟨_, _, Value.type "NoneType", Value.type "list", false, rfl, ClsV.ty _, TyX.base TyOf.non, kt_NoneType_list, ?_⟩ | refine ⟨_, _, Value.type "list", Value.type "list", true, rfl, ClsV.ty _, tyx_L (by walk_at "sq"), kt_list_list, ?_⟩ | refine ⟨_, _, Value.type "tuple", Value.type "list", false, rfl, ClsV.ty _, tyx_T (by walk_at "sq"), kt_tuple_list, ?_⟩ | refine ⟨_, _, Value.type "int", Value.type "tuple", false, rfl, ClsV.ty _, TyX.base (TyOf.int _), kt_int_tuple, ?_⟩ | refine ⟨_, _, Value.type "bool", Value.type "tuple", false, rfl, ClsV.ty _, TyX.base (TyOf.bl _), kt_bool_tuple, ?_⟩ | refine ⟨_, _, Value.type "str", Value.type "tuple", false, rfl, ClsV.ty _, TyX.base (TyOf.str _), kt_str_tuple, ?_⟩ | refine ⟨_, _, Value.type "NoneType", Value.type "tuple", false, rfl, ClsV.ty _, TyX.base TyOf.non, kt_NoneType_tuple, ?_⟩ | refine ⟨_, _, Value.type "list", Value.type "tuple", false, rfl, ClsV.ty _, tyx_L (by walk_at "sq"), kt_list_tuple, ?_⟩ | refine ⟨_, _, Value.type "tuple", Value.type "tuple", true, rfl, ClsV.ty _, tyx_T (by walk_at "sq"), kt_tuple_tuple, ?_⟩ | refine ⟨_, _, Value.type "int", Value.type "bool", false, rfl, ClsV.ty _, TyX.base (TyOf.int _), kt_int_bool, ?_⟩ | refine ⟨_, _, Value.type "bool", Value.type "bool", true, rfl, ClsV.ty _, TyX.base (TyOf.bl _), kt_bool_bool, ?_⟩ | refine ⟨_, _, Value.type "str", Value.type "bool", false, rfl, ClsV.ty _, TyX.base (TyOf.str _), kt_str_bool, ?_⟩ | refine ⟨_, _, Value.type "NoneType", Value.type "bool", false, rfl, ClsV.ty _, TyX.base TyOf.non, kt_NoneType_bool, ?_⟩ | refine ⟨_, _, Value.type "list", Value.type "bool", false, rfl, ClsV.ty _, tyx_L (by walk_at "sq"), kt_list_bool, ?_⟩ | refine ⟨_, _, Value.type "tuple", Value.type "bool", false, rfl, ClsV.ty _, tyx_T (by walk_at "sq"), kt_tuple_bool, ?_⟩ | refine ⟨_, _, Value.type "int", Value.type "int", true, rfl, ClsV.ty _, TyX.base (TyOf.int _), kt_int_int, ?_⟩ | refine ⟨_, _, Value.type "bool", Value.type "int", true, rfl, ClsV.ty _, TyX.base (TyOf.bl _), kt_bool_int, ?_⟩ | refine ⟨_, _, Value.type "str", Value.type "int", false, rfl, ClsV.ty _, TyX.base (TyOf.str _), kt_str_int, ?_⟩ | refine ⟨_, _, Value.type "NoneType", Value.type "int", false, rfl, ClsV.ty _, TyX.base TyOf.non, kt_NoneType_int, ?_⟩ | refine ⟨_, _, Value.type "list", Value.type "int", false, rfl, ClsV.ty _, tyx_L (by walk_at "sq"), kt_list_int, ?_⟩ | refine ⟨_, _, Value.type "tuple", Value.type "int", false, rfl, ClsV.ty _, tyx_T (by walk_at "sq"), kt_tuple_int, ?_⟩ | refine ⟨_, _, Value.type "int", Value.type "str", false, rfl, ClsV.ty _, TyX.base (TyOf.int _), kt_int_str, ?_⟩ | refine ⟨_, _, Value.type "bool", Value.type "str", false, rfl, ClsV.ty _, TyX.base (TyOf.bl _), kt_bool_str, ?_⟩ | refine ⟨_, _, Value.type "str", Value.type "str", true, rfl, ClsV.ty _, TyX.base (TyOf.str _), kt_str_str, ?_⟩ | refine ⟨_, _, Value.type "NoneType", Value.type "str", false, rfl, ClsV.ty _, TyX.base TyOf.non, kt_NoneType_str, ?_⟩ | refine ⟨_, _, Value.type "list", Value.type "str", false, rfl, ClsV.ty _, tyx_L (by walk_at "sq"), kt_list_str, ?_⟩ | refine ⟨_, _, Value.type "tuple", Value.type "str", false, rfl, ClsV.ty _, tyx_T (by walk_at "sq"), kt_tuple_str, ?_⟩)
local macro_rules | `(tactic| walk_at "go1") => `(tactic| first
  | (refine ⟨_, rfl, ?_⟩)
  | (refine ⟨_, _, rfl, rfl, ?_⟩)
  | (refine ⟨_, _, _, _, rfl, rfl, SqL.of (by walk_at "hp"), rfl, ?_⟩)
  | (refine Or.inl ⟨_, rfl, ?_⟩)
  | (refine ⟨rfl, ?_⟩)
  | (refine ⟨_, _, rfl, .inl (SqL.of (by walk_at "hp")), ?_⟩)
  | (refine ⟨_, _, rfl, Or.inl (by assumption), ?_⟩)
  | (refine ⟨_, _, rfl, Or.inr (by assumption), ?_⟩)
  | (refine ⟨(by walk_at "ok"), ?_⟩)
  | (refine ⟨_, _, _, _, rfl, rfl, (by walk_at "hp"), rfl, ?_⟩))
local macro_rules | `(tactic| walk_at "go") => `(tactic| repeat (walk_at "go1"))
local macro_rules | `(tactic| walk_at "gt") => `(tactic| repeat (first | walk_at "go1" | walk_at "ty"))


section
variable {P : Program} {w : World} {K : PySem.W.Frag} {mg : Str → Option Value} {base : Heap}
/-- the law's own wedge: a tuple of two lists -/
structure LW (H : Hp) (p : Addr) (w : W2) : Prop where
  ex : ∃ l1 l2, H p = some (.tup [.ref l1, .ref l2]) ∧ H l1 = some (.lst (w.1.map V.int)) ∧ H l2 = some (.lst (w.2.map V.int))
  ok : WOk w
theorem LW.same {H H' : Hp} {p : Addr} {w : W2} (h : LW H p w) (s : Same H H') : LW H' p w := by
  obtain ⟨l1, l2, h1, h2, h3⟩ := h.ex
  exact ⟨⟨l1, l2, s _ _ h1, s _ _ h2, s _ _ h3⟩, h.ok⟩
/-- a pair of two new lists is one -/
theorem LW.mk2 {H : Hp} {Q : VK} {wd : W2} {a b : Addr} (hw : WOk wd) (h1 : H a = some (.lst (wd.1.map V.int))) (h2 : H b = some (.lst (wd.2.map V.int))) (q : ∀ t H', Same H H' → LW H' t wd → Q (.ref t) H') :
    [V.ref a, V.ref b].length ≤ sizeLine ∧ ∀ p, H p = none → Q (.ref p) (upd H p (.tup [.ref a, .ref b])) := by
  refine ⟨by show 2 ≤ sizeLine; decide, fun p hp => ?_⟩
  have s := Same.new (o := .tup [V.ref a, V.ref b]) hp
  exact q p _ s ⟨⟨a, b, upd_same, s _ _ h1, s _ _ h2⟩, hw⟩
def spAdded : Sp := fun vs H Q _ => ∃ (p r : Addr) (x y : W2), vs = [.ref p, .ref r] ∧ LW H p x ∧ LW H r y ∧ ∀ t H', Same H H' → LW H' t (addW x y) → Q (.ref t) H'
theorem ok_l_added (T : Tx K mg) : FnOk P w K mg base CX0 1 T.f_l_added T.d_l_added ["_law_w", "_law_z"] spAdded := by
  refine T.F_l_added.ok sc_l_added (fun vs H Q E h => ?_) (fun cdv A outer s H vs Q E hr h => ?_)
  · obtain ⟨p, r, x, y, rfl, _⟩ := h
    rfl
  obtain ⟨p, r, x, y, rfl, ⟨⟨a1, a2, e1, e2, e3⟩, ox⟩, ⟨⟨b1, b2, g1, g2, g3⟩, oy⟩, q⟩ := h
  have nd := sc_l_added.nd
  refine ⟨_, (pss_one (ps_ret (pe_tup (pa_cons (pe_lc (own := [("_law_x", 2), ("_law_y", 3)]) (g := (gTup K 2 (gCons (gName 2) (gCons (gName 3) gNil)))) rfl nd (show PI _ _ _ (RZ.iZipA K _) from RZ.pi_zipA (by rfl) T.z_zip (pa_cons (pe_ix (show IxR _ (rIxT K) from ix_tup) (pv 0) pe_int (fun _ _ => rfl)) (pa_cons (pe_ix (show IxR _ (rIxT K) from ix_tup) (pv 1) pe_int (fun _ _ => rfl)) pa_nil))) (blkOk_by (own := [("_law_x", 2), ("_law_y", 3)]) (N := N_l_added) (sc := defScope s_l_added) (by decide +kernel)) (fun _ _ _ _ _ => by exact (pg_tup rfl (pgs_cons (pg_name (i := 2) nd rfl (Or.inl rfl)) (pgs_cons (pg_name (i := 3) nd rfl (Or.inl rfl)) pgs_nil)))) (fun _ _ _ _ _ => by exact pts_nil) (fun _ _ _ _ _ => by exact (pe_op op_add (pv 2) (pv 3)))) (pa_cons (pe_lc (own := [("_law_x", 2), ("_law_y", 3)]) (g := (gTup K 2 (gCons (gName 2) (gCons (gName 3) gNil)))) rfl nd (show PI _ _ _ (RZ.iZipA K _) from RZ.pi_zipA (by rfl) T.z_zip (pa_cons (pe_ix (show IxR _ (rIxT K) from ix_tup) (pv 0) pe_int (fun _ _ => rfl)) (pa_cons (pe_ix (show IxR _ (rIxT K) from ix_tup) (pv 1) pe_int (fun _ _ => rfl)) pa_nil))) (blkOk_by (own := [("_law_x", 2), ("_law_y", 3)]) (N := N_l_added) (sc := defScope s_l_added) (by decide +kernel)) (fun _ _ _ _ _ => by exact (pg_tup rfl (pgs_cons (pg_name (i := 2) nd rfl (Or.inl rfl)) (pgs_cons (pg_name (i := 3) nd rfl (Or.inl rfl)) pgs_nil)))) (fun _ _ _ _ _ => by exact pts_nil) (fun _ _ _ _ _ => by exact (pe_op op_and (pe_op op_add (pv 2) (pv 3)) pe_int))) pa_nil))))), ?_⟩
  refine ⟨_, rfl, _, _, _, _, rfl, rfl, SqT.of e1, rfl, _, rfl, _, _, _, _, rfl, rfl, SqT.of g1, rfl, a1, b1, _, _, rfl, .inl ⟨SqL.of e2, SqL.of g2, fun D hD => ?_⟩⟩
  refine lc_zipL (f := fun a b => a + b) (SqL.of e2) (SqL.of g2) (by rw [ox.l1, oy.l1]) (by rw [ox.l1]; decide) hD (fun u v => rfl) (fun u v H1 k _ _ hk => ⟨_, rfl, _, rfl, u, v, rfl, rfl, hk⟩) fun H1 s1 hD1 => ?_
  refine ⟨_, rfl, _, _, _, _, rfl, rfl, SqT.of (s1 _ _ e1), rfl, _, rfl, _, _, _, _, rfl, rfl, SqT.of (s1 _ _ g1), rfl, a2, b2, _, _, rfl, .inl ⟨SqL.of (s1 _ _ e3), SqL.of (s1 _ _ g3), fun D2 hD2 => ?_⟩⟩
  refine lc_zipL (f := fun a b => (a + b).fmod 2) (SqL.of (s1 _ _ e3)) (SqL.of (s1 _ _ g3)) (by rw [ox.l2, oy.l2]) (by rw [ox.l2]; decide) hD2 (fun u v => rfl) (fun u v H1 k _ _ hk => ⟨_, rfl, _, rfl, u, v, rfl, rfl, _, _, rfl, rfl, by show k (.int (Builtin.bitAnd (u + v) 1)) _; rw [and1]; exact hk⟩) fun H2 s2 hD3 => ?_
  exact LW.mk2 (wd := addW x y) (addW_ok ox oy) (s2 _ _ hD1) hD3 fun t H' s3 ht => q t H' ((s1.trans s2).trans s3) ht
theorem ok_l_none (T : Tx K mg) : FnOk P w K mg base CX0 1 T.f_l_none T.d_l_none [] (fun vs H Q _ => vs = [] ∧ ∀ t H', Same H H' → LW H' t zeroW → Q (.ref t) H') := by
  refine T.F_l_none.ok sc_l_none (fun vs H Q E h => ?_) (fun cdv A outer s H vs Q E hr h => ?_)
  · obtain ⟨rfl, _⟩ := h
    rfl
  obtain ⟨rfl, q⟩ := h
  refine ⟨_, (pss_one (ps_ret (pe_tup (pa_cons (pe_op op_rep (pe_lst (pa_cons pe_int pa_nil)) pe_int) (pa_cons (pe_op op_rep (pe_lst (pa_cons pe_int pa_nil)) pe_int) pa_nil))))), ?_⟩
  refine ⟨(by show 1 ≤ sizeLine; decide), fun p hp => ⟨p, _, _, rfl, rfl, upd_same, by decide, by decide, by decide, fun a ha => ?_⟩⟩
  have s1 := (Same.new (o := .lst [V.int 0]) hp).trans (Same.new (o := .lst (zeroW.1.map V.int)) ha)
  refine ⟨(by show 1 ≤ sizeLine; decide), fun p2 hp2 => ⟨p2, _, _, rfl, rfl, upd_same, by decide, by decide, by decide, fun b hb => ?_⟩⟩
  have s2 := (Same.new (o := .lst [V.int 0]) hp2).trans (Same.new (o := .lst (zeroW.2.map V.int)) hb)
  exact LW.mk2 (wd := zeroW) zeroW_ok (s2 _ _ upd_same) upd_same fun t H' s3 ht => q t H' ((s1.trans s2).trans s3) ht
/-- what is seen of a wedge: a tuple of two tuples -/
def Seen (K : PySem.W.Frag) (w : W2) (v : V) (H : Hp) : Prop := ∃ t a b, v = .ref t ∧ H t = some (.tup [.ref a, .ref b]) ∧ SqT K H a (w.1.map V.int) ∧ SqT K H b (w.2.map V.int)
theorem Seen.same {wd : W2} {v : V} {H H' : Hp} (s : Same H H') (h : Seen K wd v H) : Seen K wd v H' := by
  obtain ⟨t, a, b, rfl, h1, h2, h3⟩ := h
  exact ⟨t, a, b, rfl, s _ _ h1, seqT s h2, seqT s h3⟩
theorem Seen.lst {wd : W2} {v : V} {H : Hp} {D : Addr} {zs zs' : List V} (hD : H D = some (.lst zs)) (h : Seen K wd v H) : Seen K wd v (upd H D (.lst zs')) := by
  obtain ⟨t, a, b, rfl, h1, h2, h3⟩ := h
  exact ⟨t, a, b, rfl, by rw [upd_ne (ne_of h1 hD (by intro z; cases z))]; exact h1, seqT_lst hD h2, seqT_lst hD h3⟩
def spSeen (K : PySem.W.Frag) (C : Addr) : Sp := fun vs H Q _ => ∃ (p : Addr) (x : W2), vs = [.ref p] ∧ WAt K C H p x ∧ ∀ v H', Same H H' → Seen K x v H' → Q v H'
theorem ok_l_seen (T : Tx K mg) : FnOk P w K mg base CX0 2 T.f_l_wedge_seen T.d_l_wedge_seen ["_law_w"] (spSeen K T.C_Wedge) := by
  have G_Wedge_pairs := ok_pairs (P := P) (w := w) (base := base) T
  have G_Wedge_bits := ok_bits (P := P) (w := w) (base := base) T
  refine T.F_l_wedge_seen.ok sc_l_wedge_seen (fun vs H Q E h => ?_) (fun cdv A outer s H vs Q E hr h => ?_)
  · obtain ⟨p, x, rfl, _⟩ := h
    rfl
  obtain ⟨p, x, rfl, hx, q⟩ := h
  obtain ⟨dx, t1, t2, e1, e2, e3⟩ := hx.ex
  refine ⟨_, (pss_one (ps_ret (pe_tup (pa_cons (pe_meth0 (pv 0) T.c_Wedge T.a_Wedge_pairs G_Wedge_pairs hr T.b_Wedge_pairs .nil pass0) (pa_cons (pe_meth0 (pv 0) T.c_Wedge T.a_Wedge_bits G_Wedge_bits hr T.b_Wedge_bits .nil pass0) pa_nil))))), ?_⟩
  refine ⟨_, rfl, p, _, _, rfl, e1, wf_no _ _ (by decide +kernel) (by decide +kernel), p, x, rfl, hx, fun a ha => ?_⟩
  refine ⟨_, rfl, p, _, _, rfl, e1, wf_no _ _ (by decide +kernel) (by decide +kernel), p, x, rfl, hx, fun b hb => ?_⟩
  refine ⟨(by show 2 ≤ sizeLine; decide), fun t ht => ?_⟩
  have s := Same.new (o := .tup [V.ref a, V.ref b]) ht
  exact q _ _ s ⟨t, a, b, rfl, upd_same, seqT s ha, seqT s hb⟩
def spDue (K : PySem.W.Frag) : Sp := fun vs H Q _ => ∃ (p : Addr) (x : W2), vs = [.ref p] ∧ LW H p x ∧ ∀ v H', Same H H' → Seen K x v H' → Q v H'
theorem ok_l_due (T : Tx K mg) : FnOk P w K mg base CX0 1 T.f_l_wedge_due T.d_l_wedge_due ["_law_w"] (spDue K) := by
  refine T.F_l_wedge_due.ok sc_l_wedge_due (fun vs H Q E h => ?_) (fun cdv A outer s H vs Q E hr h => ?_)
  · obtain ⟨p, x, rfl, _⟩ := h
    rfl
  obtain ⟨p, x, rfl, ⟨⟨a1, a2, e1, e2, e3⟩, ox⟩, q⟩ := h
  refine ⟨_, (pss_one (ps_ret (pe_tup (pa_cons (pe_callTy (show CallR _ _ (rTup1 K) from call_tup1) (by rfl) T.z_tuple (by decide +kernel) (pa_cons (pe_ix (show IxR _ (rIxT K) from ix_tup) (pv 0) pe_int (fun _ _ => rfl)) pa_nil)) (pa_cons (pe_callTy (show CallR _ _ (rTup1 K) from call_tup1) (by rfl) T.z_tuple (by decide +kernel) (pa_cons (pe_ix (show IxR _ (rIxT K) from ix_tup) (pv 0) pe_int (fun _ _ => rfl)) pa_nil)) pa_nil))))), ?_⟩
  refine ⟨_, rfl, _, _, _, _, rfl, rfl, SqT.of e1, rfl, a1, _, rfl, .inl (SqL.of e2), fun a H1 s1 ha => ?_⟩
  refine ⟨_, rfl, _, _, _, _, rfl, rfl, SqT.of (s1 _ _ e1), rfl, a2, _, rfl, .inl (SqL.of (s1 _ _ e3)), fun b H2 s2 hb => ?_⟩
  refine ⟨(by show 2 ≤ sizeLine; decide), fun t ht => ?_⟩
  have s := Same.new (o := .tup [V.ref a, V.ref b]) ht
  exact q _ _ ((s1.trans s2).trans s) ⟨t, a, b, rfl, upd_same, seqT s (seqT s2 ha), seqT s hb⟩
def spMade (K : PySem.W.Frag) (C : Addr) : Sp := fun vs H Q _ => ∃ (p : Addr) (x : W2), vs = [.ref p] ∧ LW H p x ∧ ∀ t H', Same H H' → WAt K C H' t x → Q (.ref t) H'
theorem ok_l_made (T : Tx K mg) : FnOk P w K mg base CX0 6 T.f_l_wedge_made T.d_l_wedge_made ["_law_w"] (spMade K T.C_Wedge) := by
  have G_Wedge_init := ok_init (P := P) (w := w) (base := base) T
  refine T.F_l_wedge_made.ok sc_l_wedge_made (fun vs H Q E h => ?_) (fun cdv A outer s H vs Q E hr h => ?_)
  · obtain ⟨p, x, rfl, _⟩ := h
    rfl
  obtain ⟨p, x, rfl, ⟨⟨a1, a2, e1, e2, e3⟩, ox⟩, q⟩ := h
  refine ⟨_, (pss_one (ps_ret (pe_make T.k_Wedge G_Wedge_init hr (by rfl) T.g_Wedge T.b_Wedge_init .nil pass0 (pa_cons (pe_callTy (show CallR _ _ (rTup1 K) from call_tup1) (by rfl) T.z_tuple (by decide +kernel) (pa_cons (pe_ix (show IxR _ (rIxT K) from ix_tup) (pv 0) pe_int (fun _ _ => rfl)) pa_nil)) (pa_cons (pe_callTy (show CallR _ _ (rTup1 K) from call_tup1) (by rfl) T.z_tuple (by decide +kernel) (pa_cons (pe_ix (show IxR _ (rIxT K) from ix_tup) (pv 0) pe_int (fun _ _ => rfl)) pa_nil)) pa_nil))))), ?_⟩
  refine ⟨_, rfl, _, _, _, _, rfl, rfl, SqT.of e1, rfl, a1, _, rfl, .inl (SqL.of e2), fun a H1 s1 ha => ?_⟩
  refine ⟨_, rfl, _, _, _, _, rfl, rfl, SqT.of (s1 _ _ e1), rfl, a2, _, rfl, .inl (SqL.of (s1 _ _ e3)), fun b H2 s2 hb => ?_⟩
  exact make_w (wd := x) (.inr (seqT s2 ha)) (.inr hb) ox fun z H' s3 hz => q z H' ((s1.trans s2).trans s3) hz
def Bnd (x : W2) : Prop := ∀ u ∈ x.1, u.natAbs < 2 ^ 500
theorem mul_bnd {k u : Int} (h1 : k.natAbs < 2 ^ 500) (h2 : u.natAbs < 2 ^ 500) : CMulW k u := wide_mul h1 h2 (by decide) (by decide) (by decide)
theorem bit_bnd {b : Int} (h : Bit b) : b.natAbs < 2 ^ 500 := by
  rcases h with rfl | rfl <;> decide
def spTimes : Sp := fun vs H Q _ => ∃ (p : Addr) (x : W2) (k : Int), vs = [.ref p, .int k] ∧ LW H p x ∧ k.natAbs < 2 ^ 500 ∧ Bnd x ∧ ∀ t H', Same H H' → LW H' t (mulW k x) → Q (.ref t) H'
theorem ok_l_times (T : Tx K mg) : FnOk P w K mg base CX0 1 T.f_l_times T.d_l_times ["_law_w", "_law_n"] spTimes := by
  refine T.F_l_times.ok sc_l_times (fun vs H Q E h => ?_) (fun cdv A outer s H vs Q E hr h => ?_)
  · obtain ⟨p, x, k, rfl, _⟩ := h
    rfl
  obtain ⟨p, x, k, rfl, ⟨⟨a1, a2, e1, e2, e3⟩, ox⟩, hk, hb, q⟩ := h
  have nd := sc_l_times.nd
  refine ⟨_, (pss_one (ps_ret (pe_tup (pa_cons (pe_lc (own := [("_law_x", 2)]) (g := (gName 2)) rfl nd (show PI _ _ _ (iList K _) from pi_list (pe_ix (show IxR _ (rIxT K) from ix_tup) (pv 0) pe_int (fun _ _ => rfl))) (blkOk_by (own := [("_law_x", 2)]) (N := N_l_times) (sc := defScope s_l_times) (by decide +kernel)) (fun _ _ _ _ _ => by exact (pg_name (i := 2) nd rfl (Or.inl rfl))) (fun _ _ _ _ _ => by exact pts_nil) (fun _ _ _ _ _ => by exact (pe_op op_mulW (pv 1) (pv 2)))) (pa_cons (pe_lc (own := [("_law_x", 2)]) (g := (gName 2)) rfl nd (show PI _ _ _ (iList K _) from pi_list (pe_ix (show IxR _ (rIxT K) from ix_tup) (pv 0) pe_int (fun _ _ => rfl))) (blkOk_by (own := [("_law_x", 2)]) (N := N_l_times) (sc := defScope s_l_times) (by decide +kernel)) (fun _ _ _ _ _ => by exact (pg_name (i := 2) nd rfl (Or.inl rfl))) (fun _ _ _ _ _ => by exact pts_nil) (fun _ _ _ _ _ => by exact (pe_op op_and (pe_op op_mulW (pv 1) (pv 2)) pe_int))) pa_nil))))), ?_⟩
  refine ⟨_, rfl, _, _, _, _, rfl, rfl, SqT.of e1, rfl, a1, rfl, ⟨_, SqL.of e2⟩, fun D hD => ?_⟩
  refine lc_mapL (f := fun a => k * a) (SqL.of e2) (by rw [ox.l1]; decide) hD (fun u => rfl) (fun u H1 kk hu hkk => ⟨_, rfl, _, rfl, k, u, rfl, rfl, mul_bnd hk (hb u hu), hkk⟩) fun H1 s1 hD1 => ?_
  refine ⟨_, rfl, _, _, _, _, rfl, rfl, SqT.of (s1 _ _ e1), rfl, a2, rfl, ⟨_, SqL.of (s1 _ _ e3)⟩, fun D2 hD2 => ?_⟩
  refine lc_mapL (f := fun b => (k * b).fmod 2) (SqL.of (s1 _ _ e3)) (by rw [ox.l2]; decide) hD2 (fun u => rfl) (fun u H1 kk hu hkk => ⟨_, rfl, _, rfl, k, u, rfl, rfl, mul_bnd hk (bit_bnd (ox.bit u hu)), _, _, rfl, rfl, by show kk (.int (Builtin.bitAnd (k * u) 1)) _; rw [and1]; exact hkk⟩) fun H2 s2 hD3 => ?_
  exact LW.mk2 (wd := mulW k x) (mulW_ok ox) (s2 _ _ hD1) hD3 fun t H' s3 ht => q t H' ((s1.trans s2).trans s3) ht
def spOpp : Sp := fun vs H Q _ => ∃ (p : Addr) (x : W2), vs = [.ref p] ∧ LW H p x ∧ ∀ t H', Same H H' → LW H' t (negW x) → Q (.ref t) H'
theorem ok_l_opp (T : Tx K mg) : FnOk P w K mg base CX0 1 T.f_l_opposite T.d_l_opposite ["_law_w"] spOpp := by
  refine T.F_l_opposite.ok sc_l_opposite (fun vs H Q E h => ?_) (fun cdv A outer s H vs Q E hr h => ?_)
  · obtain ⟨p, x, rfl, _⟩ := h
    rfl
  obtain ⟨p, x, rfl, ⟨⟨a1, a2, e1, e2, e3⟩, ox⟩, q⟩ := h
  have nd := sc_l_opposite.nd
  refine ⟨_, (pss_one (ps_ret (pe_tup (pa_cons (pe_lc (own := [("_law_x", 1)]) (g := (gName 1)) rfl nd (show PI _ _ _ (iList K _) from pi_list (pe_ix (show IxR _ (rIxT K) from ix_tup) (pv 0) pe_int (fun _ _ => rfl))) (blkOk_by (own := [("_law_x", 1)]) (N := N_l_opposite) (sc := defScope s_l_opposite) (by decide +kernel)) (fun _ _ _ _ _ => by exact (pg_name (i := 1) nd rfl (Or.inl rfl))) (fun _ _ _ _ _ => by exact pts_nil) (fun _ _ _ _ _ => by exact (pe_un un_neg (pv 1)))) (pa_cons (pe_callTy (show CallR _ _ (rListOf K) from call_list_of) (by rfl) T.z_list (by decide +kernel) (pa_cons (pe_ix (show IxR _ (rIxT K) from ix_tup) (pv 0) pe_int (fun _ _ => rfl)) pa_nil)) pa_nil))))), ?_⟩
  refine ⟨_, rfl, _, _, _, _, rfl, rfl, SqT.of e1, rfl, a1, rfl, ⟨_, SqL.of e2⟩, fun D hD => ?_⟩
  refine lc_mapL (f := fun a => -a) (SqL.of e2) (by rw [ox.l1]; decide) hD (fun u => rfl) (fun u H1 kk hu hkk => ⟨_, rfl, u, rfl, hkk⟩) fun H1 s1 hD1 => ?_
  refine ⟨_, rfl, _, _, _, _, rfl, rfl, SqT.of (s1 _ _ e1), rfl, a2, _, rfl, .inl (SqL.of (s1 _ _ e3)), fun b hb => ?_⟩
  have s2 := Same.new (o := .lst (x.2.map V.int)) hb
  exact LW.mk2 (wd := negW x) (negW_ok ox) (s2 _ _ hD1) upd_same fun t H' s3 ht => q t H' ((s1.trans s2).trans s3) ht
end
end TL
namespace TL
open PySem L2

/-! ### steps of a reading -/
local macro_rules | `(tactic| walk_at "hp") => `(tactic| first | assumption | exact upd_same | (refine (upd_ne (by first | assumption | (exact Ne.symm (by assumption)))).trans ?_; walk_at "hp"))
local macro_rules | `(tactic| walk_at "ok") => `(tactic| first | (exact Or.inr ⟨by decide, by decide⟩) | (exact ⟨by decide, by decide⟩) | (exact ⟨by decide, by decide, by decide⟩) | (show _ ≠ _; omega) | (show _ ≠ _; decide) | (exact Or.inl ⟨by omega, by omega⟩) | decide)
local macro_rules | `(tactic| walk_at "sq") => `(tactic| first | assumption | exact SqL.of (by walk_at "hp") | exact SqT.of (by walk_at "hp"))
local macro_rules | `(tactic| walk_at "ty") => `(tactic| first | refine ⟨_, _, Value.type "int", Value.type "list", false, rfl, ClsV.ty _, TyX.base (TyOf.int _), kt_int_list, ?_⟩ | refine ⟨_, _, Value.type "bool", Value.type "list", false, rfl, ClsV.ty _, TyX.base (TyOf.bl _), kt_bool_list, ?_⟩ | refine ⟨_, _, Value.type "str", Value.type "list", false, rfl, ClsV.ty _, TyX.base (TyOf.str _), kt_str_list, ?_⟩ | refine ⟨_, _, Value.type "NoneType", Value.type "list", false, rfl, ClsV.ty _, TyX.base TyOf.non, kt_NoneType_list, ?_⟩ | refine ⟨_, _, Value.type "list", Value.type "list", true, rfl, ClsV.ty _, tyx_L (by walk_at "sq"), kt_list_list, ?_⟩ | refine ⟨_, _, Value.type "tuple", Value.type "list", false, rfl, ClsV.ty _, tyx_T (by walk_at "sq"), kt_tuple_list, ?_⟩ | refine ⟨_, _, Value.type "int", Value.type "tuple", false, rfl, ClsV.ty _, TyX.base (TyOf.int _), kt_int_tuple, ?_⟩ | refine ⟨_, _, Value.type "bool", Value.type "tuple", false, rfl, ClsV.ty _, TyX.base (TyOf.bl _), kt_bool_tuple, ?_⟩ | refine ⟨_, _, Value.type "str", Value.type "tuple", false, rfl, ClsV.ty _, TyX.base (TyOf.str _), kt_str_tuple, ?_⟩ | refine ⟨_, _, Value.type "NoneType", Value.type "tuple", false, rfl, ClsV.ty _, TyX.base TyOf.non, kt_NoneType_tuple, ?_⟩ | refine ⟨_, _, Value.type "list", Value.type "tuple", false, rfl, ClsV.ty _, tyx_L (by walk_at "sq"), kt_list_tuple, ?_⟩ | refine ⟨_, _, Value.type "tuple", Value.type "tuple", true, rfl, ClsV.ty _, tyx_T (by walk_at "sq"), kt_tuple_tuple, ?_⟩ | refine ⟨_, _, Value.type "int", Value.type "bool", false, rfl, ClsV.ty _, TyX.base (TyOf.int _), kt_int_bool, ?_⟩ | refine ⟨_, _, Value.type "bool", Value.type "bool", true, rfl, ClsV.ty _, TyX.base (TyOf.bl _), kt_bool_bool, ?_⟩ | refine ⟨_, _, Value.type "str", Value.type "bool", false, rfl, ClsV.ty _, TyX.base (TyOf.str _), kt_str_bool, ?_⟩ | refine ⟨_, _, Value.type "NoneType", Value.type "bool", false, rfl, ClsV.ty _, TyX.base TyOf.non, kt_NoneType_bool, ?_⟩ | refine ⟨_, _, Value.type "list", Value.type "bool", false, rfl, ClsV.ty _, tyx_L (by walk_at "sq"), kt_list_bool, ?_⟩ | refine ⟨_, _, Value.type "tuple", Value.type "bool", false, rfl, ClsV.ty _, tyx_T (by walk_at "sq"), kt_tuple_bool, ?_⟩ | refine ⟨_, _, Value.type "int", Value.type "int", true, rfl, ClsV.ty _, TyX.base (TyOf.int _), kt_int_int, ?_⟩ | refine ⟨_, _, Value.type "bool", Value.type "int", true, rfl, ClsV.ty _, TyX.base (TyOf.bl _), kt_bool_int, ?_⟩ | refine ⟨_, _, Value.type "str", Value.type "int", false, rfl, ClsV.ty _, TyX.base (TyOf.str _), kt_str_int, ?_⟩ | refine ⟨_, _, Value.type "NoneType", Value.type "int", false, rfl, ClsV.ty _, TyX.base TyOf.non, kt_NoneType_int, ?_⟩ | refine ⟨_, _, Value.type "list", Value.type "int", false, rfl, ClsV.ty _, tyx_L (by walk_at "sq"), kt_list_int, ?_⟩ | refine ⟨_, _, Value.type "tuple", Value.type "int", false, rfl, ClsV.ty _, tyx_T (by walk_at "sq"), kt_tuple_int, ?_⟩ | refine ⟨_, _, Value.type "int", Value.type "str", false, rfl, ClsV.ty _, TyX.base (TyOf.int _), kt_int_str, ?_⟩ | refine ⟨_, _, Value.type "bool", Value.type "str", false, rfl, ClsV.ty _, TyX.base (TyOf.bl _), kt_bool_str, ?_⟩ | refine ⟨_, _, Value.type "str", Value.type "str", true, rfl, ClsV.ty _, TyX.base (TyOf.str _), kt_str_str, ?_⟩ | refine ⟨_, _, Value.type "NoneType", Value.type "str", false, rfl, ClsV.ty _, TyX.base TyOf.non, kt_NoneType_str, ?_⟩ | refine ⟨_, _, Value.type "list", Value.type "str", false, rfl, ClsV.ty _, tyx_L (by walk_at "sq"), kt_list_str, ?_⟩ | refine ⟨_, _, Value.type "tuple", Value.type "str", false, rfl, ClsV.ty _, tyx_T (by walk_at "sq"), kt_tuple_str, ?_⟩)
local macro_rules | `(tactic| walk_at "go1") => `(tactic| first
  | (refine ⟨_, rfl, ?_⟩)
  | (refine ⟨_, _, rfl, rfl, ?_⟩)
  | (refine ⟨_, _, _, _, rfl, rfl, SqL.of (by walk_at "hp"), rfl, ?_⟩)
  | (refine Or.inl ⟨_, rfl, ?_⟩)
  | (refine ⟨rfl, ?_⟩)
  | (refine ⟨_, _, rfl, .inl (SqL.of (by walk_at "hp")), ?_⟩)
  | (refine ⟨_, _, rfl, Or.inl (by assumption), ?_⟩)
  | (refine ⟨_, _, rfl, Or.inr (by assumption), ?_⟩)
  | (refine ⟨(by walk_at "ok"), ?_⟩)
  | (refine ⟨_, _, _, _, rfl, rfl, (by walk_at "hp"), rfl, ?_⟩))
local macro_rules | `(tactic| walk_at "go") => `(tactic| repeat (walk_at "go1"))
local macro_rules | `(tactic| walk_at "gt") => `(tactic| repeat (first | walk_at "go1" | walk_at "ty"))

section
variable {P : Program} {w : World} {K : PySem.W.Frag} {mg : Str → Option Value} {base : Heap}
theorem deq_ints {H : Hp} {ns : List Int} {a b : Addr} {n : Nat} (h1 : SqT K H a (ns.map V.int)) (h2 : SqT K H b (ns.map V.int)) (hz : ns.length ≤ 100000) : DEq K H (n + 1) (.ref a) (.ref b) :=
  .tup h1 h2 (by rw [len_map]; exact hz) rfl fun i x y hx hy => by
    obtain ⟨u, hu, rfl⟩ := int_at hx
    obtain ⟨v, hv, rfl⟩ := int_at hy
    rw [hu] at hv
    cases hv
    exact .int u
theorem seen_deq {H : Hp} {x : W2} {v v' : V} (ok : WOk x) (h : Seen K x v H) (h' : Seen K x v' H) : DEq K H 2 v v' := by
  obtain ⟨t, a, b, rfl, e1, e2, e3⟩ := h
  obtain ⟨t', a', b', rfl, g1, g2, g3⟩ := h'
  refine .tup (SqT.of e1) (SqT.of g1) (by show 2 ≤ 100000; decide) rfl fun i x' y' hx hy => ?_
  match i, hx, hy with
  | 0, hx, hy =>
    cases hx
    cases hy
    exact deq_ints e2 g2 (by rw [ok.l1]; decide)
  | 1, hx, hy =>
    cases hx
    cases hy
    exact deq_ints e3 g3 (by rw [ok.l2]; decide)
  | n + 2, hx, hy => cases hx
def Wds (K : PySem.W.Frag) (C : Addr) (H : Hp) (ps : List V) (ws : List W2) : Prop := ps.length = ws.length ∧ ∀ (i : Nat) p, ps[i]? = some p → ∃ t wd, p = .ref t ∧ ws[i]? = some wd ∧ WAt K C H t wd
def Lws (H : Hp) (ps : List V) (ws : List W2) : Prop := ps.length = ws.length ∧ ∀ (i : Nat) p, ps[i]? = some p → ∃ t wd, p = .ref t ∧ ws[i]? = some wd ∧ LW H t wd
def spAllSo (K : PySem.W.Frag) (C : Addr) : Sp := fun vs H Q _ => ∃ (a b : Addr) (ps qs : List V) (ws : List W2), vs = [.ref a, .ref b] ∧ SqL K H a ps ∧ SqL K H b qs ∧ ws.length ≤ 1000 ∧ Wds K C H ps ws ∧ Lws H qs ws ∧ ∀ H', Same H H' → Q (.bl true) H'
theorem ok_l_all_so (T : Tx K mg) : FnOk P w K mg base CX0 5 T.f_l_all_so T.d_l_all_so ["_law_told", "_law_dues"] (spAllSo K T.C_Wedge) := by
  have G_l_wedge_seen := ok_l_seen (P := P) (w := w) (base := base) T
  have G_l_wedge_due := ok_l_due (P := P) (w := w) (base := base) T
  have G_l_same := ok_same (P := P) (w := w) (base := base) T 4
  refine T.F_l_all_so.ok sc_l_all_so (fun vs H Q E h => ?_) (fun cdv A outer s H vs Q E hr h => ?_)
  · obtain ⟨a, b, ps, qs, ws, rfl, _⟩ := h
    rfl
  obtain ⟨a, b, ps, qs, ws, rfl, ha, hb, hz, ⟨hp1, hp2⟩, ⟨hq1, hq2⟩, q⟩ := h
  have nd := sc_l_all_so.nd
  refine ⟨_, (pss_one (ps_ret (pe_call G_l_same hr (by rfl) T.m_l_same T.F_l_same.kp T.b_l_same .nil pass0 (pa_cons (pe_lc (own := [("_law_w", 2)]) (g := (gName 2)) rfl nd (show PI _ _ _ (iList K _) from pi_list (pv 0)) (blkOk_by (own := [("_law_w", 2)]) (N := N_l_all_so) (sc := defScope s_l_all_so) (by decide +kernel)) (fun _ _ _ _ _ => by exact (pg_name (i := 2) nd rfl (Or.inl rfl))) (fun _ _ _ _ _ => by exact pts_nil) (fun _ _ _ _ _ => by exact (pe_call G_l_wedge_seen (hr.mono (by decide)) (by rfl) T.m_l_wedge_seen T.F_l_wedge_seen.kp T.b_l_wedge_seen .nil pass0 (pa_cons (pv 2) pa_nil)))) (pa_cons (pe_lc (own := [("_law_w", 2)]) (g := (gName 2)) rfl nd (show PI _ _ _ (iList K _) from pi_list (pv 1)) (blkOk_by (own := [("_law_w", 2)]) (N := N_l_all_so) (sc := defScope s_l_all_so) (by decide +kernel)) (fun _ _ _ _ _ => by exact (pg_name (i := 2) nd rfl (Or.inl rfl))) (fun _ _ _ _ _ => by exact pts_nil) (fun _ _ _ _ _ => by exact (pe_call G_l_wedge_due (hr.mono (by decide)) (by rfl) T.m_l_wedge_due T.F_l_wedge_due.kp T.b_l_wedge_due .nil pass0 (pa_cons (pv 2) pa_nil)))) pa_nil))))), ?_⟩
  refine ⟨_, rfl, a, rfl, ⟨_, ha⟩, fun D hD => ?_⟩
  refine lcs (walk_list (K := K) (a := a) (xs := ps)) (fun i y H => ∃ wd, ws[i]? = some wd ∧ WOk wd ∧ Seen K wd y H) (fun i y H1 H2 s h => ?_) (fun i y H1 zs zs' h1 h => ?_) (by omega) hD (fun H' s => s.seq ha) ?_ ?_
  · obtain ⟨wd, h1, h2, h3⟩ := h
    exact ⟨wd, h1, h2, h3.same s⟩
  · obtain ⟨wd, e1, e2, h3⟩ := h
    exact ⟨wd, e1, e2, h3.lst h1⟩
  · rintro i x H1 H2 hi s1 ⟨rfl, hx⟩ k hk
    obtain ⟨t, wd, rfl, hw, hW⟩ := hp2 i x hx
    exact ⟨rfl, _, rfl, t, wd, rfl, hW.same s1, fun v H4 s4 hs => hk v H4 s4 ⟨wd, hw, hW.ok, hs⟩⟩
  intro ys H1 hl1 hys s1 hD1
  refine ⟨_, rfl, b, rfl, ⟨_, s1.seq hb⟩, fun D2 hD2 => ?_⟩
  refine lcs (walk_list (K := K) (a := b) (xs := qs)) (fun i y H => ∃ wd, ws[i]? = some wd ∧ WOk wd ∧ Seen K wd y H) (fun i y H1 H2 s h => ?_) (fun i y H1 zs zs' h1 h => ?_) (by omega) hD2 (fun H' s => s.seq (s1.seq hb)) ?_ ?_
  · obtain ⟨wd, h1, h2, h3⟩ := h
    exact ⟨wd, h1, h2, h3.same s⟩
  · obtain ⟨wd, e1, e2, h3⟩ := h
    exact ⟨wd, e1, e2, h3.lst h1⟩
  · rintro i x H1 H2 hi s2 ⟨rfl, hx⟩ k hk
    obtain ⟨t, wd, rfl, hw, hW⟩ := hq2 i x hx
    exact ⟨rfl, _, rfl, t, wd, rfl, (hW.same s1).same s2, fun v H4 s4 hs => hk v H4 s4 ⟨wd, hw, hW.ok, hs⟩⟩
  intro zs H2 hl2 hzs s2 hD3
  refine ⟨3, _, _, rfl, by decide, .lst (SqL.of (s2 _ _ hD1)) (SqL.of hD3) (by omega) (by omega) fun i x y hx hy => ?_, fun H' s3 => q H' ((s1.trans s2).trans s3)⟩
  obtain ⟨wd, e1, e2, e3⟩ := hys i x hx
  obtain ⟨wd', g1, g2, g3⟩ := hzs i y hy
  rw [e1] at g1
  cases g1
  exact seen_deq e2 (e3.same s2) g3
/-- the pairs of places -/
def Two (y : V) (H : Hp) : Prop := ∃ (q : Addr) (i j : Int), y = .ref q ∧ H q = some (.tup [.int i, .int j]) ∧ 0 ≤ i ∧ i < 6 ∧ 0 ≤ j ∧ j < 6
theorem Two.same {y : V} {H H' : Hp} (s : Same H H') (h : Two y H) : Two y H' := by
  obtain ⟨q, i, j, rfl, h1, h2⟩ := h
  exact ⟨q, i, j, rfl, s _ _ h1, h2⟩
theorem Two.lst {y : V} {H : Hp} {D : Addr} {zs zs' : List V} (hD : H D = some (.lst zs)) (h : Two y H) : Two y (upd H D (.lst zs')) := by
  obtain ⟨q, i, j, rfl, h1, h2⟩ := h
  exact ⟨q, i, j, rfl, by rw [upd_ne (ne_of h1 hD (by intro z; cases z))]; exact h1, h2⟩
def spTwos : Sp := fun vs H Q _ => vs = [] ∧ ∀ t ts H', Same H H' → H' t = some (.lst ts) → ts.length = 15 → (∀ y ∈ ts, Two y H') → Q (.ref t) H'
def cnt : Nat → Nat
  | 0 => 0
  | n + 1 => cnt n + (5 - n)
structure TwoI (H : Hp) (p : Addr) (n : Nat) (H' : Hp) : Prop where
  s : Same H H'
  ex : ∃ ts, H' p = some (.lst ts) ∧ ts.length = n ∧ ∀ y ∈ ts, Two y H'
theorem TwoI.add {H H' : Hp} {p q : Addr} {n : Nat} {i j : Int} (h : TwoI H p n H') (hp : H p = none) (hq : H' q = none) (h1 : 0 ≤ i) (h2 : i < 6) (h3 : 0 ≤ j) (h4 : j < 6) : ∃ ts, upd H' q (.tup [.int i, .int j]) p = some (.lst ts) ∧ ts.length = n ∧ TwoI H p (n + 1) (upd (upd H' q (.tup [.int i, .int j])) p (.lst (ts ++ [.ref q]))) := by
  obtain ⟨ts, e1, e2, e3⟩ := h.ex
  have s1 := Same.new (o := .tup [V.int i, V.int j]) hq
  refine ⟨ts, s1 _ _ e1, e2, fun c o e => ?_, ts ++ [.ref q], upd_same, by rw [List.length_append, e2]; rfl, fun y hy => ?_⟩
  · rw [upd_ne (ne_of_none e hp)]
    exact s1 _ _ (h.s _ _ e)
  · refine Two.lst (s1 _ _ e1) ?_
    rcases List.mem_append.mp hy with z | z
    · exact (e3 y z).same s1
    · rw [List.mem_singleton.mp z]
      exact ⟨q, i, j, rfl, upd_same, h1, h2, h3, h4⟩
theorem ok_l_twos (T : Tx K mg) : FnOk P w K mg base CX0 1 T.f_l_twos T.d_l_twos [] spTwos := by
  refine T.F_l_twos.ok sc_l_twos (fun vs H Q E h => ?_) (fun cdv A outer s H vs Q E hr h => ?_)
  · obtain ⟨rfl, _⟩ := h
    rfl
  obtain ⟨rfl, q⟩ := h
  have nd := sc_l_twos.nd
  refine ⟨_, (pss_cons (ps_set (i := 0) nd rfl (Or.inl rfl) (pe_lst pa_nil))
    (pss_cons (ps_for PassesOwn.never rfl (pi_range1 (by rfl) T.z_range (pa_cons pe_int pa_nil)) (pg_name (i := 1) nd rfl (Or.inl rfl)) (pss_one (ps_for PassesOwn.never rfl (pi_range2 (by rfl) T.z_range (pa_cons (pe_op op_add (pv 1) pe_int) (pa_cons pe_int pa_nil))) (pg_name (i := 2) nd rfl (Or.inl rfl)) (pss_one (ps_expr (pe_bm PySem.F.plainAttrs_list PySem.F.slot_list_append PySem.F.type_list_append mt_append (pv 0) (pa_cons (pe_tup (pa_cons (pv 1) (pa_cons (pv 2) pa_nil))) pa_nil)))))))
    (pss_one (ps_ret (pv 0))))), ?_⟩
  refine ⟨(by show 0 ≤ sizeLine; decide), fun p hp => ?_⟩
  refine ⟨6, rfl, by decide, by decide, for_range (lo := 0) (n := 6) (fun i σ' H' => (∃ a b, σ' = [some (.ref p), a, b]) ∧ TwoI H p (cnt i) H') ⟨⟨none, none, rfl⟩, Same.new hp, [], upd_same, rfl, fun y hy => by cases hy⟩ ?_ ?_⟩
  · rintro i σ' H' hi ⟨⟨a, b, rfl⟩, hI⟩
    refine ⟨_, rfl, _, _, rfl, rfl, _, _, rfl, ⟨by omega, by omega, by decide, by decide⟩, for_range (lo := (0 + (i : Int) + 1)) (n := (6 - (0 + (i : Int) + 1)).toNat) (fun j σ' H' => (∃ b, σ' = [some (.ref p), some (.int (0 + (i : Int))), b]) ∧ TwoI H p (cnt i + j) H') ⟨⟨b, rfl⟩, hI⟩ ?_ ?_⟩
    · rintro j σ' H' hj ⟨⟨b, rfl⟩, hJ⟩
      have hj' : j < 5 - i := by omega
      obtain ⟨ts0, e1, _, _⟩ := hJ.ex
      refine ⟨_, rfl, .inl ⟨rfl, _, SqL.of e1⟩, _, rfl, _, rfl, (by show 2 ≤ sizeLine; decide), fun r hr' => ?_⟩
      obtain ⟨ts, g1, g2, hN⟩ := hJ.add (i := 0 + (i : Int)) (j := 0 + (i : Int) + 1 + (j : Int)) hp hr' (by omega) (by omega) (by omega) (by omega)
      have hc : cnt i + j < 1000 := by
        have : ∀ i, i < 6 → cnt i ≤ 15 := by decide
        have := this i hi
        omega
      refine ⟨p, ts, _, rfl, rfl, g1, small1000 (by omega), ?_⟩
      exact ⟨⟨_, rfl⟩, hN⟩
    · rintro σ' H' ⟨⟨b, rfl⟩, hJ⟩
      have e : (6 - (0 + (i : Int) + 1)).toNat = 5 - i := by omega
      rw [e] at hJ
      exact ⟨⟨_, _, rfl⟩, hJ⟩
  · rintro σ' H' ⟨⟨a, b, rfl⟩, hI⟩
    obtain ⟨ts, e1, e2, e3⟩ := hI.ex
    exact ⟨_, rfl, q p ts H' hI.s e1 e2 e3⟩
end
end TL
namespace TL
open PySem L2

/-! ### steps of a reading -/
local macro_rules | `(tactic| walk_at "hp") => `(tactic| first | assumption | exact upd_same | (refine (upd_ne (by first | assumption | (exact Ne.symm (by assumption)))).trans ?_; walk_at "hp"))
local macro_rules | `(tactic| walk_at "ok") => `(tactic| first | (exact Or.inr ⟨by decide, by decide⟩) | (exact ⟨by decide, by decide⟩) | (exact ⟨by decide, by decide, by decide⟩) | (show _ ≠ _; omega) | (show _ ≠ _; decide) | (exact Or.inl ⟨by omega, by omega⟩) | decide)
local macro_rules | `(tactic| walk_at "sq") => `(tactic| first | assumption | exact SqL.of (by walk_at "hp") | exact SqT.of (by walk_at "hp"))
local macro_rules | `(tactic| walk_at "ty") => `(tactic| first | refine ⟨_, _, Value.type "int", Value.type "list", false, rfl, ClsV.ty _, TyX.base (TyOf.int _), kt_int_list, ?_⟩ | refine ⟨_, _, Value.type "bool", Value.type "list", false, rfl, ClsV.ty _, TyX.base (TyOf.bl _), kt_bool_list, ?_⟩ | refine ⟨_, _, Value.type "str", Value.type "list", false, rfl, ClsV.ty _, TyX.base (TyOf.str _), kt_str_list, ?_⟩ | refine ⟨_, _, Value.type "NoneType", Value.type "list", false, rfl, ClsV.ty _, TyX.base TyOf.non, kt_NoneType_list, ?_⟩ | refine ⟨_, _, Value.type "list", Value.type "list", true, rfl, ClsV.ty _, tyx_L (by walk_at "sq"), kt_list_list, ?_⟩ | refine ⟨_, _, Value.type "tuple", Value.type "list", false, rfl, ClsV.ty _, tyx_T (by walk_at "sq"), kt_tuple_list, ?_⟩ | refine ⟨_, _, Value.type "int", Value.type "tuple", false, rfl, ClsV.ty _, TyX.base (TyOf.int _), kt_int_tuple, ?_⟩ | refine ⟨_, _, Value.type "bool", Value.type "tuple", false, rfl, ClsV.ty _, TyX.base (TyOf.bl _), kt_bool_tuple, ?_⟩ | refine ⟨_, _, Value.type "str", Value.type "tuple", false, rfl, ClsV.ty _, TyX.base (TyOf.str _), kt_str_tuple, ?_⟩ | refine ⟨_, _, Value.type "NoneType", Value.type "tuple", false, rfl, ClsV.ty _, TyX.base TyOf.non, kt_NoneType_tuple, ?_⟩ | refine ⟨_, _, Value.type "list", Value.type "tuple", false, rfl, ClsV.ty _, tyx_L (by walk_at "sq"), kt_list_tuple, ?_⟩ | refine ⟨_, _, Value.type "tuple", Value.type "tuple", true, rfl, ClsV.ty _, tyx_T (by walk_at "sq"), kt_tuple_tuple, ?_⟩ | refine ⟨_, _, Value.type "int", Value.type "bool", false, rfl, ClsV.ty _, TyX.base (TyOf.int _), kt_int_bool, ?_⟩ | refine ⟨_, _, Value.type "bool", Value.type "bool", true, rfl, ClsV.ty _, TyX.base (TyOf.bl _), kt_bool_bool, ?_⟩ | refine ⟨_, _, Value.type "str", Value.type "bool", false, rfl, ClsV.ty _, TyX.base (TyOf.str _), kt_str_bool, ?_⟩ | refine ⟨_, _, Value.type "NoneType", Value.type "bool", false, rfl, ClsV.ty _, TyX.base TyOf.non, kt_NoneType_bool, ?_⟩ | refine ⟨_, _, Value.type "list", Value.type "bool", false, rfl, ClsV.ty _, tyx_L (by walk_at "sq"), kt_list_bool, ?_⟩ | refine ⟨_, _, Value.type "tuple", Value.type "bool", false, rfl, ClsV.ty _, tyx_T (by walk_at "sq"), kt_tuple_bool, ?_⟩ | refine ⟨_, _, Value.type "int", Value.type "int", true, rfl, ClsV.ty _, TyX.base (TyOf.int _), kt_int_int, ?_⟩ | refine ⟨_, _, Value.type "bool", Value.type "int", true, rfl, ClsV.ty _, TyX.base (TyOf.bl _), kt_bool_int, ?_⟩ | refine ⟨_, _, Value.type "str", Value.type "int", false, rfl, ClsV.ty _, TyX.base (TyOf.str _), kt_str_int, ?_⟩ | refine ⟨_, _, Value.type "NoneType", Value.type "int", false, rfl, ClsV.ty _, TyX.base TyOf.non, kt_NoneType_int, ?_⟩ | refine ⟨_, _, Value.type "list", Value.type "int", false, rfl, ClsV.ty _, tyx_L (by walk_at "sq"), kt_list_int, ?_⟩ | refine ⟨_, _, Value.type "tuple", Value.type "int", false, rfl, ClsV.ty _, tyx_T (by walk_at "sq"), kt_tuple_int, ?_⟩ | refine ⟨_, _, Value.type "int", Value.type "str", false, rfl, ClsV.ty _, TyX.base (TyOf.int _), kt_int_str, ?_⟩ | refine ⟨_, _, Value.type "bool", Value.type "str", false, rfl, ClsV.ty _, TyX.base (TyOf.bl _), kt_bool_str, ?_⟩ | refine ⟨_, _, Value.type "str", Value.type "str", true, rfl, ClsV.ty _, TyX.base (TyOf.str _), kt_str_str, ?_⟩ | refine ⟨_, _, Value.type "NoneType", Value.type "str", false, rfl, ClsV.ty _, TyX.base TyOf.non, kt_NoneType_str, ?_⟩ | refine ⟨_, _, Value.type "list", Value.type "str", false, rfl, ClsV.ty _, tyx_L (by walk_at "sq"), kt_list_str, ?_⟩ | refine ⟨_, _, Value.type "tuple", Value.type "str", false, rfl, ClsV.ty _, tyx_T (by walk_at "sq"), kt_tuple_str, ?_⟩)
local macro_rules | `(tactic| walk_at "go1") => `(tactic| first
  | (refine ⟨_, rfl, ?_⟩)
  | (refine ⟨_, _, rfl, rfl, ?_⟩)
  | (refine ⟨_, _, _, _, rfl, rfl, SqL.of (by walk_at "hp"), rfl, ?_⟩)
  | (refine Or.inl ⟨_, rfl, ?_⟩)
  | (refine ⟨rfl, ?_⟩)
  | (refine ⟨_, _, rfl, .inl (SqL.of (by walk_at "hp")), ?_⟩)
  | (refine ⟨_, _, rfl, Or.inl (by assumption), ?_⟩)
  | (refine ⟨_, _, rfl, Or.inr (by assumption), ?_⟩)
  | (refine ⟨(by walk_at "ok"), ?_⟩)
  | (refine ⟨_, _, _, _, rfl, rfl, (by walk_at "hp"), rfl, ?_⟩))
local macro_rules | `(tactic| walk_at "go") => `(tactic| repeat (walk_at "go1"))
local macro_rules | `(tactic| walk_at "gt") => `(tactic| repeat (first | walk_at "go1" | walk_at "ty"))

section
variable {P : Program} {w : World} {K : PySem.W.Frag} {mg : Str → Option Value} {base : Heap}
theorem LW.kb {B : Bg} {H H' : Hp} {p : Addr} {x : W2} (h : LW H p x) (hB : Bag B H) (k : Kb B.b H H') : LW H' p x := by
  obtain ⟨l1, l2, h1, h2, h3⟩ := h.ex
  obtain ⟨i, r, s, c, hb, _⟩ := hB.ex
  refine ⟨⟨l1, l2, k _ _ h1 (ne_of h1 hb (by intro z; cases z)), k _ _ h2 (ne_of h2 hb fun z => ?_), k _ _ h3 (ne_of h3 hb fun z => ?_)⟩, h.ok⟩
  · have e := congrArg (fun o => match o with | HO.lst xs => xs.length | _ => 0) z
    simp only [List.length_map, h.ok.l1] at e
    cases e
  · have e := congrArg (fun o => match o with | HO.lst xs => xs.length | _ => 0) z
    simp only [List.length_map, h.ok.l2] at e
    cases e
def Bd (m : Nat) (x : W2) : Prop := ∀ u ∈ x.1, u.natAbs ≤ 1000000000000 + m
theorem ints_of {R : Int → Prop} : ∀ ys : List V, (∀ y ∈ ys, ∃ d, y = V.int d ∧ R d) → ∃ ns : List Int, ys = ns.map V.int ∧ ns.length = ys.length ∧ ∀ d ∈ ns, R d
  | [], _ => ⟨[], rfl, rfl, fun d h => by cases h⟩
  | y :: ys, h => by
    obtain ⟨d, rfl, hd⟩ := h y List.mem_cons_self
    obtain ⟨ns, rfl, h2, h3⟩ := ints_of ys fun z hz => h z (List.mem_cons_of_mem _ hz)
    refine ⟨d :: ns, rfl, by simp, fun e he => ?_⟩
    rcases List.mem_cons.mp he with q | q
    · rw [q]
      exact hd
    · exact h3 e q
def WdI (B : Bg) (H : Hp) (kind : Int) (m : Nat) : L2.St → Hp → Prop := fun σ' H' => ∃ t x a3 a4 a5 a6 a7 a8 a9 a10 a11 a12, σ' = [some (.ref B.b), some (.int kind), some (.ref t), a3, a4, a5, a6, a7, a8, a9, a10, a11, a12] ∧ Bag B H' ∧ Kb B.b H H' ∧ LW H' t x ∧ Bd m x
def spDrawnW : Sp := fun vs H Q _ => ∃ (B : Bg), vs = [.ref B.b] ∧ Bag B H ∧ ∀ (t : Addr) (x : W2) (H' : Hp), Bag B H' → Kb B.b H H' → LW H' t x → Bd 100 x → Q (.ref t) H'
theorem bd_bnd {x : W2} {m : Nat} (h : Bd m x) (hm : m ≤ 1000) : Bnd x := fun u hu => Nat.lt_of_le_of_lt (h u hu) (Nat.lt_of_le_of_lt (Nat.add_le_add_left hm _) (by decide))
theorem menu {i : Nat} {v : V} (h : ([.int 2, .int 5, .int 20, .int (10 ^ (12 : Int).toNat)] : List V)[i]? = some v) : ∃ d : Int, v = .int d ∧ 2 ≤ d ∧ d ≤ 1000000000000 := by
  match i, h with
  | 0, h => cases h; exact ⟨_, rfl, by decide, by decide⟩
  | 1, h => cases h; exact ⟨_, rfl, by decide, by decide⟩
  | 2, h => cases h; exact ⟨_, rfl, by decide, by decide⟩
  | 3, h => cases h; exact ⟨_, rfl, by decide, by decide⟩
  | n + 4, h => cases h
theorem at6 {ns : List Int} {m : Nat} {i : Int} (hl : ns.length = 6) (hb : ∀ d ∈ ns, d.natAbs ≤ m) (h0 : 0 ≤ i) (h1 : i < 6) : ∃ u : Int, atI (ns.map V.int) i = some (.int u) ∧ u.natAbs ≤ m := by
  have hk : i.toNat < ns.length := by omega
  exact ⟨ns[i.toNat], at_of (j := i.toNat) (by omega) (by rw [List.getElem?_map, List.getElem?_eq_getElem hk]; rfl), hb _ (List.getElem_mem hk)⟩
theorem mul22 {a b : Int} {m n k : Nat} (ha : a.natAbs ≤ m) (hb : b.natAbs ≤ n) (h : m * n ≤ k) : (a * b).natAbs ≤ k := by
  rw [Int.natAbs_mul]
  exact Nat.le_trans (Nat.mul_le_mul ha hb) h
theorem cm {a b : Int} (h : a.natAbs ≤ 1000) : CMul a b := .inl ⟨by omega, by omega⟩
theorem Bd.mono {m n : Nat} {x : W2} (h : Bd m x) (hm : m ≤ n) : Bd n x := fun u hu => Nat.le_trans (h u hu) (by omega)
theorem bd_add {m n k : Nat} {x y : W2} (h : Bd m x) (hy : ∀ u ∈ y.1, u.natAbs ≤ n) (hk : m + n ≤ k) : Bd k (addW x y) := fun u hu => by
  obtain ⟨i, hi, rfl⟩ := List.mem_iff_getElem.mp (show u ∈ List.zipWith (· + ·) x.1 y.1 from hu)
  rw [List.getElem_zipWith]
  rw [List.length_zipWith] at hi
  have h1 := h _ (List.getElem_mem (show i < x.1.length by omega))
  have h2 := hy _ (List.getElem_mem (show i < y.1.length by omega))
  omega
theorem ok_l_drawn (T : Tx K mg) : FnOk P w K mg base CX0 3 T.f_l_wedge_drawn T.d_l_wedge_drawn ["_law_bag_here"] spDrawnW := by
  have G_l_draw := ok_draw (P := P) (w := w) (base := base) T
  have G_l_of := ok_of (P := P) (w := w) (base := base) T
  have G_l_none := ok_l_none (P := P) (w := w) (base := base) T
  have G_l_added := ok_l_added (P := P) (w := w) (base := base) T
  have G_l_twos := ok_l_twos (P := P) (w := w) (base := base) T
  refine T.F_l_wedge_drawn.ok sc_l_wedge_drawn (fun vs H Q E h => ?_) (fun cdv A outer s H vs Q E hr h => ?_)
  · obtain ⟨B, rfl, _⟩ := h
    rfl
  obtain ⟨B, rfl, hB, q⟩ := h
  have nd := sc_l_wedge_drawn.nd
  refine ⟨_, (pss_cons (ps_set (i := 1) nd rfl (Or.inl rfl) (pe_call G_l_draw (hr.mono (by decide)) (by rfl) T.m_l_draw T.F_l_draw.kp T.b_l_draw .nil pass0 (pa_cons (pv 0) (pa_cons pe_int pa_nil))))
    (pss_cons (ps_set (i := 2) nd rfl (Or.inl rfl) (pe_call0 G_l_none (hr.mono (by decide)) (by rfl) T.m_l_none T.F_l_none.kp T.b_l_none .nil pass0))
    (pss_cut (ps_if (pt_cmpR op_lt (pv 1) pe_int (nomark _)) (pss_cons (ps_set (i := 3) nd rfl (Or.inr rfl) (pe_call G_l_of hr (by rfl) T.m_l_of T.F_l_of.kp T.b_l_of .nil pass0 (pa_cons (pv 0) (pa_cons (pe_lst (pa_cons pe_int (pa_cons pe_int (pa_cons pe_int (pa_cons (pe_op op_pow pe_int pe_int) pa_nil))))) pa_nil))))
    (pss_cons (ps_set (i := 4) nd rfl (Or.inr rfl) (pe_op op_add pe_int (pe_op op_mul pe_int (pe_call G_l_draw (hr.mono (by decide)) (by rfl) T.m_l_draw T.F_l_draw.kp T.b_l_draw .nil pass0 (pa_cons (pv 0) (pa_cons pe_int pa_nil))))))
    (pss_cons (ps_setLc (i := 5) (own := [("_law_turn", 6)]) (g := (gName 6)) rfl nd rfl rfl (sw_true rfl rfl rfl (by decide +kernel)) (pi_range1 (by rfl) T.z_range (pa_cons pe_int pa_nil)) (blkOk_by (own := [("_law_turn", 6)]) (N := N_l_wedge_drawn) (sc := defScope s_l_wedge_drawn) (by decide +kernel)) (fun _ _ _ _ _ => by exact (pg_name (i := 6) nd rfl (Or.inl rfl))) (fun _ _ _ _ _ => by exact pts_nil) (fun _ _ _ _ _ => by exact (pe_ifExp (pt_cmpR op_eq (pe_call G_l_draw (hr.mono (by decide)) (by rfl) T.m_l_draw T.F_l_draw.kp T.b_l_draw .nil pass0 (pa_cons (pv 0) (pa_cons (pv 4) pa_nil))) pe_int (nomark _)) (pe_op op_sub (pe_call G_l_draw (hr.mono (by decide)) (by rfl) T.m_l_draw T.F_l_draw.kp T.b_l_draw .nil pass0 (pa_cons (pv 0) (pa_cons (pe_op op_add (pe_op op_mul pe_int (pv 3)) pe_int) pa_nil))) (pv 3)) pe_int)))
    (pss_one (ps_set (i := 2) nd rfl (Or.inl rfl) (pe_tup (pa_cons (pv 5) (pa_cons (pe_ix (show IxR _ (rIxT K) from ix_tup) (pv 2) pe_int (fun _ _ => rfl)) pa_nil)))))))) pss_nil)
    (pss_cut (ps_for PassesOwn.never rfl (pi_range1 (by rfl) T.z_range (pa_cons (pe_ifExp (pt_cmpR op_ge (pv 1) pe_int (nomark _)) (pe_call G_l_draw (hr.mono (by decide)) (by rfl) T.m_l_draw T.F_l_draw.kp T.b_l_draw .nil pass0 (pa_cons (pv 0) (pa_cons pe_int pa_nil))) pe_int) pa_nil)) (pg_name (i := 6) nd rfl (Or.inl rfl)) (pss_cons (ps_asg (pe_tup (pa_cons (pe_lc (own := [("_law_j", 12)]) (g := (gName 12)) rfl nd (pi_range1 (by rfl) T.z_range (pa_cons pe_int pa_nil)) (blkOk_by (own := [("_law_j", 12)]) (N := N_l_wedge_drawn) (sc := defScope s_l_wedge_drawn) (by decide +kernel)) (fun _ _ _ _ _ => by exact (pg_name (i := 12) nd rfl (Or.inl rfl))) (fun _ _ _ _ _ => by exact pts_nil) (fun _ _ _ _ _ => by exact (pe_op op_sub (pe_call G_l_draw (hr.mono (by decide)) (by rfl) T.m_l_draw T.F_l_draw.kp T.b_l_draw .nil pass0 (pa_cons (pv 0) (pa_cons pe_int pa_nil))) pe_int))) (pa_cons (pe_lc (own := [("_law_j", 12)]) (g := (gName 12)) rfl nd (pi_range1 (by rfl) T.z_range (pa_cons pe_int pa_nil)) (blkOk_by (own := [("_law_j", 12)]) (N := N_l_wedge_drawn) (sc := defScope s_l_wedge_drawn) (by decide +kernel)) (fun _ _ _ _ _ => by exact (pg_name (i := 12) nd rfl (Or.inl rfl))) (fun _ _ _ _ _ => by exact pts_nil) (fun _ _ _ _ _ => by exact (pe_op op_sub (pe_call G_l_draw (hr.mono (by decide)) (by rfl) T.m_l_draw T.F_l_draw.kp T.b_l_draw .nil pass0 (pa_cons (pv 0) (pa_cons pe_int pa_nil))) pe_int))) pa_nil))) (pg_tup rfl (pgs_cons (pg_name (i := 7) nd rfl (Or.inr rfl)) (pgs_cons (pg_name (i := 8) nd rfl (Or.inr rfl)) pgs_nil))))
    (pss_cons (ps_set (i := 9) nd rfl (Or.inr rfl) (pe_op op_add pe_int (pe_call G_l_draw (hr.mono (by decide)) (by rfl) T.m_l_draw T.F_l_draw.kp T.b_l_draw .nil pass0 (pa_cons (pv 0) (pa_cons pe_int pa_nil)))))
    (pss_cons (ps_setLc (i := 10) (own := [("_law_i", 11), ("_law_j", 12)]) (g := (gTup K 2 (gCons (gName 11) (gCons (gName 12) gNil)))) rfl nd rfl rfl (sw_true rfl rfl rfl (by decide +kernel)) (show PI _ _ _ (iList K _) from pi_list (pe_call0 G_l_twos (hr.mono (by decide)) (by rfl) T.m_l_twos T.F_l_twos.kp T.b_l_twos .nil pass0)) (blkOk_by (own := [("_law_i", 11), ("_law_j", 12)]) (N := N_l_wedge_drawn) (sc := defScope s_l_wedge_drawn) (by decide +kernel)) (fun _ _ _ _ _ => by exact (pg_tup rfl (pgs_cons (pg_name (i := 11) nd rfl (Or.inl rfl)) (pgs_cons (pg_name (i := 12) nd rfl (Or.inl rfl)) pgs_nil)))) (fun _ _ _ _ _ => by exact pts_nil) (fun _ _ _ _ _ => by exact (pe_op op_mul (pv 9) (pe_op op_sub (pe_op op_mul (pe_ix (show IxR _ (rIxL K) from ix_list) (pv 7) (pv 11) (fun _ _ => rfl)) (pe_ix (show IxR _ (rIxL K) from ix_list) (pv 8) (pv 12) (fun _ _ => rfl))) (pe_op op_mul (pe_ix (show IxR _ (rIxL K) from ix_list) (pv 7) (pv 12) (fun _ _ => rfl)) (pe_ix (show IxR _ (rIxL K) from ix_list) (pv 8) (pv 11) (fun _ _ => rfl)))))))
    (pss_one (ps_set (i := 2) nd rfl (Or.inl rfl) (pe_call G_l_added (hr.mono (by decide)) (by rfl) T.m_l_added T.F_l_added.kp T.b_l_added .nil pass0 (pa_cons (pv 2) (pa_cons (pe_tup (pa_cons (pv 10) (pa_cons (pe_op op_rep (pe_lst (pa_cons pe_int pa_nil)) pe_int) pa_nil))) pa_nil)))))))))
    (pss_cut (ps_if (pt_cmpR op_eq (pe_call G_l_draw (hr.mono (by decide)) (by rfl) T.m_l_draw T.F_l_draw.kp T.b_l_draw .nil pass0 (pa_cons (pv 0) (pa_cons pe_int pa_nil))) pe_int (nomark _)) (pss_one (ps_set (i := 2) nd rfl (Or.inl rfl) (pe_tup (pa_cons (pe_ix (show IxR _ (rIxT K) from ix_tup) (pv 2) pe_int (fun _ _ => rfl)) (pa_cons (pe_lc (own := [("_law_j", 12)]) (g := (gName 12)) rfl nd (pi_range1 (by rfl) T.z_range (pa_cons pe_int pa_nil)) (blkOk_by (own := [("_law_j", 12)]) (N := N_l_wedge_drawn) (sc := defScope s_l_wedge_drawn) (by decide +kernel)) (fun _ _ _ _ _ => by exact (pg_name (i := 12) nd rfl (Or.inl rfl))) (fun _ _ _ _ _ => by exact pts_nil) (fun _ _ _ _ _ => by exact (pe_call G_l_draw (hr.mono (by decide)) (by rfl) T.m_l_draw T.F_l_draw.kp T.b_l_draw .nil pass0 (pa_cons (pv 0) (pa_cons pe_int pa_nil))))) pa_nil))))) pss_nil)
    (pss_one (ps_ret (pv 2)))))))), ?_⟩
  refine ⟨_, rfl, B, 6, rfl, by decide, by decide, hB, fun kind H1 k0 k1 hB1 kb1 => ?_⟩
  refine ⟨rfl, fun t H2 s2 ht => ?_⟩
  have hB2 := hB1.same s2
  have kb2 := kb1.trans (Kb.same s2)
  refine ⟨WdI B H kind 0, ?_, ?_⟩
  · -- the sparse ones
    refine ⟨_, rfl, _, _, rfl, rfl, _, rfl, ?_⟩
    refine ite2 (fun c1 => ?_) (fun c1 => ?_)
    · refine ⟨_, rfl, _, _, rfl, rfl, ⟨by decide, by decide, by decide⟩, (by show 4 ≤ sizeLine; decide), fun p hp => ?_⟩
      have hB3 := hB2.new (o := .lst [.int 2, .int 5, .int 20, .int (10 ^ (12 : Int).toNat)]) hp
      refine ⟨B, p, _, rfl, SqL.of upd_same, hB2.nb hp, (by show 0 < 4; decide), (by show 4 ≤ 1000; decide), hB3, fun i v H3 hv hB4 kb3 => ?_⟩
      obtain ⟨wide, rfl, w1, w2⟩ := menu hv
      have kb4 := (kb2.new (o := .lst [.int 2, .int 5, .int 20, .int (10 ^ (12 : Int).toNat)]) hp).trans kb3
      refine ⟨_, rfl, B, 2, rfl, by decide, by decide, hB4, fun d H4 d0 d1 hB5 kb5 => ?_⟩
      have kb6 := kb4.trans kb5
      have ht4 : LW H4 t zeroW := ((ht.same (Same.new (o := .lst [.int 2, .int 5, .int 20, .int (10 ^ (12 : Int).toNat)]) hp)).kb hB3 kb3).kb hB4 kb5
      refine ⟨_, _, rfl, rfl, .inl ⟨by decide, by decide⟩, _, _, rfl, rfl, ?_⟩
      refine ⟨15, rfl, by decide, by decide, fun D hD => ?_⟩
      refine lcb (walk_range (lo := 0) (n := 15)) (fun y => ∃ d : Int, y = .int d ∧ d.natAbs ≤ 1000000000000 + 0) (by decide) hB5 hD (fun _ _ => trivial) ?_ ?_
      · rintro i x H5 H6 hi kb7 hB6 ⟨rfl, rfl⟩ k hk
        refine ⟨rfl, ?_⟩
        refine ⟨_, rfl, _, rfl, B, _, rfl, by omega, Nat.lt_of_le_of_lt (by omega : (1 + 3 * d).natAbs ≤ 1000) (by decide), hB6, fun e H7 e0 e1 hB7 kb8 => ?_⟩
        refine ⟨rfl, _, rfl, ?_⟩
        refine ite2 (fun _ => ?_) (fun _ => ?_)
        · refine ⟨_, rfl, _, rfl, _, _, rfl, rfl, .inl ⟨by decide, by decide⟩, _, _, rfl, rfl, B, _, rfl, by omega, Nat.lt_of_le_of_lt (by omega : (2 * wide + 1).natAbs ≤ 2000000000001) (by decide), hB7, fun e2 H8 f0 f1 hB8 kb9 => ?_⟩
          refine ⟨_, rfl, _, _, rfl, rfl, ?_⟩
          exact hk _ H8 ⟨e2 - wide, rfl, by omega⟩ (kb8.trans kb9) hB8
        · exact hk _ H7 ⟨0, rfl, by decide⟩ kb8 hB7
      · intro ys H5 hl hys kb7 hB6 hD5
        obtain ⟨ns, rfl, hn, hns⟩ := ints_of ys hys
        have ht5 := ht4.kb hB5 kb7
        obtain ⟨l1, l2, h1, h2, h3⟩ := ht5.ex
        refine ⟨_, rfl, _, rfl, _, _, _, _, rfl, rfl, SqT.of h1, rfl, ?_⟩
        refine ⟨(by show 2 ≤ sizeLine; decide), fun t' ht0 => ?_⟩
        have s6 := Same.new (o := .tup [V.ref D, V.ref l2]) ht0
        have ht' : LW (upd H5 t' (.tup [V.ref D, V.ref l2])) t' (ns, zeroW.2) := ⟨⟨D, l2, upd_same, s6 _ _ hD5, s6 _ _ h3⟩, ⟨by show ns.length = 15; omega, zeroW_ok.l2, zeroW_ok.bit⟩⟩
        exact ⟨t', _, _, _, _, _, _, _, _, _, _, _, rfl, hB6.same s6, (kb6.trans kb7).trans (Kb.same s6), ht', hns⟩
    · exact ⟨t, zeroW, _, _, _, _, _, _, _, _, _, _, rfl, hB2, kb2, ht, fun u hu => by rw [(List.mem_replicate.mp hu).2]; decide⟩
  · rintro σ' H' ⟨t, x, a3, a4, a5, a6, a7, a8, a9, a10, a11, a12, rfl, hB', kb', hx, hbd⟩
    refine ⟨WdI B H kind 100, ?_, ?_⟩
    · refine ⟨_, rfl, _, _, rfl, rfl, _, rfl, ?_⟩
      refine ite2 (fun c2 => ?_) (fun c2 => ?_)
      · refine ⟨_, rfl, B, 4, rfl, by decide, by decide, hB', fun d H1 d0 d1 hB1 kb1 => ?_⟩
        refine ⟨d, rfl, by omega, by omega, for_range (lo := 0) (n := d.toNat) (fun i => WdI B H kind (24 * i)) ⟨t, x, _, _, _, _, _, _, _, _, _, _, rfl, hB1, kb'.trans kb1, hx.kb hB' kb1, hbd⟩ ?_ ?_⟩
        · rintro i σ' H2 hi ⟨t, x, a3, a4, a5, a6, a7, a8, a9, a10, a11, a12, rfl, hB2, kb2, hx2, hbd2⟩
          refine ⟨6, rfl, by decide, by decide, fun D hD => ?_⟩
          refine lcb (walk_range (lo := 0) (n := 6)) (fun y => ∃ d : Int, y = .int d ∧ d.natAbs ≤ 2) (by decide) hB2 hD (fun _ _ => trivial) ?_ ?_
          · rintro j y H5 H6 hj kb7 hB6 ⟨rfl, rfl⟩ k hk
            refine ⟨rfl, ?_⟩
            refine ⟨_, rfl, B, 5, rfl, by decide, by decide, hB6, fun e H7 e0 e1 hB7 kb8 => ?_⟩
            exact ⟨_, _, rfl, rfl, hk _ H7 ⟨e - 2, rfl, by omega⟩ kb8 hB7⟩
          intro ys H3 hl hys kb3 hB3 hD3
          obtain ⟨as, rfl, ha1, ha2⟩ := ints_of ys hys
          refine ⟨6, rfl, by decide, by decide, fun D2 hE => ?_⟩
          refine lcb (walk_range (lo := 0) (n := 6)) (fun y => ∃ d : Int, y = .int d ∧ d.natAbs ≤ 2) (by decide) hB3 hE (fun _ _ => trivial) ?_ ?_
          · rintro j y H5 H6 hj kb7 hB6 ⟨rfl, rfl⟩ k hk
            refine ⟨rfl, ?_⟩
            refine ⟨_, rfl, B, 5, rfl, by decide, by decide, hB6, fun e H7 e0 e1 hB7 kb8 => ?_⟩
            exact ⟨_, _, rfl, rfl, hk _ H7 ⟨e - 2, rfl, by omega⟩ kb8 hB7⟩
          intro zs H4 hl4 hzs kb4 hB4 hD4
          obtain ⟨bs, rfl, hb1, hb2⟩ := ints_of zs hzs
          have nD : D ≠ B.b := hB2.nb hD
          have nD2 : D2 ≠ B.b := hB3.nb hE
          have hDa := kb4 _ _ hD3 nD
          have hx4 := (hx2.kb hB2 kb3).kb hB3 kb4
          refine ⟨(by show 2 ≤ sizeLine; decide), fun p hp => ?_⟩
          have s5 := Same.new (o := .tup [V.ref D, V.ref D2]) hp
          refine ⟨p, _, rfl, SqT.of upd_same, rfl, _, _, rfl, _, _, rfl, rfl, ?_⟩
          have hB5 := hB4.same s5
          refine ⟨_, rfl, B, 3, rfl, by decide, by decide, hB5, fun n H6 n0 n1 hB6 kb6 => ?_⟩
          refine ⟨_, _, rfl, rfl, ?_⟩
          have hx6 := (hx4.same s5).kb hB5 kb6
          have hDa6 := kb6 _ _ (s5 _ _ hDa) nD
          have hDb6 := kb6 _ _ (s5 _ _ hD4) nD2
          have kbA := ((((kb2.trans kb3).trans kb4).trans (Kb.same s5)).trans kb6)
          refine ⟨rfl, fun tw ts H7 s7 hts hl7 hT => ?_⟩
          refine ⟨tw, rfl, ⟨_, SqL.of hts⟩, fun D3 hF => ?_⟩
          refine lcs (walk_list (K := K) (a := tw) (xs := ts)) (fun _ y _ => ∃ d : Int, y = .int d ∧ d.natAbs ≤ 24) (fun _ _ _ _ _ h => h) (fun _ _ _ _ _ _ h => h) (by omega) hF (fun H' s => s.seq (SqL.of hts)) ?_ ?_
          · rintro j y H8 H9 hj s8 ⟨rfl, hy⟩ k hk
            obtain ⟨qq, u, v, rfl, g1, g2, g3, g4, g5⟩ := (hT y (List.mem_of_getElem? hy)).same s8
            obtain ⟨au, f1, f2⟩ := at6 (by omega) ha2 g2 g3
            obtain ⟨av, f3, f4⟩ := at6 (by omega) ha2 g4 g5
            obtain ⟨bu, f5, f6⟩ := at6 (by omega) hb2 g2 g3
            obtain ⟨bv, f7, f8⟩ := at6 (by omega) hb2 g4 g5
            have hda := s8 _ _ (s7 _ _ hDa6)
            have hdb := s8 _ _ (s7 _ _ hDb6)
            refine ⟨qq, [.int u, .int v], rfl, SqT.of g1, rfl, _, _, rfl, _, _, rfl, rfl, rfl, ?_⟩
            refine ⟨_, rfl, ?_⟩
            refine ⟨_, rfl, _, rfl, D, _, u, _, rfl, rfl, SqL.of hda, f1, _, rfl, _, rfl, D2, _, v, _, rfl, rfl, SqL.of hdb, f7, _, _, rfl, rfl, cm (by omega), ?_⟩
            refine ⟨_, rfl, _, rfl, D, _, v, _, rfl, rfl, SqL.of hda, f3, _, rfl, _, rfl, D2, _, u, _, rfl, rfl, SqL.of hdb, f5, _, _, rfl, rfl, cm (by omega), ?_⟩
            refine ⟨_, _, rfl, rfl, _, _, rfl, rfl, cm (by omega), ?_⟩
            have m1 := mul22 (k := 4) f2 f8 (by decide)
            have m2 := mul22 (k := 4) f4 f6 (by decide)
            exact hk _ _ (Same.refl _) ⟨_, rfl, mul22 (m := 3) (n := 8) (by omega) (by omega) (by decide)⟩
          intro ms H8 hl8 hms s8 hD8
          obtain ⟨mo, rfl, hm1, hm2⟩ := ints_of ms fun y hy => by
            obtain ⟨j, hj, rfl⟩ := List.mem_iff_getElem.mp hy
            exact hms j _ (List.getElem?_eq_getElem hj)
          have s78 := s7.trans s8
          refine ⟨_, rfl, _, rfl, (by show 1 ≤ sizeLine; decide), fun p1 hp1 => ⟨p1, _, _, rfl, rfl, upd_same, by decide, by decide, by decide, fun p2 hp2 => ?_⟩⟩
          have s9 := (Same.new (o := .lst [V.int 0]) hp1).trans (Same.new (o := .lst (zeroW.2.map V.int)) hp2)
          refine ⟨(by show 2 ≤ sizeLine; decide), fun p3 hp3 => ?_⟩
          have s10 := Same.new (o := .tup [V.ref D3, V.ref p2]) hp3
          have hm : LW (upd _ p3 (.tup [V.ref D3, V.ref p2])) p3 (mo, zeroW.2) := ⟨⟨D3, p2, upd_same, s10 _ _ (s9 _ _ hD8), s10 _ _ upd_same⟩, ⟨by show mo.length = 15; omega, zeroW_ok.l2, zeroW_ok.bit⟩⟩
          have sA := (s78.trans s9).trans s10
          refine ⟨t, p3, x, (mo, zeroW.2), rfl, hx6.same sA, hm, fun t' H11 s11 ht' => ?_⟩
          have sB := sA.trans s11
          exact ⟨t', _, _, _, _, _, _, _, _, _, _, _, rfl, hB6.same sB, kbA.trans (Kb.same sB), ht', bd_add hbd2 hm2 (by omega)⟩
        · rintro σ' H2 ⟨t, x, a3, a4, a5, a6, a7, a8, a9, a10, a11, a12, rfl, hB2, kb2, hx2, hbd2⟩
          exact ⟨t, x, _, _, _, _, _, _, _, _, _, _, rfl, hB2, kb2, hx2, hbd2.mono (by omega)⟩
      · refine ⟨0, rfl, by decide, by decide, for_range (lo := 0) (n := 0) (fun i => WdI B H kind (24 * i)) ⟨t, x, _, _, _, _, _, _, _, _, _, _, rfl, hB', kb', hx, hbd⟩ (fun i σ H hi => absurd hi (by omega)) ?_⟩
        rintro σ' H2 ⟨t, x, a3, a4, a5, a6, a7, a8, a9, a10, a11, a12, rfl, hB2, kb2, hx2, hbd2⟩
        exact ⟨t, x, _, _, _, _, _, _, _, _, _, _, rfl, hB2, kb2, hx2, hbd2.mono (by omega)⟩
    · rintro σ' H' ⟨t, x, a3, a4, a5, a6, a7, a8, a9, a10, a11, a12, rfl, hB', kb', hx, hbd⟩
      refine ⟨WdI B H kind 100, ?_, ?_⟩
      · refine ⟨_, rfl, B, 2, rfl, by decide, by decide, hB', fun d H1 d0 d1 hB1 kb1 => ?_⟩
        refine ⟨rfl, _, rfl, ?_⟩
        have hx1 := hx.kb hB' kb1
        refine ite2 (fun c => ?_) (fun c => ?_)
        · obtain ⟨l1, l2, h1, h2, h3⟩ := hx1.ex
          refine ⟨_, rfl, _, _, _, _, rfl, rfl, SqT.of h1, rfl, 6, rfl, by decide, by decide, fun D hD => ?_⟩
          refine lcb (walk_range (lo := 0) (n := 6)) (fun y => ∃ d : Int, y = .int d ∧ Bit d) (by decide) hB1 hD (fun _ _ => trivial) ?_ ?_
          · rintro j y H5 H6 hj kb7 hB6 ⟨rfl, rfl⟩ k hk
            refine ⟨rfl, ?_⟩
            refine ⟨_, rfl, B, 2, rfl, by decide, by decide, hB6, fun e H7 e0 e1 hB7 kb8 => ?_⟩
            exact hk _ H7 ⟨e, rfl, by unfold Bit; omega⟩ kb8 hB7
          intro ys H3 hl hys kb3 hB3 hD3
          obtain ⟨bs, rfl, hb1, hb2⟩ := ints_of ys hys
          obtain ⟨m1, m2, e1, e2, e3⟩ := (hx1.kb hB1 kb3).ex
          refine ⟨(by show 2 ≤ sizeLine; decide), fun p hp => ?_⟩
          have s5 := Same.new (o := .tup [V.ref l1, V.ref D]) hp
          have n1 : l1 ≠ B.b := fun z => by
            obtain ⟨i, r, s, c, hb, _⟩ := hB1.ex
            rw [z, hb] at h2
            have e := congrArg (fun o => match o with | some (HO.lst xs) => xs.length | _ => 0) h2
            simp only [List.length_map, hx1.ok.l1] at e
            cases e
          have hl1 := kb3 _ _ h2 n1
          exact ⟨p, (x.1, bs), _, _, _, _, _, _, _, _, _, _, rfl, hB3.same s5, ((kb'.trans kb1).trans kb3).trans (Kb.same s5), ⟨⟨l1, D, upd_same, s5 _ _ hl1, s5 _ _ hD3⟩, ⟨hx.ok.l1, by show bs.length = 6; omega, hb2⟩⟩, hbd⟩
        · exact ⟨t, x, _, _, _, _, _, _, _, _, _, _, rfl, hB1, kb'.trans kb1, hx1, hbd⟩
      · rintro σ' H' ⟨t, x, a3, a4, a5, a6, a7, a8, a9, a10, a11, a12, rfl, hB', kb', hx, hbd⟩
        exact ⟨_, rfl, q t x H' hB' kb' hx hbd⟩
end
end TL
namespace TL
open PySem L2
/-! ### the sums of wedges -/
def Bw (e : Nat) (x : W2) : Prop := ∀ u ∈ x.1, u.natAbs < 2 ^ e
theorem Bw.mono {e f : Nat} {x : W2} (h : Bw e x) (hf : e ≤ f) : Bw f x := fun u hu => Nat.lt_of_lt_of_le (h u hu) (Nat.pow_le_pow_right (by decide) hf)
theorem bw_of {x : W2} (h : Bd 100 x) : Bw 41 x := fun u hu => Nat.lt_of_le_of_lt (h u hu) (by decide)
theorem bw_add {e : Nat} {x y : W2} (h : Bw e x) (h' : Bw e y) : Bw (e + 1) (addW x y) := fun u hu => by
  obtain ⟨i, hi, rfl⟩ := List.mem_iff_getElem.mp (show u ∈ List.zipWith (· + ·) x.1 y.1 from hu)
  rw [List.getElem_zipWith]
  rw [List.length_zipWith] at hi
  have h1 := h _ (List.getElem_mem (show i < x.1.length by omega))
  have h2 := h' _ (List.getElem_mem (show i < y.1.length by omega))
  rw [Nat.pow_succ]
  omega
theorem bw_mul {e f : Nat} {k : Int} {x : W2} (hk : k.natAbs < 2 ^ f) (h : Bw e x) : Bw (f + e) (mulW k x) := fun u hu => by
  obtain ⟨v, hv, rfl⟩ := List.mem_map.mp (show u ∈ x.1.map (k * ·) from hu)
  exact wide_lt hk (h v hv)
theorem bw_neg {e : Nat} {x : W2} (h : Bw e x) : Bw e (negW x) := fun u hu => by
  obtain ⟨v, hv, rfl⟩ := List.mem_map.mp (show u ∈ x.1.map (- ·) from hu)
  rw [Int.natAbs_neg]
  exact h v hv
theorem bw_bnd {e : Nat} {x : W2} (h : Bw e x) (he : e ≤ 500) : Bnd x := h.mono he
theorem bw_small {e : Nat} {k : Int} {x : W2} (hk : k.natAbs < 2 ^ 500) (h : Bw e x) (he : e ≤ 500) : Small k x := fun u hu => mul_bnd hk (bw_bnd h he u hu)
theorem zip_comm {f : Int → Int → Int} (hf : ∀ a b, f a b = f b a) (xs ys : List Int) : List.zipWith f xs ys = List.zipWith f ys xs := by
  apply List.ext_getElem
  · simp [Nat.min_comm]
  · intro i h1 h2
    simp [hf]
theorem add_comm (x y : W2) : addW y x = addW x y := by
  unfold addW
  rw [zip_comm (fun a b => Int.add_comm a b) y.1 x.1, zip_comm (f := fun a b => (a + b).fmod 2) (fun a b => by rw [Int.add_comm]) y.2 x.2]
theorem sub_add (x y : W2) : subW x y = addW x (negW y) := by
  unfold subW addW negW
  refine Prod.ext ?_ rfl
  apply List.ext_getElem
  · simp
  · intro i h1 h2
    simp
    omega
theorem fm2 (a : Int) : a.fmod 2 = a % 2 := Int.fmod_eq_emod_of_nonneg _ (by decide)
theorem add_assoc (x y z : W2) : addW x (addW y z) = addW (addW x y) z := by
  unfold addW
  refine Prod.ext ?_ ?_
  · apply List.ext_getElem
    · simp [Nat.min_assoc]
    · intro i h1 h2
      simp
      omega
  · apply List.ext_getElem
    · simp [Nat.min_assoc]
    · intro i h1 h2
      simp [fm2]
      omega
theorem bit_at {x : W2} (h : WOk x) {i : Nat} (hi : i < x.2.length) : x.2[i] = 0 ∨ x.2[i] = 1 := h.bit _ (List.getElem_mem hi)
theorem sub_self {x : W2} (h : WOk x) : subW x x = zeroW := by
  unfold subW zeroW
  refine Prod.ext ?_ ?_
  · apply List.ext_getElem
    · simp [-List.reduceReplicate, h.l1]
    · intro i h1 h2
      simp [-List.reduceReplicate]
  · apply List.ext_getElem
    · simp [-List.reduceReplicate, h.l2]
    · intro i h1 h2
      have := bit_at h (i := i) (by simpa using h1)
      simp [-List.reduceReplicate, fm2]
      omega
theorem add_zero {x : W2} (h : WOk x) : addW x zeroW = x := by
  unfold addW zeroW
  refine Prod.ext ?_ ?_
  · apply List.ext_getElem
    · simp [-List.reduceReplicate, h.l1]
    · intro i h1 h2
      simp [-List.reduceReplicate]
  · apply List.ext_getElem
    · simp [-List.reduceReplicate, h.l2]
    · intro i h1 h2
      have := bit_at h h2
      simp [-List.reduceReplicate, fm2]
      omega
theorem zero_sub {x : W2} (h : WOk x) : subW zeroW x = negW x := by
  unfold subW negW zeroW
  refine Prod.ext ?_ ?_
  · apply List.ext_getElem
    · simp [-List.reduceReplicate, h.l1]
    · intro i h1 h2
      simp [-List.reduceReplicate]
  · apply List.ext_getElem
    · simp [-List.reduceReplicate, h.l2]
    · intro i h1 h2
      have := bit_at h h2
      simp [-List.reduceReplicate, fm2]
      omega
theorem neg_neg (x : W2) : negW (negW x) = x := by
  unfold negW
  refine Prod.ext ?_ rfl
  simp [Function.comp_def]
theorem bitmod (m b : Int) (hb : b = 0 ∨ b = 1) : (m * b) % 2 = if b = 0 then 0 else m % 2 := by
  rcases hb with rfl | rfl <;> simp
theorem mul_add {x y : W2} (m : Int) (hx : WOk x) (hy : WOk y) : addW (mulW m x) (mulW m y) = mulW m (addW x y) := by
  unfold addW mulW
  refine Prod.ext ?_ ?_
  · apply List.ext_getElem
    · simp
    · intro i h1 h2
      simp [Int.mul_add]
  · apply List.ext_getElem
    · simp
    · intro i h1 h2
      simp only [List.length_map, List.length_zipWith] at h2
      have a := bit_at hx (i := i) (by omega)
      have b := bit_at hy (i := i) (by omega)
      simp only [List.getElem_zipWith, List.getElem_map, fm2]
      rcases a with a | a <;> rcases b with b | b <;> rw [a, b] <;> simp <;> omega
theorem add_mul {x : W2} (n m : Int) (hx : WOk x) : addW (mulW n x) (mulW m x) = mulW (n + m) x := by
  unfold addW mulW
  refine Prod.ext ?_ ?_
  · apply List.ext_getElem
    · simp
    · intro i h1 h2
      simp [Int.add_mul]
  · apply List.ext_getElem
    · simp
    · intro i h1 h2
      simp only [List.length_map] at h2
      have a := bit_at hx (i := i) (by omega)
      simp only [List.getElem_zipWith, List.getElem_map, fm2]
      rcases a with a | a <;> rw [a] <;> simp
theorem mul_mul {x : W2} (n m : Int) (hx : WOk x) : mulW m (mulW n x) = mulW (n * m) x := by
  unfold mulW
  refine Prod.ext ?_ ?_
  · apply List.ext_getElem
    · simp
    · intro i h1 h2
      simp [Int.mul_comm n m, Int.mul_assoc]
  · apply List.ext_getElem
    · simp
    · intro i h1 h2
      simp only [List.length_map] at h2
      have a := bit_at hx (i := i) (by omega)
      simp only [List.getElem_map, fm2]
      rcases a with a | a <;> rw [a] <;> simp [Int.mul_emod, Int.mul_comm n m]
theorem mul_zero (n : Int) : mulW n zeroW = zeroW := by
  unfold mulW zeroW
  refine Prod.ext ?_ ?_ <;> simp
theorem zero_mul {x : W2} (h : WOk x) : mulW 0 x = zeroW := by
  unfold mulW zeroW
  refine Prod.ext ?_ ?_
  · apply List.ext_getElem
    · simp [-List.reduceReplicate, h.l1]
    · intro i h1 h2
      simp [-List.reduceReplicate]
  · apply List.ext_getElem
    · simp [-List.reduceReplicate, h.l2]
    · intro i h1 h2
      simp [-List.reduceReplicate]
theorem two_mul {x : W2} (h : WOk x) : mulW 2 x = addW x x := by
  unfold mulW addW
  refine Prod.ext ?_ ?_
  · apply List.ext_getElem
    · simp
    · intro i h1 h2
      simp
      omega
  · apply List.ext_getElem
    · simp
    · intro i h1 h2
      simp [fm2]
      omega
theorem all_zero : ∀ (ns : List Int) (n : Nat), ns.length = n → (ns.any (fun k => k != 0) = !decide (ns = List.replicate n 0))
  | [], n, h => by
    subst h
    simp
  | a :: ns, n, h => by
    subst h
    have ih := all_zero ns ns.length rfl
    simp only [List.any_cons, ih, List.length_cons, List.replicate_succ, List.cons.injEq]
    by_cases h1 : a = 0 <;> simp [h1]
theorem bool_zero {x : W2} (h : WOk x) : boolW x = !decide (x = zeroW) := by
  unfold boolW
  rw [all_zero _ _ h.l1, all_zero _ _ h.l2, dec_two]
  exact (Bool.not_and _ _).symm
theorem neg_same {x : W2} (h : WOk x) : decide (negW x = x) = decide (x.1 = List.replicate 15 0) := by
  rw [dec_two]
  have e2 : (negW x).2 = x.2 := rfl
  rw [e2, decide_eq_true (rfl : x.2 = x.2), Bool.and_true]
  congr 1
  apply propext
  constructor
  · intro e
    apply List.ext_getElem
    · simp [-List.reduceReplicate, h.l1]
    · intro i h1 h2
      have : (x.1.map (- ·))[i]? = x.1[i]? := by rw [show x.1.map (- ·) = x.1 from e]
      rw [List.getElem?_map, List.getElem?_eq_getElem h1] at this
      simp [-List.reduceReplicate] at this
      simp [-List.reduceReplicate]
      omega
  · intro e
    show x.1.map (- ·) = x.1
    rw [e]
    simp [-List.reduceReplicate]
end TL
namespace TL
open PySem L2

/-! ### steps of a reading -/
local macro_rules | `(tactic| walk_at "hp") => `(tactic| first | assumption | exact upd_same | (refine (upd_ne (by first | assumption | (exact Ne.symm (by assumption)))).trans ?_; walk_at "hp"))
local macro_rules | `(tactic| walk_at "ok") => `(tactic| first | (exact Or.inr ⟨by decide, by decide⟩) | (exact ⟨by decide, by decide⟩) | (exact ⟨by decide, by decide, by decide⟩) | (show _ ≠ _; omega) | (show _ ≠ _; decide) | (exact Or.inl ⟨by omega, by omega⟩) | decide)
local macro_rules | `(tactic| walk_at "sq") => `(tactic| first | assumption | exact SqL.of (by walk_at "hp") | exact SqT.of (by walk_at "hp"))
local macro_rules | `(tactic| walk_at "ty") => `(tactic| first | refine ⟨_, _, Value.type "int", Value.type "list", false, rfl, ClsV.ty _, TyX.base (TyOf.int _), kt_int_list, ?_⟩ | refine ⟨_, _, Value.type "bool", Value.type "list", false, rfl, ClsV.ty _, TyX.base (TyOf.bl _), kt_bool_list, ?_⟩ | refine ⟨_, _, Value.type "str", Value.type "list", false, rfl, ClsV.ty _, TyX.base (TyOf.str _), kt_str_list, ?_⟩ | refine ⟨_, _, Value.type "NoneType", Value.type "list", false, rfl, ClsV.ty _, TyX.base TyOf.non, kt_NoneType_list, ?_⟩ | refine ⟨_, _, Value.type "list", Value.type "list", true, rfl, ClsV.ty _, tyx_L (by walk_at "sq"), kt_list_list, ?_⟩ | refine ⟨_, _, Value.type "tuple", Value.type "list", false, rfl, ClsV.ty _, tyx_T (by walk_at "sq"), kt_tuple_list, ?_⟩ | refine ⟨_, _, Value.type "int", Value.type "tuple", false, rfl, ClsV.ty _, TyX.base (TyOf.int _), kt_int_tuple, ?_⟩ | refine ⟨_, _, Value.type "bool", Value.type "tuple", false, rfl, ClsV.ty _, TyX.base (TyOf.bl _), kt_bool_tuple, ?_⟩ | refine ⟨_, _, Value.type "str", Value.type "tuple", false, rfl, ClsV.ty _, TyX.base (TyOf.str _), kt_str_tuple, ?_⟩ | refine ⟨_, _, Value.type "NoneType", Value.type "tuple", false, rfl, ClsV.ty _, TyX.base TyOf.non, kt_NoneType_tuple, ?_⟩ | refine ⟨_, _, Value.type "list", Value.type "tuple", false, rfl, ClsV.ty _, tyx_L (by walk_at "sq"), kt_list_tuple, ?_⟩ | refine ⟨_, _, Value.type "tuple", Value.type "tuple", true, rfl, ClsV.ty _, tyx_T (by walk_at "sq"), kt_tuple_tuple, ?_⟩ | refine ⟨_, _, Value.type "int", Value.type "bool", false, rfl, ClsV.ty _, TyX.base (TyOf.int _), kt_int_bool, ?_⟩ | refine ⟨_, _, Value.type "bool", Value.type "bool", true, rfl, ClsV.ty _, TyX.base (TyOf.bl _), kt_bool_bool, ?_⟩ | refine ⟨_, _, Value.type "str", Value.type "bool", false, rfl, ClsV.ty _, TyX.base (TyOf.str _), kt_str_bool, ?_⟩ | refine ⟨_, _, Value.type "NoneType", Value.type "bool", false, rfl, ClsV.ty _, TyX.base TyOf.non, kt_NoneType_bool, ?_⟩ | refine ⟨_, _, Value.type "list", Value.type "bool", false, rfl, ClsV.ty _, tyx_L (by walk_at "sq"), kt_list_bool, ?_⟩ | refine ⟨_, _, Value.type "tuple", Value.type "bool", false, rfl, ClsV.ty _, tyx_T (by walk_at "sq"), kt_tuple_bool, ?_⟩ | refine ⟨_, _, Value.type "int", Value.type "int", true, rfl, ClsV.ty _, TyX.base (TyOf.int _), kt_int_int, ?_⟩ | refine ⟨_, _, Value.type "bool", Value.type "int", true, rfl, ClsV.ty _, TyX.base (TyOf.bl _), kt_bool_int, ?_⟩ | refine ⟨_, _, Value.type "str", Value.type "int", false, rfl, ClsV.ty _, TyX.base (TyOf.str _), kt_str_int, ?_⟩ | refine ⟨_, _, Value.type "NoneType", Value.type "int", false, rfl, ClsV.ty _, TyX.base TyOf.non, kt_NoneType_int, ?_⟩ | refine ⟨_, _, Value.type "list", Value.type "int", false, rfl, ClsV.ty _, tyx_L (by walk_at "sq"), kt_list_int, ?_⟩ | refine ⟨_, _, Value.type "tuple", Value.type "int", false, rfl, ClsV.ty _, tyx_T (by walk_at "sq"), kt_tuple_int, ?_⟩ | refine ⟨_, _, Value.type "int", Value.type "str", false, rfl, ClsV.ty _, TyX.base (TyOf.int _), kt_int_str, ?_⟩ | refine ⟨_, _, Value.type "bool", Value.type "str", false, rfl, ClsV.ty _, TyX.base (TyOf.bl _), kt_bool_str, ?_⟩ | refine ⟨_, _, Value.type "str", Value.type "str", true, rfl, ClsV.ty _, TyX.base (TyOf.str _), kt_str_str, ?_⟩ | refine ⟨_, _, Value.type "NoneType", Value.type "str", false, rfl, ClsV.ty _, TyX.base TyOf.non, kt_NoneType_str, ?_⟩ | refine ⟨_, _, Value.type "list", Value.type "str", false, rfl, ClsV.ty _, tyx_L (by walk_at "sq"), kt_list_str, ?_⟩ | refine ⟨_, _, Value.type "tuple", Value.type "str", false, rfl, ClsV.ty _, tyx_T (by walk_at "sq"), kt_tuple_str, ?_⟩)
local macro_rules | `(tactic| walk_at "go1") => `(tactic| first
  | (refine ⟨_, rfl, ?_⟩)
  | (refine ⟨_, _, rfl, rfl, ?_⟩)
  | (refine ⟨_, _, _, _, rfl, rfl, SqL.of (by walk_at "hp"), rfl, ?_⟩)
  | (refine Or.inl ⟨_, rfl, ?_⟩)
  | (refine ⟨rfl, ?_⟩)
  | (refine ⟨_, _, rfl, .inl (SqL.of (by walk_at "hp")), ?_⟩)
  | (refine ⟨_, _, rfl, Or.inl (by assumption), ?_⟩)
  | (refine ⟨_, _, rfl, Or.inr (by assumption), ?_⟩)
  | (refine ⟨(by walk_at "ok"), ?_⟩)
  | (refine ⟨_, _, _, _, rfl, rfl, (by walk_at "hp"), rfl, ?_⟩))
local macro_rules | `(tactic| walk_at "go") => `(tactic| repeat (walk_at "go1"))
local macro_rules | `(tactic| walk_at "gt") => `(tactic| repeat (first | walk_at "go1" | walk_at "ty"))

section
variable {P : Program} {w : World} {K : PySem.W.Frag} {mg : Str → Option Value} {base : Heap}
/-! ### the operators as they stand in the class -/
theorem o_add (T : Tx K mg) : OpAt K T.C_Wedge T.f_Wedge_add (PySem.dunder Operator.Add.info.2) := ⟨T.sf, by rw [d_add]; exact T.a_Wedge_add.at_, T.a_Wedge_add.fn⟩
theorem o_sub (T : Tx K mg) : OpAt K T.C_Wedge T.f_Wedge_sub (PySem.dunder Operator.Sub.info.2) := ⟨T.sf, by rw [d_sub]; exact T.a_Wedge_sub.at_, T.a_Wedge_sub.fn⟩
theorem o_mulI (T : Tx K mg) {X : Cx} {k : Nat} {sp : Sp} (F : FnOk X.prog X.w X.K X.mg X.base CX0 k T.f_Wedge_mul T.d_Wedge_mul ["self", "k"] sp) (hr : Room k X.A) (hK : X.K = K := by rfl) : OpR X (binaryOp .Mult) (rOwI T.C_Wedge sp E0) := by
  subst hK
  obtain ⟨fo, h1⟩ := T.iM
  obtain ⟨ro, h2⟩ := T.iR
  exact op_owI (op := .Mult) (g := T.f_Wedge_rmul) ⟨T.sf, by rw [d_mul]; exact T.a_Wedge_mul.at_, T.a_Wedge_mul.fn⟩ (by rw [d_rmul]; exact T.a_Wedge_rmul.at_) (by rw [d_mul]; exact h1) (by rw [d_rmul]; exact h2) T.sI F hr T.b_Wedge_mul pass0
theorem o_rmulI (T : Tx K mg) {X : Cx} {k : Nat} {sp : Sp} (F : FnOk X.prog X.w X.K X.mg X.base CX0 k T.f_Wedge_rmul T.d_Wedge_rmul ["self", "k"] sp) (hr : Room k X.A) (hK : X.K = K := by rfl) : OpR X (binaryOp .Mult) (rIOw T.C_Wedge sp E0) := by
  subst hK
  exact op_IOw (g := T.f_Wedge_mul) ⟨T.sf, by rw [d_rmul']; exact T.a_Wedge_rmul.at_, T.a_Wedge_rmul.fn⟩ (by rw [d_mul']; exact T.a_Wedge_mul.at_) T.sC F hr T.b_Wedge_rmul pass0
def spLaw (K : PySem.W.Frag) : Sp := fun vs H Q _ => ∃ (a : Addr) (ns : List Int), vs = [.ref a] ∧ SqL K H a (ns.map V.int) ∧ ns.length ≤ 63 ∧ ∀ H', Q (.bl true) H'
/-! ### what evaluates to which wedge -/
def EvW (K : PySem.W.Frag) (C : Addr) (te : TE) (σ : L2.St) (H : Hp) (x : W2) : Prop := ∀ H1, Same H H1 → ∀ Q : VK, (∀ p H2, Same H1 H2 → WAt K C H2 p x → Q (.ref p) H2) → te σ H1 Q
def EvI (te : TE) (σ : L2.St) (H : Hp) (n : Int) : Prop := ∀ H1, Same H H1 → ∀ Q : VK, (∀ H2, Same H1 H2 → Q (.int n) H2) → te σ H1 Q
def EvB (te : TE) (σ : L2.St) (H : Hp) (b : Bool) : Prop := ∀ H1, Same H H1 → ∀ Q : VK, (∀ H2, Same H1 H2 → Q (.bl b) H2) → te σ H1 Q
def EvL (te : TE) (σ : L2.St) (H : Hp) (x : W2) : Prop := ∀ H1, Same H H1 → ∀ Q : VK, (∀ p H2, Same H1 H2 → LW H2 p x → Q (.ref p) H2) → te σ H1 Q
section
variable {C : Addr} {σ : L2.St} {H : Hp} {ta tb te : TE} {x y : W2} {n m : Int} {E : XK}
theorem ew_var {i : Nat} {p : Addr} (h : σ[i]? = some (some (.ref p))) (hw : WAt K C H p x) : EvW K C (tVar i) σ H x := fun H1 s Q q => ⟨_, h, q p H1 (Same.refl _) (hw.same s)⟩
theorem ew_op {f : W2 → W2 → W2} (ha : EvW K C ta σ H x) (hb : EvW K C tb σ H y) : EvW K C (tOp (rOw C (spOp2 K C f) E) ta tb) σ H (f x y) := fun H1 s1 Q q =>
  ha H1 s1 _ fun p H2 s2 hp => hb H2 (s1.trans s2) _ fun r H3 s3 hr => by
    have hp3 := hp.same s3
    obtain ⟨dx, _, _, e, _⟩ := hp3.ex
    obtain ⟨dy, _, _, g, _⟩ := hr.ex
    exact ⟨p, dx, _, r, dy, _, rfl, rfl, e, g, p, r, x, y, rfl, hp3, hr, fun t H4 s4 ht => q t H4 ((s2.trans s3).trans s4) ht⟩
theorem ew_neg (ha : EvW K C ta σ H x) : EvW K C (tUn (rNeg C (spNegW K C) E) ta) σ H (negW x) := fun H1 s1 Q q =>
  ha H1 s1 _ fun p H2 s2 hp => by
    obtain ⟨dx, _, _, e, _⟩ := hp.ex
    exact ⟨p, dx, _, rfl, e, p, x, rfl, hp, fun t H4 s4 ht => q t H4 (s2.trans s4) ht⟩
theorem ew_mul (ha : EvW K C ta σ H x) (hb : EvI tb σ H n) (hs : Small n x) : EvW K C (tOp (rOwI C (spMulW K C) E) ta tb) σ H (mulW n x) := fun H1 s1 Q q =>
  ha H1 s1 _ fun p H2 s2 hp => hb H2 (s1.trans s2) _ fun H3 s3 => by
    have hp3 := hp.same s3
    obtain ⟨dx, _, _, e, _⟩ := hp3.ex
    exact ⟨p, dx, _, n, rfl, rfl, e, p, n, x, rfl, hp3, hs, fun t H4 s4 ht => q t H4 ((s2.trans s3).trans s4) ht⟩
theorem ew_rmul (hb : EvI tb σ H n) (ha : EvW K C ta σ H x) (hs : Small n x) : EvW K C (tOp (rIOw C (spMulW K C) E) tb ta) σ H (mulW n x) := fun H1 s1 Q q =>
  hb H1 s1 _ fun H2 s2 => ha H2 (s1.trans s2) _ fun p H3 s3 hp => by
    obtain ⟨dx, _, _, e, _⟩ := hp.ex
    exact ⟨p, dx, _, n, rfl, rfl, e, p, n, x, rfl, hp, hs, fun t H4 s4 ht => q t H4 ((s2.trans s3).trans s4) ht⟩
theorem ew_nothing : EvW K C (tCall (spNothing K C) [] E tNil) σ H zeroW := fun H1 s1 Q q => ⟨rfl, fun t H2 s2 ht => q t H2 s2 ht⟩
theorem ei_var {i : Nat} (h : σ[i]? = some (some (.int n))) : EvI (tVar i) σ H n := fun H1 s Q q => ⟨_, h, q H1 (Same.refl _)⟩
theorem ei_c : EvI (tC (.int n)) σ H n := fun H1 s Q q => q H1 (Same.refl _)
theorem ei_neg (ha : EvI ta σ H n) : EvI (tUn (rU fun i => .int (-i)) ta) σ H (-n) := fun H1 s Q q => ha H1 s _ fun H2 s2 => ⟨n, rfl, q H2 s2⟩
theorem ei_add (ha : EvI ta σ H n) (hb : EvI tb σ H m) : EvI (tOp (rI0 fun i j => .int (i + j)) ta tb) σ H (n + m) := fun H1 s Q q => ha H1 s _ fun H2 s2 => hb H2 (s.trans s2) _ fun H3 s3 => ⟨n, m, rfl, rfl, q H3 (s2.trans s3)⟩
theorem ei_mul (ha : EvI ta σ H n) (hb : EvI tb σ H m) (hc : CMul n m) : EvI (tOp (rI CMul fun i j => .int (i * j)) ta tb) σ H (n * m) := fun H1 s Q q => ha H1 s _ fun H2 s2 => hb H2 (s.trans s2) _ fun H3 s3 => ⟨n, m, rfl, rfl, hc, q H3 (s2.trans s3)⟩
theorem eb_c {b : Bool} : EvB (tC (.bl b)) σ H b := fun H1 s Q q => q H1 (Same.refl _)
theorem eb_eq (ha : EvW K C ta σ H x) (hb : EvW K C tb σ H y) : EvB (tOp (rOw C (spEqW K C) E) ta tb) σ H (decide (x = y)) := fun H1 s1 Q q =>
  ha H1 s1 _ fun p H2 s2 hp => hb H2 (s1.trans s2) _ fun r H3 s3 hr => by
    have hp3 := hp.same s3
    obtain ⟨dx, _, _, e, _⟩ := hp3.ex
    obtain ⟨dy, _, _, g, _⟩ := hr.ex
    exact ⟨p, dx, _, r, dy, _, rfl, rfl, e, g, p, r, x, y, rfl, hp3, hr, q H3 (s2.trans s3)⟩
theorem eb_bool (ha : EvW K C ta σ H x) : EvB (tCB (rBoolOw C (spBoolW K C) E) (tCons ta tNil)) σ H (boolW x) := fun H1 s1 Q q =>
  ha H1 s1 _ fun p H2 s2 hp => by
    obtain ⟨dx, _, _, e, _⟩ := hp.ex
    exact ⟨p, dx, _, rfl, e, p, x, rfl, hp, _, rfl, q H2 s2⟩
theorem el_var {i : Nat} {p : Addr} (h : σ[i]? = some (some (.ref p))) (hw : LW H p x) : EvL (tVar i) σ H x := fun H1 s Q q => ⟨_, h, q p H1 (Same.refl _) (hw.same s)⟩
theorem el_added (ha : EvL ta σ H x) (hb : EvL tb σ H y) : EvL (tCall spAdded [] E (tCons ta (tCons tb tNil))) σ H (addW x y) := fun H1 s1 Q q =>
  ha H1 s1 _ fun p H2 s2 hp => hb H2 (s1.trans s2) _ fun r H3 s3 hr => ⟨p, r, x, y, rfl, hp.same s3, hr, fun t H4 s4 ht => q t H4 ((s2.trans s3).trans s4) ht⟩
theorem el_opp (ha : EvL ta σ H x) : EvL (tCall spOpp [] E (tCons ta tNil)) σ H (negW x) := fun H1 s1 Q q =>
  ha H1 s1 _ fun p H2 s2 hp => ⟨p, x, rfl, hp, fun t H4 s4 ht => q t H4 (s2.trans s4) ht⟩
theorem el_times (ha : EvL ta σ H x) (hb : EvI tb σ H n) (hn : n.natAbs < 2 ^ 500) (hx : Bnd x) : EvL (tCall spTimes [] E (tCons ta (tCons tb tNil))) σ H (mulW n x) := fun H1 s1 Q q =>
  ha H1 s1 _ fun p H2 s2 hp => hb H2 (s1.trans s2) _ fun H3 s3 => ⟨p, x, n, rfl, hp.same s3, hn, hx, fun t H4 s4 ht => q t H4 ((s2.trans s3).trans s4) ht⟩
theorem el_none : EvL (tCall (fun vs H Q _ => vs = [] ∧ ∀ t H', Same H H' → LW H' t zeroW → Q (.ref t) H') [] E tNil) σ H zeroW := fun H1 s1 Q q => ⟨rfl, fun t H2 s2 ht => q t H2 s2 ht⟩
theorem el_zero : EvL (tTup (tCons (tOp rRep (tLst (tCons (tC (.int 0)) tNil)) (tC (.int 15))) (tCons (tOp rRep (tLst (tCons (tC (.int 0)) tNil)) (tC (.int 6))) tNil))) σ H zeroW := fun H1 s1 Q q => by
  refine ⟨(by show 1 ≤ sizeLine; decide), fun p hp => ⟨p, _, _, rfl, rfl, upd_same, by decide, by decide, by decide, fun a ha => ?_⟩⟩
  have s1 := (Same.new (o := .lst [V.int 0]) hp).trans (Same.new (o := .lst (zeroW.1.map V.int)) ha)
  refine ⟨(by show 1 ≤ sizeLine; decide), fun p2 hp2 => ⟨p2, _, _, rfl, rfl, upd_same, by decide, by decide, by decide, fun b hb => ?_⟩⟩
  have s2 := (Same.new (o := .lst [V.int 0]) hp2).trans (Same.new (o := .lst (zeroW.2.map V.int)) hb)
  exact LW.mk2 (wd := zeroW) zeroW_ok (s2 _ _ upd_same) upd_same fun t H' s3 ht => q t H' ((s1.trans s2).trans s3) ht
theorem Wds.same {H' : Hp} {ps : List V} {ws : List W2} (h : Wds K C H ps ws) (s : Same H H') : Wds K C H' ps ws := ⟨h.1, fun i p hp => by
  obtain ⟨t, wd, e1, e2, e3⟩ := h.2 i p hp
  exact ⟨t, wd, e1, e2, e3.same s⟩⟩
theorem Lws.same {H' : Hp} {ps : List V} {ws : List W2} (h : Lws H ps ws) (s : Same H H') : Lws H' ps ws := ⟨h.1, fun i p hp => by
  obtain ⟨t, wd, e1, e2, e3⟩ := h.2 i p hp
  exact ⟨t, wd, e1, e2, e3.same s⟩⟩
def EvWs (K : PySem.W.Frag) (C : Addr) (ta : TA) (σ : L2.St) (H : Hp) (ws : List W2) : Prop := ∀ H1, Same H H1 → ∀ Q : List V → Hp → Prop, (∀ ps H2, Same H1 H2 → Wds K C H2 ps ws → Q ps H2) → ta σ H1 Q
def EvLs (ta : TA) (σ : L2.St) (H : Hp) (ws : List W2) : Prop := ∀ H1, Same H H1 → ∀ Q : List V → Hp → Prop, (∀ ps H2, Same H1 H2 → Lws H2 ps ws → Q ps H2) → ta σ H1 Q
def EvBs (ta : TA) (σ : L2.St) (H : Hp) (bs : List Bool) : Prop := ∀ H1, Same H H1 → ∀ Q : List V → Hp → Prop, (∀ H2, Same H1 H2 → Q (bs.map V.bl) H2) → ta σ H1 Q
theorem ews_nil : EvWs K C tNil σ H [] := fun H1 s Q q => q [] H1 (Same.refl _) ⟨rfl, fun i p h => by cases h⟩
theorem ews_cons {tr : TA} {ws : List W2} (h : EvW K C te σ H x) (hr : EvWs K C tr σ H ws) : EvWs K C (tCons te tr) σ H (x :: ws) := fun H1 s1 Q q =>
  h H1 s1 _ fun p H2 s2 hp => hr H2 (s1.trans s2) _ fun ps H3 s3 hps => q (.ref p :: ps) H3 (s2.trans s3) ⟨by simp [hps.1], fun i r hr' => by
    match i, hr' with
    | 0, hr' => cases hr'; exact ⟨p, x, rfl, rfl, hp.same s3⟩
    | i + 1, hr' => exact hps.2 i r hr'⟩
theorem els_nil : EvLs tNil σ H [] := fun H1 s Q q => q [] H1 (Same.refl _) ⟨rfl, fun i p h => by cases h⟩
theorem els_cons {tr : TA} {ws : List W2} (h : EvL te σ H x) (hr : EvLs tr σ H ws) : EvLs (tCons te tr) σ H (x :: ws) := fun H1 s1 Q q =>
  h H1 s1 _ fun p H2 s2 hp => hr H2 (s1.trans s2) _ fun ps H3 s3 hps => q (.ref p :: ps) H3 (s2.trans s3) ⟨by simp [hps.1], fun i r hr' => by
    match i, hr' with
    | 0, hr' => cases hr'; exact ⟨p, x, rfl, rfl, hp.same s3⟩
    | i + 1, hr' => exact hps.2 i r hr'⟩
theorem ebs_nil : EvBs tNil σ H [] := fun H1 s Q q => q H1 (Same.refl _)
theorem ebs_cons {tr : TA} {b : Bool} {bs : List Bool} (h : EvB te σ H b) (hr : EvBs tr σ H bs) : EvBs (tCons te tr) σ H (b :: bs) := fun H1 s1 Q q =>
  h H1 s1 _ fun H2 s2 => hr H2 (s1.trans s2) _ fun H3 s3 => q H3 (s2.trans s3)
/-! ### the lists of the law -/
theorem eb_so_v {C : Addr} {σ : L2.St} {H : Hp} {i j : Nat} {p q : Addr} {ps qs : List V} {ws : List W2} {E : XK} (hi : σ[i]? = some (some (.ref p))) (hj : σ[j]? = some (some (.ref q))) (hp : H p = some (.lst ps)) (hq : H q = some (.lst qs)) (hw : Wds K C H ps ws) (hl : Lws H qs ws) (hz : ws.length ≤ 1000) : EvB (tCall (spAllSo K C) [] E (tCons (tVar i) (tCons (tVar j) tNil))) σ H true := fun H1 s1 Q k =>
  ⟨_, hi, _, hj, p, q, ps, qs, ws, rfl, SqL.of (s1 _ _ hp), SqL.of (s1 _ _ hq), hz, hw.same s1, hl.same s1, k⟩
theorem eb_so_l {C : Addr} {σ : L2.St} {H : Hp} {ta tb : TA} {ws : List W2} {E : XK} (ha : EvWs K C ta σ H ws) (hb : EvLs tb σ H ws) (hz : ws.length ≤ 1000) : EvB (tCall (spAllSo K C) [] E (tCons (tLst ta) (tCons (tLst tb) tNil))) σ H true := fun H1 s1 Q k =>
  ha H1 s1 _ fun ps H2 s2 hw => ⟨by rw [hw.1]; exact Nat.le_of_lt (Nat.lt_of_le_of_lt hz (by decide)), fun p hp =>
    have s3 := Same.new (o := .lst ps) hp
    hb _ ((s1.trans s2).trans s3) _ fun qs H4 s4 hl => ⟨by rw [hl.1]; exact Nat.le_of_lt (Nat.lt_of_le_of_lt hz (by decide)), fun q hq =>
      have s5 := Same.new (o := .lst qs) hq
      ⟨p, q, ps, qs, ws, rfl, SqL.of (s5 _ _ (s4 _ _ upd_same)), SqL.of upd_same, hz, hw.same ((s3.trans s4).trans s5), hl.same s5, fun H' s' => k H' ((((s2.trans s3).trans s4).trans s5).trans s')⟩⟩⟩
theorem eb_same {σ : L2.St} {H : Hp} {i j : Nat} {p q : Addr} {bs : List Bool} {E : XK} (hi : σ[i]? = some (some (.ref p))) (hj : σ[j]? = some (some (.ref q))) (hp : H p = some (.lst (bs.map V.bl))) (hq : H q = some (.lst (bs.map V.bl))) (hz : bs.length ≤ 1000) : EvB (tCall (spSame K 4) [] E (tCons (tVar i) (tCons (tVar j) tNil))) σ H true := fun H1 s1 Q k =>
  ⟨_, hi, _, hj, 1, _, _, rfl, by decide, .lst (SqL.of (s1 _ _ hp)) (SqL.of (s1 _ _ hq)) (by rw [List.length_map]; omega) rfl (fun i x y hx hy => by
    rw [hx] at hy
    cases hy
    rw [List.getElem?_map] at hx
    obtain ⟨b, _, rfl⟩ := Option.map_eq_some_iff.mp hx
    exact .bl b), k⟩
theorem eb_and {σ : L2.St} {H : Hp} {ta tb : TE} (ha : EvB ta σ H true) (hb : EvB tb σ H true) : EvB (tAndV ta tb) σ H true := fun H1 s1 Q k =>
  ha H1 s1 _ fun H2 s2 => ⟨true, rfl, hb H2 (s1.trans s2) Q fun H3 s3 => k H3 (s2.trans s3)⟩
theorem if_so {σ : L2.St} {H : Hp} {te : TE} {t rest : TS} {D : Ends} (h : EvB te σ H true) (k : ∀ H', Same H H' → rest D σ H') : tSeq (tIfS (tNot (tB te)) t tNext) rest D σ H :=
  h H (Same.refl _) _ fun H1 s1 => ⟨true, rfl, k H1 s1⟩
theorem if_so2 {σ : L2.St} {H : Hp} {ta tb : TE} {t rest : TS} {D : Ends} (ha : EvB ta σ H true) (hb : EvB tb σ H true) (k : ∀ H', Same H H' → rest D σ H') : tSeq (tIfS (tOr (tNot (tB ta)) (tNot (tB tb))) t tNext) rest D σ H :=
  ha H (Same.refl _) _ fun H1 s1 => ⟨true, rfl, hb H1 s1 _ fun H2 s2 => ⟨true, rfl, k H2 (s1.trans s2)⟩⟩
theorem ret_so {σ : L2.St} {H : Hp} {te : TE} {D : Ends} (h : EvB te σ H true) (k : ∀ H', D.rt (.bl true) H') : tRet te D σ H :=
  h H (Same.refl _) _ fun H1 _ => k H1
theorem dp_lw {H : Hp} {p : Addr} {x : W2} (h : LW H p x) : Dp K H (.ref p) (.tuple [.list (x.1.map PyData.int), .list (x.2.map PyData.int)]) := by
  obtain ⟨l1, l2, h1, h2, h3⟩ := h.ex
  exact .tup (SqT.of h1) (.cons (.lst (SqL.of h2) (dpAll_ints _)) (.cons (.lst (SqL.of h3) (dpAll_ints _)) .nil))
theorem eb_eqL {σ : L2.St} {H : Hp} {ta tb : TE} {x y : W2} (ha : EvL ta σ H x) (hb : EvL tb σ H y) : EvB (tOp (rEqD K) ta tb) σ H (decide (x = y)) := fun H1 s1 Q k =>
  ha H1 s1 _ fun p H2 s2 hp => hb H2 (s1.trans s2) _ fun r H3 s3 hr =>
    ⟨_, _, dp_lw (hp.same s3), dp_lw hr, shaped_two _ _, shaped_two _ _, by rw [eqv_two]; exact k H3 (s2.trans s3)⟩
theorem eb_neL {σ : L2.St} {H : Hp} {ta tb : TE} {x y : W2} (ha : EvL ta σ H x) (hb : EvL tb σ H y) : EvB (tOp (rNeD K) ta tb) σ H (!decide (x = y)) := fun H1 s1 Q k =>
  ha H1 s1 _ fun p H2 s2 hp => hb H2 (s1.trans s2) _ fun r H3 s3 hr =>
    ⟨_, _, dp_lw (hp.same s3), dp_lw hr, shaped_two _ _, shaped_two _ _, by rw [eqv_two]; exact k H3 (s2.trans s3)⟩
theorem told_set {C : Addr} {σ : L2.St} {H : Hp} {ta : TA} {rest : TS} {D : Ends} {i : Nat} {ws : List W2} (h : EvWs K C ta σ H ws) (hz : ws.length ≤ 1000) (k : ∀ ps p H', Same H H' → Wds K C H' ps ws → H' p = some (.lst ps) → rest D (σ.set i (some (.ref p))) H') : tSeq (tAsg (tLst ta) (gName i)) rest D σ H :=
  h H (Same.refl _) _ fun ps H1 s1 hw => ⟨by rw [hw.1]; exact Nat.le_of_lt (Nat.lt_of_le_of_lt hz (by decide)), fun p hp =>
    have s2 := Same.new (o := .lst ps) hp
    k ps p _ (s1.trans s2) (hw.same s2) upd_same⟩
theorem lv_set {σ : L2.St} {H : Hp} {te : TE} {rest : TS} {D : Ends} {i : Nat} {x : W2} (h : EvL te σ H x) (k : ∀ p H', Same H H' → LW H' p x → rest D (σ.set i (some (.ref p))) H') : tSeq (tAsg te (gName i)) rest D σ H :=
  h H (Same.refl _) _ fun p H1 s1 hw => k p H1 s1 hw
theorem dues_set {σ : L2.St} {H : Hp} {ta : TA} {rest : TS} {D : Ends} {i : Nat} {ws : List W2} (h : EvLs ta σ H ws) (hz : ws.length ≤ 1000) (k : ∀ ps p H', Same H H' → Lws H' ps ws → H' p = some (.lst ps) → rest D (σ.set i (some (.ref p))) H') : tSeq (tAsg (tLst ta) (gName i)) rest D σ H :=
  h H (Same.refl _) _ fun ps H1 s1 hw => ⟨by rw [hw.1]; exact Nat.le_of_lt (Nat.lt_of_le_of_lt hz (by decide)), fun p hp =>
    have s2 := Same.new (o := .lst ps) hp
    k ps p _ (s1.trans s2) (hw.same s2) upd_same⟩
theorem bls_set {σ : L2.St} {H : Hp} {ta : TA} {rest : TS} {D : Ends} {i : Nat} {bs : List Bool} (h : EvBs ta σ H bs) (hz : bs.length ≤ 1000) (k : ∀ p H', Same H H' → H' p = some (.lst (bs.map V.bl)) → rest D (σ.set i (some (.ref p))) H') : tSeq (tAsg (tLst ta) (gName i)) rest D σ H :=
  h H (Same.refl _) _ fun H1 s1 => ⟨by rw [List.length_map]; exact Nat.le_of_lt (Nat.lt_of_le_of_lt hz (by decide)), fun p hp =>
    k p _ (s1.trans (Same.new (o := .lst (bs.map V.bl)) hp)) upd_same⟩
theorem dues_cat {σ : L2.St} {H : Hp} {ta : TA} {rest : TS} {D : Ends} {i j : Nat} {d : Addr} {qs : List V} {vs ws : List W2} (hv : σ[j]? = some (some (.ref d))) (hd : H d = some (.lst qs)) (hq : Lws H qs vs) (h : EvLs ta σ H ws) (hz : vs.length ≤ 1000) (hz2 : ws.length ≤ 1000)
    (k : ∀ ps p H', Same H H' → Lws H' ps (vs ++ ws) → H' p = some (.lst ps) → rest D (σ.set i (some (.ref p))) H') : tSeq (tAsg (tOp rCat (tVar j) (tLst ta)) (gName i)) rest D σ H :=
  ⟨_, hv, h H (Same.refl _) _ fun ps H1 s1 hw => ⟨by rw [hw.1]; exact Nat.le_of_lt (Nat.lt_of_le_of_lt hz2 (by decide)), fun p hp => by
    have s2 := Same.new (o := .lst ps) hp
    refine ⟨d, p, qs, ps, rfl, rfl, s2 _ _ (s1 _ _ hd), upd_same, ?_, fun r hr => ?_⟩
    · rw [hw.1, hq.1]
      exact Nat.le_of_lt (Nat.lt_of_le_of_lt (show vs.length + ws.length ≤ 2000 by omega) (by decide))
    · have s3 := Same.new (o := .lst (qs ++ ps)) hr
      have sA := (s1.trans s2).trans s3
      refine k (qs ++ ps) r _ sA ?_ upd_same
      have a := hq.same sA
      have b := hw.same (s2.trans s3)
      refine ⟨by rw [List.length_append, List.length_append, a.1, b.1], fun t v hv => ?_⟩
      rcases Nat.lt_or_ge t qs.length with q | q
      · rw [List.getElem?_append_left q] at hv
        rw [List.getElem?_append_left (by rw [← a.1]; exact q)]
        exact a.2 t v hv
      · rw [List.getElem?_append_right q] at hv
        rw [List.getElem?_append_right (by rw [← a.1]; exact q), ← a.1]
        exact b.2 _ v hv⟩⟩
end
end
end TL
namespace TL
open PySem L2

/-! ### steps of a reading -/
local macro_rules | `(tactic| walk_at "hp") => `(tactic| first | assumption | exact upd_same | (refine (upd_ne (by first | assumption | (exact Ne.symm (by assumption)))).trans ?_; walk_at "hp"))
local macro_rules | `(tactic| walk_at "ok") => `(tactic| first | (exact Or.inr ⟨by decide, by decide⟩) | (exact ⟨by decide, by decide⟩) | (exact ⟨by decide, by decide, by decide⟩) | (show _ ≠ _; omega) | (show _ ≠ _; decide) | (exact Or.inl ⟨by omega, by omega⟩) | decide)
local macro_rules | `(tactic| walk_at "sq") => `(tactic| first | assumption | exact SqL.of (by walk_at "hp") | exact SqT.of (by walk_at "hp"))
local macro_rules | `(tactic| walk_at "ty") => `(tactic| first | refine ⟨_, _, Value.type "int", Value.type "list", false, rfl, ClsV.ty _, TyX.base (TyOf.int _), kt_int_list, ?_⟩ | refine ⟨_, _, Value.type "bool", Value.type "list", false, rfl, ClsV.ty _, TyX.base (TyOf.bl _), kt_bool_list, ?_⟩ | refine ⟨_, _, Value.type "str", Value.type "list", false, rfl, ClsV.ty _, TyX.base (TyOf.str _), kt_str_list, ?_⟩ | refine ⟨_, _, Value.type "NoneType", Value.type "list", false, rfl, ClsV.ty _, TyX.base TyOf.non, kt_NoneType_list, ?_⟩ | refine ⟨_, _, Value.type "list", Value.type "list", true, rfl, ClsV.ty _, tyx_L (by walk_at "sq"), kt_list_list, ?_⟩ | refine ⟨_, _, Value.type "tuple", Value.type "list", false, rfl, ClsV.ty _, tyx_T (by walk_at "sq"), kt_tuple_list, ?_⟩ | refine ⟨_, _, Value.type "int", Value.type "tuple", false, rfl, ClsV.ty _, TyX.base (TyOf.int _), kt_int_tuple, ?_⟩ | refine ⟨_, _, Value.type "bool", Value.type "tuple", false, rfl, ClsV.ty _, TyX.base (TyOf.bl _), kt_bool_tuple, ?_⟩ | refine ⟨_, _, Value.type "str", Value.type "tuple", false, rfl, ClsV.ty _, TyX.base (TyOf.str _), kt_str_tuple, ?_⟩ | refine ⟨_, _, Value.type "NoneType", Value.type "tuple", false, rfl, ClsV.ty _, TyX.base TyOf.non, kt_NoneType_tuple, ?_⟩ | refine ⟨_, _, Value.type "list", Value.type "tuple", false, rfl, ClsV.ty _, tyx_L (by walk_at "sq"), kt_list_tuple, ?_⟩ | refine ⟨_, _, Value.type "tuple", Value.type "tuple", true, rfl, ClsV.ty _, tyx_T (by walk_at "sq"), kt_tuple_tuple, ?_⟩ | refine ⟨_, _, Value.type "int", Value.type "bool", false, rfl, ClsV.ty _, TyX.base (TyOf.int _), kt_int_bool, ?_⟩ | refine ⟨_, _, Value.type "bool", Value.type "bool", true, rfl, ClsV.ty _, TyX.base (TyOf.bl _), kt_bool_bool, ?_⟩ | refine ⟨_, _, Value.type "str", Value.type "bool", false, rfl, ClsV.ty _, TyX.base (TyOf.str _), kt_str_bool, ?_⟩ | refine ⟨_, _, Value.type "NoneType", Value.type "bool", false, rfl, ClsV.ty _, TyX.base TyOf.non, kt_NoneType_bool, ?_⟩ | refine ⟨_, _, Value.type "list", Value.type "bool", false, rfl, ClsV.ty _, tyx_L (by walk_at "sq"), kt_list_bool, ?_⟩ | refine ⟨_, _, Value.type "tuple", Value.type "bool", false, rfl, ClsV.ty _, tyx_T (by walk_at "sq"), kt_tuple_bool, ?_⟩ | refine ⟨_, _, Value.type "int", Value.type "int", true, rfl, ClsV.ty _, TyX.base (TyOf.int _), kt_int_int, ?_⟩ | refine ⟨_, _, Value.type "bool", Value.type "int", true, rfl, ClsV.ty _, TyX.base (TyOf.bl _), kt_bool_int, ?_⟩ | refine ⟨_, _, Value.type "str", Value.type "int", false, rfl, ClsV.ty _, TyX.base (TyOf.str _), kt_str_int, ?_⟩ | refine ⟨_, _, Value.type "NoneType", Value.type "int", false, rfl, ClsV.ty _, TyX.base TyOf.non, kt_NoneType_int, ?_⟩ | refine ⟨_, _, Value.type "list", Value.type "int", false, rfl, ClsV.ty _, tyx_L (by walk_at "sq"), kt_list_int, ?_⟩ | refine ⟨_, _, Value.type "tuple", Value.type "int", false, rfl, ClsV.ty _, tyx_T (by walk_at "sq"), kt_tuple_int, ?_⟩ | refine ⟨_, _, Value.type "int", Value.type "str", false, rfl, ClsV.ty _, TyX.base (TyOf.int _), kt_int_str, ?_⟩ | refine ⟨_, _, Value.type "bool", Value.type "str", false, rfl, ClsV.ty _, TyX.base (TyOf.bl _), kt_bool_str, ?_⟩ | refine ⟨_, _, Value.type "str", Value.type "str", true, rfl, ClsV.ty _, TyX.base (TyOf.str _), kt_str_str, ?_⟩ | refine ⟨_, _, Value.type "NoneType", Value.type "str", false, rfl, ClsV.ty _, TyX.base TyOf.non, kt_NoneType_str, ?_⟩ | refine ⟨_, _, Value.type "list", Value.type "str", false, rfl, ClsV.ty _, tyx_L (by walk_at "sq"), kt_list_str, ?_⟩ | refine ⟨_, _, Value.type "tuple", Value.type "str", false, rfl, ClsV.ty _, tyx_T (by walk_at "sq"), kt_tuple_str, ?_⟩)
local macro_rules | `(tactic| walk_at "go1") => `(tactic| first
  | (refine ⟨_, rfl, ?_⟩)
  | (refine ⟨_, _, rfl, rfl, ?_⟩)
  | (refine ⟨_, _, _, _, rfl, rfl, SqL.of (by walk_at "hp"), rfl, ?_⟩)
  | (refine Or.inl ⟨_, rfl, ?_⟩)
  | (refine ⟨rfl, ?_⟩)
  | (refine ⟨_, _, rfl, .inl (SqL.of (by walk_at "hp")), ?_⟩)
  | (refine ⟨_, _, rfl, Or.inl (by assumption), ?_⟩)
  | (refine ⟨_, _, rfl, Or.inr (by assumption), ?_⟩)
  | (refine ⟨(by walk_at "ok"), ?_⟩)
  | (refine ⟨_, _, _, _, rfl, rfl, (by walk_at "hp"), rfl, ?_⟩))
local macro_rules | `(tactic| walk_at "go") => `(tactic| repeat (walk_at "go1"))
local macro_rules | `(tactic| walk_at "gt") => `(tactic| repeat (first | walk_at "go1" | walk_at "ty"))

section
variable {P : Program} {w : World} {K : PySem.W.Frag} {mg : Str → Option Value} {base : Heap}
theorem among {n : Int} (h : n ∈ [0, 1, 2, 3, -1, -2, -3, 10 ^ 30, -10 ^ 30 - 1, 7]) : n.natAbs < 2 ^ 101 := by
  revert n
  decide
theorem WAt.kb {C : Addr} {B : Bg} {H H' : Hp} {p : Addr} {x : W2} (h : WAt K C H p x) (hB : Bag B H) (k : Kb B.b H H') : WAt K C H' p x := by
  obtain ⟨dx, t1, t2, h1, h2, h3⟩ := h.ex
  obtain ⟨i, r, s, c, hb, _⟩ := hB.ex
  exact ⟨⟨dx, t1, t2, k _ _ h1 (ne_of h1 hb (by intro z; cases z)), seqT_kb hb k h2, seqT_kb hb k h3⟩, h.ok⟩
local macro_rules | `(tactic| walk_at "evw") => `(tactic| repeat (first | exact ews_nil | exact ew_var rfl (by assumption) | exact ew_nothing | exact ei_var rfl | exact ei_c | apply ei_neg | apply ews_cons | apply ew_op | apply ew_neg | refine ew_mul ?_ ?_ (by assumption) | refine ew_rmul ?_ ?_ (by assumption)))
local macro_rules | `(tactic| walk_at "elw") => `(tactic| repeat (first | exact els_nil | exact el_var rfl (by assumption) | exact el_none | exact el_zero | exact ei_var rfl | exact ei_c | apply ei_neg | apply ei_add | refine ei_mul ?_ ?_ (by assumption) | apply els_cons | apply el_added | apply el_opp | refine el_times ?_ ?_ (by assumption) (by assumption)))
theorem ok_law (T : Tx K mg) : FnOk P w K mg base CX0 7 T.f_law T.d_law ["_law_script"] (spLaw K) := by
  have G_l_bag := ok_bag (P := P) (w := w) (base := base) T
  have G_l_draw := ok_draw (P := P) (w := w) (base := base) T
  have G_l_of := ok_of (P := P) (w := w) (base := base) T
  have G_l_same := ok_same (P := P) (w := w) (base := base) T 4
  have G_l_wedge_drawn := ok_l_drawn (P := P) (w := w) (base := base) T
  have G_l_opposite := ok_l_opp (P := P) (w := w) (base := base) T
  have G_l_added := ok_l_added (P := P) (w := w) (base := base) T
  have G_l_times := ok_l_times (P := P) (w := w) (base := base) T
  have G_l_none := ok_l_none (P := P) (w := w) (base := base) T
  have G_l_wedge_made := ok_l_made (P := P) (w := w) (base := base) T
  have G_l_all_so := ok_l_all_so (P := P) (w := w) (base := base) T
  have G_nothing := ok_nothing (P := P) (w := w) (base := base) T
  have G_Wedge_add := ok_add (P := P) (w := w) (base := base) T
  have G_Wedge_sub := ok_sub (P := P) (w := w) (base := base) T
  have G_Wedge_neg := ok_neg (P := P) (w := w) (base := base) T
  have G_Wedge_mul := ok_mul (P := P) (w := w) (base := base) T
  have G_Wedge_rmul := ok_rmul (P := P) (w := w) (base := base) T
  have G_Wedge_eq := ok_eq (P := P) (w := w) (base := base) T
  have G_Wedge_bool := ok_bool (P := P) (w := w) (base := base) T
  refine T.F_law.ok sc_law (fun vs H Q E h => ?_) (fun cdv A outer s H vs Q E hr h => ?_)
  · obtain ⟨a, ns, rfl, _⟩ := h
    rfl
  obtain ⟨a, ns, rfl, hS, h63, q⟩ := h
  have nd := sc_law.nd
  refine ⟨_, (pss_cons (ps_set (i := 1) nd rfl (Or.inl rfl) (pe_call G_l_bag (hr.mono (by decide)) (by rfl) T.m_l_bag T.F_l_bag.kp T.b_l_bag .nil pass0 (pa_cons (pv 0) pa_nil)))
    (pss_cons (ps_par3 (i := 2) (j := 3) (l := 4) rfl nd rfl rfl rfl (by decide) (by decide) (by decide) rfl rfl rfl (pa_cons (pe_call G_l_wedge_drawn (hr.mono (by decide)) (by rfl) T.m_l_wedge_drawn T.F_l_wedge_drawn.kp T.b_l_wedge_drawn .nil pass0 (pa_cons (pv 1) pa_nil)) (pa_cons (pe_call G_l_wedge_drawn (hr.mono (by decide)) (by rfl) T.m_l_wedge_drawn T.F_l_wedge_drawn.kp T.b_l_wedge_drawn .nil pass0 (pa_cons (pv 1) pa_nil)) (pa_cons (pe_call G_l_wedge_drawn (hr.mono (by decide)) (by rfl) T.m_l_wedge_drawn T.F_l_wedge_drawn.kp T.b_l_wedge_drawn .nil pass0 (pa_cons (pv 1) pa_nil)) pa_nil))) rfl)
    (pss_cut (ps_if (pt_cmpR op_eq (pe_call G_l_draw (hr.mono (by decide)) (by rfl) T.m_l_draw T.F_l_draw.kp T.b_l_draw .nil pass0 (pa_cons (pv 1) (pa_cons pe_int pa_nil))) pe_int (nomark _)) (pss_one (ps_set (i := 3) nd rfl (Or.inl rfl) (pe_tup (pa_cons (pe_ix (show IxR _ (rIxT K) from ix_tup) (pe_call G_l_opposite (hr.mono (by decide)) (by rfl) T.m_l_opposite T.F_l_opposite.kp T.b_l_opposite .nil pass0 (pa_cons (pv 2) pa_nil)) pe_int (fun _ _ => rfl)) (pa_cons (pe_callTy (show CallR _ _ (rListOf K) from call_list_of) (by rfl) T.z_list (by decide +kernel) (pa_cons (pe_ix (show IxR _ (rIxT K) from ix_tup) (pv 3) pe_int (fun _ _ => rfl)) pa_nil)) pa_nil))))) pss_nil)
    (pss_cons (ps_par3 (i := 5) (j := 6) (l := 7) rfl nd rfl rfl rfl (by decide) (by decide) (by decide) rfl rfl rfl (pa_cons (pe_call G_l_wedge_made hr (by rfl) T.m_l_wedge_made T.F_l_wedge_made.kp T.b_l_wedge_made .nil pass0 (pa_cons (pv 2) pa_nil)) (pa_cons (pe_call G_l_wedge_made hr (by rfl) T.m_l_wedge_made T.F_l_wedge_made.kp T.b_l_wedge_made .nil pass0 (pa_cons (pv 3) pa_nil)) (pa_cons (pe_call G_l_wedge_made hr (by rfl) T.m_l_wedge_made T.F_l_wedge_made.kp T.b_l_wedge_made .nil pass0 (pa_cons (pv 4) pa_nil)) pa_nil))) rfl)
    (pss_cons (ps_par (i := 8) (j := 9) rfl nd rfl rfl (by decide) rfl rfl (pa_cons (pe_call G_l_of (hr.mono (by decide)) (by rfl) T.m_l_of T.F_l_of.kp T.b_l_of .nil pass0 (pa_cons (pv 1) (pa_cons (pe_lst (pa_cons pe_int (pa_cons pe_int (pa_cons pe_int (pa_cons pe_int (pa_cons (pe_un un_neg pe_int) (pa_cons (pe_un un_neg pe_int) (pa_cons (pe_un un_neg pe_int) (pa_cons (pe_op op_pow pe_int pe_int) (pa_cons (pe_op op_sub (pe_un un_neg (pe_op op_pow pe_int pe_int)) pe_int) (pa_cons pe_int pa_nil))))))))))) pa_nil))) (pa_cons (pe_op op_sub (pe_call G_l_draw (hr.mono (by decide)) (by rfl) T.m_l_draw T.F_l_draw.kp T.b_l_draw .nil pass0 (pa_cons (pv 1) (pa_cons pe_int pa_nil))) pe_int) pa_nil)) rfl)
    (pss_cons (ps_set (i := 10) nd rfl (Or.inl rfl) (pe_call G_l_added (hr.mono (by decide)) (by rfl) T.m_l_added T.F_l_added.kp T.b_l_added .nil pass0 (pa_cons (pv 2) (pa_cons (pv 3) pa_nil))))
    (pss_cons (ps_set (i := 11) nd rfl (Or.inl rfl) (pe_lst (pa_cons (pe_op (op_ow (op := .Add) (o_add T) G_Wedge_add hr T.b_Wedge_add pass0) (pv 5) (pv 6)) (pa_cons (pe_op (op_ow (op := .Add) (o_add T) G_Wedge_add hr T.b_Wedge_add pass0) (pv 6) (pv 5)) (pa_cons (pe_op (op_ow (op := .Sub) (o_sub T) G_Wedge_sub hr T.b_Wedge_sub pass0) (pv 5) (pv 6)) (pa_cons (pe_un (un_ow T.a_Wedge_neg.at_ T.a_Wedge_neg.fn G_Wedge_neg hr T.b_Wedge_neg pass0) (pv 5)) (pa_cons (pe_op (op_ow (op := .Add) (o_add T) G_Wedge_add hr T.b_Wedge_add pass0) (pe_op (op_ow (op := .Add) (o_add T) G_Wedge_add hr T.b_Wedge_add pass0) (pv 5) (pv 6)) (pv 7)) (pa_cons (pe_op (op_ow (op := .Add) (o_add T) G_Wedge_add hr T.b_Wedge_add pass0) (pv 5) (pe_op (op_ow (op := .Add) (o_add T) G_Wedge_add hr T.b_Wedge_add pass0) (pv 6) (pv 7))) (pa_cons (pe_op (op_ow (op := .Sub) (o_sub T) G_Wedge_sub hr T.b_Wedge_sub pass0) (pv 5) (pv 5)) (pa_cons (pe_op (op_ow (op := .Add) (o_add T) G_Wedge_add hr T.b_Wedge_add pass0) (pv 5) (pe_call0 G_nothing hr (by rfl) T.m_nothing T.F_nothing.kp T.b_nothing .nil pass0)) (pa_cons (pe_op (op_ow (op := .Sub) (o_sub T) G_Wedge_sub hr T.b_Wedge_sub pass0) (pe_call0 G_nothing hr (by rfl) T.m_nothing T.F_nothing.kp T.b_nothing .nil pass0) (pv 5)) (pa_cons (pe_un (un_ow T.a_Wedge_neg.at_ T.a_Wedge_neg.fn G_Wedge_neg hr T.b_Wedge_neg pass0) (pe_un (un_ow T.a_Wedge_neg.at_ T.a_Wedge_neg.fn G_Wedge_neg hr T.b_Wedge_neg pass0) (pv 5))) pa_nil))))))))))))
    (pss_cons (ps_set (i := 12) nd rfl (Or.inl rfl) (pe_lst (pa_cons (pv 10) (pa_cons (pv 10) (pa_cons (pe_call G_l_added (hr.mono (by decide)) (by rfl) T.m_l_added T.F_l_added.kp T.b_l_added .nil pass0 (pa_cons (pv 2) (pa_cons (pe_call G_l_opposite (hr.mono (by decide)) (by rfl) T.m_l_opposite T.F_l_opposite.kp T.b_l_opposite .nil pass0 (pa_cons (pv 3) pa_nil)) pa_nil))) (pa_cons (pe_call G_l_opposite (hr.mono (by decide)) (by rfl) T.m_l_opposite T.F_l_opposite.kp T.b_l_opposite .nil pass0 (pa_cons (pv 2) pa_nil)) (pa_cons (pe_call G_l_added (hr.mono (by decide)) (by rfl) T.m_l_added T.F_l_added.kp T.b_l_added .nil pass0 (pa_cons (pv 10) (pa_cons (pv 4) pa_nil))) (pa_cons (pe_call G_l_added (hr.mono (by decide)) (by rfl) T.m_l_added T.F_l_added.kp T.b_l_added .nil pass0 (pa_cons (pv 10) (pa_cons (pv 4) pa_nil))) pa_nil))))))))
    (pss_cons (ps_set (i := 12) nd rfl (Or.inl rfl) (pe_op op_cat (pv 12) (pe_lst (pa_cons (pe_tup (pa_cons (pe_op op_rep (pe_lst (pa_cons pe_int pa_nil)) pe_int) (pa_cons (pe_op op_rep (pe_lst (pa_cons pe_int pa_nil)) pe_int) pa_nil))) (pa_cons (pv 2) (pa_cons (pe_call G_l_opposite (hr.mono (by decide)) (by rfl) T.m_l_opposite T.F_l_opposite.kp T.b_l_opposite .nil pass0 (pa_cons (pv 2) pa_nil)) (pa_cons (pv 2) pa_nil)))))))
    (pss_cons (ps_if (pt_not (pt_val (pe_call G_l_all_so (hr.mono (by decide)) (by rfl) T.m_l_all_so T.F_l_all_so.kp T.b_l_all_so .nil pass0 (pa_cons (pv 11) (pa_cons (pv 12) pa_nil))))) (pss_one (ps_ret pe_bl)) pss_nil)
    (pss_cons (ps_set (i := 11) nd rfl (Or.inl rfl) (pe_lst (pa_cons (pe_op (o_mulI T G_Wedge_mul hr) (pv 5) (pv 8)) (pa_cons (pe_op (o_rmulI T G_Wedge_rmul hr) (pv 8) (pv 5)) (pa_cons (pe_op (o_rmulI T G_Wedge_rmul hr) (pv 9) (pe_op (op_ow (op := .Add) (o_add T) G_Wedge_add hr T.b_Wedge_add pass0) (pv 5) (pv 6))) (pa_cons (pe_op (op_ow (op := .Add) (o_add T) G_Wedge_add hr T.b_Wedge_add pass0) (pe_op (o_mulI T G_Wedge_mul hr) (pv 5) (pv 9)) (pe_op (o_mulI T G_Wedge_mul hr) (pv 6) (pv 9))) (pa_cons (pe_op (o_mulI T G_Wedge_mul hr) (pe_op (op_ow (op := .Add) (o_add T) G_Wedge_add hr T.b_Wedge_add pass0) (pv 5) (pv 6)) (pe_un un_neg pe_int)) (pa_cons (pe_op (op_ow (op := .Add) (o_add T) G_Wedge_add hr T.b_Wedge_add pass0) (pe_op (o_rmulI T G_Wedge_rmul hr) (pv 8) (pv 5)) (pe_op (o_rmulI T G_Wedge_rmul hr) (pv 9) (pv 5))) (pa_cons (pe_op (o_rmulI T G_Wedge_rmul hr) (pv 9) (pe_op (o_rmulI T G_Wedge_rmul hr) (pv 8) (pv 6))) (pa_cons (pe_op (o_mulI T G_Wedge_mul hr) (pe_call0 G_nothing hr (by rfl) T.m_nothing T.F_nothing.kp T.b_nothing .nil pass0) (pv 8)) (pa_cons (pe_op (o_mulI T G_Wedge_mul hr) (pv 5) pe_int) pa_nil)))))))))))
    (pss_cons (ps_set (i := 12) nd rfl (Or.inl rfl) (pe_lst (pa_cons (pe_call G_l_times (hr.mono (by decide)) (by rfl) T.m_l_times T.F_l_times.kp T.b_l_times .nil pass0 (pa_cons (pv 2) (pa_cons (pv 8) pa_nil))) (pa_cons (pe_call G_l_times (hr.mono (by decide)) (by rfl) T.m_l_times T.F_l_times.kp T.b_l_times .nil pass0 (pa_cons (pv 2) (pa_cons (pv 8) pa_nil))) (pa_cons (pe_call G_l_times (hr.mono (by decide)) (by rfl) T.m_l_times T.F_l_times.kp T.b_l_times .nil pass0 (pa_cons (pv 10) (pa_cons (pv 9) pa_nil))) (pa_cons (pe_call G_l_times (hr.mono (by decide)) (by rfl) T.m_l_times T.F_l_times.kp T.b_l_times .nil pass0 (pa_cons (pv 10) (pa_cons (pv 9) pa_nil))) (pa_cons (pe_call G_l_times (hr.mono (by decide)) (by rfl) T.m_l_times T.F_l_times.kp T.b_l_times .nil pass0 (pa_cons (pv 10) (pa_cons (pe_un un_neg pe_int) pa_nil))) pa_nil)))))))
    (pss_cons (ps_set (i := 12) nd rfl (Or.inl rfl) (pe_op op_cat (pv 12) (pe_lst (pa_cons (pe_call G_l_times (hr.mono (by decide)) (by rfl) T.m_l_times T.F_l_times.kp T.b_l_times .nil pass0 (pa_cons (pv 2) (pa_cons (pe_op op_add (pv 8) (pv 9)) pa_nil))) (pa_cons (pe_call G_l_times (hr.mono (by decide)) (by rfl) T.m_l_times T.F_l_times.kp T.b_l_times .nil pass0 (pa_cons (pv 3) (pa_cons (pe_op op_mul (pv 8) (pv 9)) pa_nil))) (pa_cons (pe_call0 G_l_none (hr.mono (by decide)) (by rfl) T.m_l_none T.F_l_none.kp T.b_l_none .nil pass0) (pa_cons (pe_call0 G_l_none (hr.mono (by decide)) (by rfl) T.m_l_none T.F_l_none.kp T.b_l_none .nil pass0) pa_nil)))))))
    (pss_cons (ps_if (PW.pt (pw_or (pt_not (pt_val (pe_call G_l_all_so (hr.mono (by decide)) (by rfl) T.m_l_all_so T.F_l_all_so.kp T.b_l_all_so .nil pass0 (pa_cons (pv 11) (pa_cons (pv 12) pa_nil))))) (pw_or1 (pt_not (pt_val (pe_call G_l_all_so (hr.mono (by decide)) (by rfl) T.m_l_all_so T.F_l_all_so.kp T.b_l_all_so .nil pass0 (pa_cons (pe_lst (pa_cons (pv 5) (pa_cons (pv 6) (pa_cons (pv 7) (pa_cons (pe_call0 G_nothing hr (by rfl) T.m_nothing T.F_nothing.kp T.b_nothing .nil pass0) pa_nil))))) (pa_cons (pe_lst (pa_cons (pv 2) (pa_cons (pv 3) (pa_cons (pv 4) (pa_cons (pe_call0 G_l_none (hr.mono (by decide)) (by rfl) T.m_l_none T.F_l_none.kp T.b_l_none .nil pass0) pa_nil))))) pa_nil)))))))) (pss_one (ps_ret pe_bl)) pss_nil)
    (pss_cons (ps_set (i := 11) nd rfl (Or.inl rfl) (pe_lst (pa_cons (pe_cmpR (op_owEq T.a_Wedge_eq.at_ T.a_Wedge_eq.fn G_Wedge_eq (hr.mono (by decide)) T.b_Wedge_eq pass0) (pe_op (op_ow (op := .Add) (o_add T) G_Wedge_add hr T.b_Wedge_add pass0) (pv 5) (pv 6)) (pe_op (op_ow (op := .Add) (o_add T) G_Wedge_add hr T.b_Wedge_add pass0) (pv 6) (pv 5)) (nomark _)) (pa_cons (pe_cmpR (op_owEq T.a_Wedge_eq.at_ T.a_Wedge_eq.fn G_Wedge_eq (hr.mono (by decide)) T.b_Wedge_eq pass0) (pe_op (op_ow (op := .Sub) (o_sub T) G_Wedge_sub hr T.b_Wedge_sub pass0) (pv 5) (pv 5)) (pe_call0 G_nothing hr (by rfl) T.m_nothing T.F_nothing.kp T.b_nothing .nil pass0) (nomark _)) (pa_cons (pe_callTy (call_boolOw T.a_Wedge_bool.at_ T.a_Wedge_bool.fn G_Wedge_bool (hr.mono (by decide)) T.b_Wedge_bool pass0) (by rfl) T.z_bool (by decide +kernel) (pa_cons (pe_op (op_ow (op := .Sub) (o_sub T) G_Wedge_sub hr T.b_Wedge_sub pass0) (pv 5) (pv 5)) pa_nil)) (pa_cons (pe_cmpR (op_owEq T.a_Wedge_eq.at_ T.a_Wedge_eq.fn G_Wedge_eq (hr.mono (by decide)) T.b_Wedge_eq pass0) (pe_op (op_ow (op := .Add) (o_add T) G_Wedge_add hr T.b_Wedge_add pass0) (pv 5) (pv 6)) (pv 7) (nomark _)) (pa_cons (pe_cmpR (op_owEq T.a_Wedge_eq.at_ T.a_Wedge_eq.fn G_Wedge_eq (hr.mono (by decide)) T.b_Wedge_eq pass0) (pe_op (o_mulI T G_Wedge_mul hr) (pv 5) pe_int) (pe_op (op_ow (op := .Add) (o_add T) G_Wedge_add hr T.b_Wedge_add pass0) (pv 5) (pv 5)) (nomark _)) (pa_cons (pe_cmpR (op_owEq T.a_Wedge_eq.at_ T.a_Wedge_eq.fn G_Wedge_eq (hr.mono (by decide)) T.b_Wedge_eq pass0) (pe_un (un_ow T.a_Wedge_neg.at_ T.a_Wedge_neg.fn G_Wedge_neg hr T.b_Wedge_neg pass0) (pv 5)) (pv 5) (nomark _)) (pa_cons (pe_callTy (call_boolOw T.a_Wedge_bool.at_ T.a_Wedge_bool.fn G_Wedge_bool (hr.mono (by decide)) T.b_Wedge_bool pass0) (by rfl) T.z_bool (by decide +kernel) (pa_cons (pe_op (op_ow (op := .Add) (o_add T) G_Wedge_add hr T.b_Wedge_add pass0) (pv 5) (pv 6)) pa_nil)) pa_nil)))))))))
    (pss_cons (ps_set (i := 13) nd rfl (Or.inl rfl) (pe_lst (pa_cons pe_bl (pa_cons pe_bl (pa_cons pe_bl (pa_cons (pe_cmpR (show OpR _ _ (rEqD K) from op_eqD hr.units) (pv 10) (pv 4) (nomark _)) (pa_cons pe_bl (pa_cons (pe_cmpR (show OpR _ _ (rEqD K) from op_eqD hr.units) (pe_ix (show IxR _ (rIxT K) from ix_tup) (pv 2) pe_int (fun _ _ => rfl)) (pe_op op_rep (pe_lst (pa_cons pe_int pa_nil)) pe_int) (nomark _)) (pa_cons (pe_cmpR (show OpR _ _ (rNeD K) from op_neD hr.units) (pv 10) (pe_call0 G_l_none (hr.mono (by decide)) (by rfl) T.m_l_none T.F_l_none.kp T.b_l_none .nil pass0) (nomark _)) pa_nil)))))))))
    (pss_one (ps_ret (pe_and (pe_call G_l_same (hr.mono (by decide)) (by rfl) T.m_l_same T.F_l_same.kp T.b_l_same .nil pass0 (pa_cons (pv 11) (pa_cons (pv 13) pa_nil))) (pe_one (pe_call G_l_all_so (hr.mono (by decide)) (by rfl) T.m_l_all_so T.F_l_all_so.kp T.b_l_all_so .nil pass0 (pa_cons (pe_lst (pa_cons (pe_op (op_ow (op := .Add) (o_add T) G_Wedge_add hr T.b_Wedge_add pass0) (pv 5) (pv 5)) (pa_cons (pv 5) pa_nil))) (pa_cons (pe_lst (pa_cons (pe_call G_l_times (hr.mono (by decide)) (by rfl) T.m_l_times T.F_l_times.kp T.b_l_times .nil pass0 (pa_cons (pv 2) (pa_cons pe_int pa_nil))) (pa_cons (pv 2) pa_nil))) pa_nil))))))))))))))))))))))), ?_⟩
  refine ⟨_, rfl, a, ns, rfl, hS, h63, fun B H1 s1 hB1 _ => ?_⟩
  refine ⟨_, rfl, B, rfl, hB1, fun px x H2 hB2 kb2 hx bx => ?_⟩
  refine ⟨_, rfl, B, rfl, hB2, fun py y H3 hB3 kb3 hy by' => ?_⟩
  refine ⟨_, rfl, B, rfl, hB3, fun pz z H4 hB4 kb4 hz bz => ?_⟩
  refine ⟨_, _, _, rfl, ?_⟩
  have hx4 := (hx.kb hB2 kb3).kb hB3 kb4
  have hy4 := hy.kb hB3 kb4
  refine ⟨fun σ' H' => ∃ py y, σ' = [some (.ref a), some (.ref B.b), some (.ref px), some (.ref py), some (.ref pz), none, none, none, none, none, none, none, none, none] ∧ Bag B H' ∧ LW H' px x ∧ LW H' py y ∧ LW H' pz z ∧ Bw 41 y, ?_, ?_⟩
  · refine ⟨_, rfl, B, 5, rfl, by decide, by decide, hB4, fun d H5 d0 d1 hB5 kb5 => ?_⟩
    refine ⟨rfl, _, rfl, ?_⟩
    have hx5 := hx4.kb hB4 kb5
    have hy5 := hy4.kb hB4 kb5
    have hz5 := hz.kb hB4 kb5
    refine ite2 (fun c => ?_) (fun c => ?_)
    · refine ⟨_, rfl, px, x, rfl, hx5, fun t H6 s6 ht => ?_⟩
      obtain ⟨l1, l2, e1, e2, e3⟩ := ht.ex
      obtain ⟨m1, m2, g1, g2, g3⟩ := (hy5.same s6).ex
      refine ⟨_, _, _, _, rfl, rfl, SqT.of e1, rfl, ?_⟩
      refine ⟨_, rfl, _, _, _, _, rfl, rfl, SqT.of g1, rfl, m2, _, rfl, .inl (SqL.of g3), fun b hb => ?_⟩
      have s7 := Same.new (o := .lst (y.2.map V.int)) hb
      refine ⟨(by show 2 ≤ sizeLine; decide), fun p hp => ?_⟩
      have s8 := Same.new (o := .tup [V.ref l1, V.ref b]) hp
      have sA := (s6.trans s7).trans s8
      exact ⟨p, ((negW x).1, y.2), rfl, hB5.same sA, hx5.same sA, ⟨⟨l1, b, upd_same, s8 _ _ (s7 _ _ e2), s8 _ _ upd_same⟩, ⟨ht.ok.l1, hy5.ok.l2, hy5.ok.bit⟩⟩, hz5.same sA, bw_neg (bw_of bx)⟩
    · exact ⟨py, y, rfl, hB5, hx5, hy5, hz5, bw_of by'⟩
  clear hx4 hy4 hz by' hy
  rintro σ' H5 ⟨py, y, rfl, hB5, hx5, hy5, hz5, wy⟩
  refine ⟨_, rfl, px, x, rfl, hx5, fun pa H6 s6 ha6 => ?_⟩
  refine ⟨_, rfl, py, y, rfl, hy5.same s6, fun pb H7 s7 hb7 => ?_⟩
  refine ⟨_, rfl, pz, z, rfl, (hz5.same s6).same s7, fun pc H8 s8 hc8 => ?_⟩
  refine ⟨_, _, _, rfl, ?_⟩
  have sA := (s6.trans s7).trans s8
  have hB8 := hB5.same sA
  refine ⟨_, rfl, ?_⟩
  refine ⟨_, rfl, _, rfl, _, rfl, 10, 30, rfl, rfl, ⟨by decide, by decide, by decide⟩, ?_⟩
  refine ⟨10, 30, rfl, rfl, ⟨by decide, by decide, by decide⟩, ?_⟩
  refine ⟨_, rfl, ?_⟩
  refine ⟨_, _, rfl, rfl, ?_⟩
  refine ⟨(by show 10 ≤ sizeLine; decide), fun pl hpl => ?_⟩
  have s9 := Same.new (o := .lst ([0, 1, 2, 3, -1, -2, -3, 10 ^ 30, -10 ^ 30 - 1, 7].map V.int)) hpl
  have nB : pl ≠ B.b := fun z => by
    obtain ⟨i, r, s, c, hb, _⟩ := hB8.ex
    rw [z] at hpl
    rw [hpl] at hb
    cases hb
  refine ⟨B, pl, [0, 1, 2, 3, -1, -2, -3, 10 ^ 30, -10 ^ 30 - 1, 7].map V.int, rfl, SqL.of upd_same, nB, by decide, by decide, hB8.same s9, fun i v H10 hv hB10 kb10 => ?_⟩
  obtain ⟨n, rfl, hn⟩ : ∃ n : Int, v = .int n ∧ n.natAbs < 2 ^ 101 := by
    obtain ⟨n, hn, rfl⟩ := List.mem_map.mp (List.mem_of_getElem? hv)
    exact ⟨n, rfl, among hn⟩
  clear hv
  refine ⟨_, rfl, B, 9, rfl, by decide, by decide, hB10, fun d H11 d0 d1 hB11 kb11 => ?_⟩
  refine ⟨_, _, rfl, rfl, ?_⟩
  refine ⟨_, _, rfl, ?_⟩
  have s89 := Same.trans s7 s8
  have wa := ((((ha6.same s89).same s9).kb (hB8.same s9) kb10).kb hB10 kb11)
  have wb := ((((hb7.same s8).same s9).kb (hB8.same s9) kb10).kb hB10 kb11)
  have wc := (((hc8.same s9).kb (hB8.same s9) kb10).kb hB10 kb11)
  have lx := ((((hx5.same sA).same s9).kb (hB8.same s9) kb10).kb hB10 kb11)
  have ly := ((((hy5.same sA).same s9).kb (hB8.same s9) kb10).kb hB10 kb11)
  have lz := ((((hz5.same sA).same s9).kb (hB8.same s9) kb10).kb hB10 kb11)
  clear hx5 hy5 hz5 ha6 hb7 hc8 hB10 hB8 hB5 hB4 hB3 hB2 hB1 kb10 kb11 kb2 kb3
  have ox := lx.ok
  have oy := ly.ok
  have oz := lz.ok
  have wx := bw_of bx
  have wz := bw_of bz
  show tSeq _ _ _ [some (.ref a), some (.ref B.b), some (.ref px), some (.ref py), some (.ref pz), some (.ref pa), some (.ref pb), some (.ref pc), some (.int n), some (.int (d - 4)), none, none, none, none] _
  generalize hm : d - 4 = m
  have hm4 : m.natAbs < 2 ^ 3 := by omega
  clear hm d0 d1 hB11
  refine lv_set (el_added (el_var rfl lx) (el_var rfl ly)) fun p10 H12 s12 lxy => ?_
  replace wa := wa.same s12
  replace wb := wb.same s12
  replace wc := wc.same s12
  replace lx := lx.same s12
  replace ly := ly.same s12
  replace lz := lz.same s12
  show tSeq (tAsg (tLst _) (gName 11)) _ _ [some (.ref a), some (.ref B.b), some (.ref px), some (.ref py), some (.ref pz), some (.ref pa), some (.ref pb), some (.ref pc), some (.int n), some (.int m), some (.ref p10), none, none, none] _
  refine told_set (K := K) (C := T.C_Wedge) (ws := [addW x y, addW y x, subW x y, negW x, addW (addW x y) z, addW x (addW y z), subW x x, addW x zeroW, subW zeroW x, negW (negW x)]) ?ev1 ?z1 fun ps1 p11 H13 s13 hw1 e11 => ?_
  case ev1 => walk_at "evw"
  case z1 => show 10 ≤ 1000; decide
  have sB := s12.trans s13
  refine dues_set (ws := [addW x y, addW x y, addW x (negW y), negW x, addW (addW x y) z, addW (addW x y) z]) ?ev2 ?z2 fun qs2 p12 H14 s14 hw2 e12 => ?_
  case ev2 =>
    replace lx := lx.same s13
    replace ly := ly.same s13
    replace lz := lz.same s13
    replace lxy := lxy.same s13
    walk_at "elw"
  case z2 => show 6 ≤ 1000; decide
  refine dues_cat (ws := [zeroW, x, negW x, x]) (j := 12) rfl e12 hw2 ?ev3 ?z3 ?z4 fun qs3 p13 H15 s15 hw3 e13 => ?_
  case ev3 =>
    replace lx := (lx.same s13).same s14
    walk_at "elw"
  case z3 => show 6 ≤ 1000; decide
  case z4 => show 4 ≤ 1000; decide
  have hw1' : Wds K T.C_Wedge H15 ps1 ([addW x y, addW x y, addW x (negW y), negW x, addW (addW x y) z, addW (addW x y) z] ++ [zeroW, x, negW x, x]) := by
    have h := (hw1.same s14).same s15
    rw [add_comm x y, sub_add x y, add_assoc x y z, sub_self ox, add_zero ox, zero_sub ox, neg_neg x] at h
    exact h
  refine if_so (eb_so_v rfl rfl (s15 _ _ (s14 _ _ e11)) e13 hw1' hw3 (by show 10 ≤ 1000; decide)) fun H16 s16 => ?_
  clear hw1' hw1 hw2 hw3 e11 e12 e13
  have sC := ((sB.trans s14).trans s15).trans s16
  have sD := ((s13.trans s14).trans s15).trans s16
  replace wa := wa.same sD
  replace wb := wb.same sD
  replace wc := wc.same sD
  replace lx := lx.same sD
  replace ly := ly.same sD
  replace lz := lz.same sD
  replace lxy := lxy.same sD
  clear sA sB sC sD s6 s7 s8 s89 s9 s12 s13 s14 s15 s16
  have bxy := bw_add wx wy
  have n5 : n.natAbs < 2 ^ 500 := Nat.lt_trans hn (by decide)
  have m5 : m.natAbs < 2 ^ 500 := Nat.lt_trans hm4 (by decide)
  have t1 : Small n x := bw_small n5 wx (by decide)
  have t2 : Small n y := bw_small n5 wy (by decide)
  have t3 : Small m x := bw_small m5 wx (by decide)
  have t4 : Small m y := bw_small m5 wy (by decide)
  have t5 : Small m (addW x y) := bw_small m5 bxy (by decide)
  have t6 : Small (-1) (addW x y) := bw_small (by decide) bxy (by decide)
  have t7 : Small m (mulW n y) := bw_small m5 (bw_mul hn wy) (by decide)
  have t8 : Small n zeroW := fun u hu => mul_bnd n5 (by rw [List.eq_of_mem_replicate hu]; decide)
  have t9 : Small 0 x := bw_small (by decide) wx (by decide)
  have t10 : Small 2 x := bw_small (by decide) wx (by decide)
  refine told_set (K := K) (C := T.C_Wedge) (ws := [mulW n x, mulW n x, mulW m (addW x y), addW (mulW m x) (mulW m y), mulW (-1) (addW x y), addW (mulW n x) (mulW m x), mulW m (mulW n y), mulW n zeroW, mulW 0 x]) ?ev4 ?z5 fun ps1 p11 H17 s17 hw1 e11 => ?_
  case ev4 => walk_at "evw"
  case z5 => show 9 ≤ 1000; decide
  have b1 : Bnd x := bw_bnd wx (by decide)
  have b2 : Bnd y := bw_bnd wy (by decide)
  have b3 : Bnd (addW x y) := bw_bnd bxy (by decide)
  have n1 : ((-1 : Int)).natAbs < 2 ^ 500 := by decide
  refine dues_set (ws := [mulW n x, mulW n x, mulW m (addW x y), mulW m (addW x y), mulW (-1) (addW x y)]) ?ev5 ?z6 fun qs2 p12 H18 s18 hw2 e12 => ?_
  case ev5 =>
    replace lx := lx.same s17
    replace lxy := lxy.same s17
    walk_at "elw"
  case z6 => show 5 ≤ 1000; decide
  have k1 : (n + m).natAbs < 2 ^ 500 := Nat.lt_of_le_of_lt (Int.natAbs_add_le n m) (by omega)
  have k2 : (n * m).natAbs < 2 ^ 500 := by rw [Int.natAbs_mul]; exact Nat.lt_trans (Nat.mul_lt_mul'' hn hm4) (by decide)
  have k3 : CMul n m := .inr (by omega)
  refine dues_cat (ws := [mulW (n + m) x, mulW (n * m) y, zeroW, zeroW]) (j := 12) rfl e12 hw2 ?ev6 ?z7 ?z8 fun qs3 p13 H19 s19 hw3 e13 => ?_
  case ev6 =>
    have s20 := s17.trans s18
    replace lx := lx.same s20
    replace ly := ly.same s20
    walk_at "elw"
  case z7 => show 5 ≤ 1000; decide
  case z8 => show 4 ≤ 1000; decide
  have hw1' : Wds K T.C_Wedge H19 ps1 ([mulW n x, mulW n x, mulW m (addW x y), mulW m (addW x y), mulW (-1) (addW x y)] ++ [mulW (n + m) x, mulW (n * m) y, zeroW, zeroW]) := by
    have h := (hw1.same s18).same s19
    rw [mul_add m ox oy, add_mul n m ox, mul_mul n m oy, mul_zero n, zero_mul ox] at h
    exact h
  have sE := (s17.trans s18).trans s19
  replace wa := wa.same sE
  replace wb := wb.same sE
  replace wc := wc.same sE
  replace lx := lx.same sE
  replace ly := ly.same sE
  replace lz := lz.same sE
  replace lxy := lxy.same sE
  refine if_so2 (eb_so_v rfl rfl (s19 _ _ (s18 _ _ e11)) e13 hw1' hw3 (by show 9 ≤ 1000; decide)) (eb_so_l (ws := [x, y, z, zeroW]) ?ev7 ?ev8 (by show 4 ≤ 1000; decide)) fun H20 s20 => ?_
  case ev7 => walk_at "evw"
  case ev8 => walk_at "elw"
  replace wa := wa.same s20
  replace wb := wb.same s20
  replace wc := wc.same s20
  replace lx := lx.same s20
  replace ly := ly.same s20
  replace lz := lz.same s20
  replace lxy := lxy.same s20
  refine bls_set (bs := [decide (addW x y = addW y x), decide (subW x x = zeroW), boolW (subW x x), decide (addW x y = z), decide (mulW 2 x = addW x x), decide (negW x = x), boolW (addW x y)]) ?ev9 (by show 7 ≤ 1000; decide) fun p11 H21 s21 e11 => ?_
  case ev9 =>
    refine ebs_cons ?_ (ebs_cons ?_ (ebs_cons ?_ (ebs_cons ?_ (ebs_cons ?_ (ebs_cons ?_ (ebs_cons ?_ ebs_nil))))))
    case refine_1 => refine eb_eq ?_ ?_ <;> walk_at "evw"
    case refine_2 => refine eb_eq ?_ ?_ <;> walk_at "evw"
    case refine_3 => refine eb_bool ?_ <;> walk_at "evw"
    case refine_4 => refine eb_eq ?_ ?_ <;> walk_at "evw"
    case refine_5 => refine eb_eq ?_ ?_ <;> walk_at "evw"
    case refine_6 => refine eb_eq ?_ ?_ <;> walk_at "evw"
    case refine_7 => refine eb_bool ?_ <;> walk_at "evw"
  replace lx := lx.same s21
  replace lz := lz.same s21
  replace lxy := lxy.same s21
  refine bls_set (bs := [true, true, false, decide (addW x y = z), true, decide (x.1 = List.replicate 15 0), !decide (addW x y = zeroW)]) ?ev10 (by show 7 ≤ 1000; decide) fun p13 H22 s22 e13 => ?_
  case ev10 =>
    refine ebs_cons eb_c (ebs_cons eb_c (ebs_cons eb_c (ebs_cons ?_ (ebs_cons eb_c (ebs_cons ?_ (ebs_cons ?_ ebs_nil))))))
    case refine_1 => refine eb_eqL ?_ ?_ <;> walk_at "elw"
    case refine_2 =>
      intro H1 s1 Q k
      obtain ⟨l1, l2, h1, h2, h3⟩ := (lx.same s1).ex
      refine ⟨_, rfl, _, _, _, _, rfl, rfl, SqT.of h1, rfl, ?_⟩
      refine ⟨(by show 1 ≤ sizeLine; decide), fun p2 hp2 => ⟨p2, _, _, rfl, rfl, upd_same, by decide, by decide, by decide, fun b hb => ?_⟩⟩
      have s2 := (Same.new (o := .lst [V.int 0]) hp2).trans (Same.new (o := .lst ((List.replicate 15 (0 : Int)).map V.int)) hb)
      exact ⟨_, _, .lst (SqL.of (s2 _ _ h2)) (dpAll_ints _), .lst (SqL.of upd_same) (dpAll_ints (List.replicate 15 0)), shaped_lstI _, shaped_lstI _, by rw [eqv_lstI]; exact k _ s2⟩
    case refine_3 => refine eb_neL ?_ ?_ <;> walk_at "elw"
  have e11' : H22 p11 = some (.lst ([true, true, false, decide (addW x y = z), true, decide (x.1 = List.replicate 15 0), !decide (addW x y = zeroW)].map V.bl)) := by
    have h := s22 _ _ e11
    have oxy : WOk (addW x y) := lxy.ok
    rw [decide_eq_true (add_comm x y).symm, decide_eq_true (sub_self ox), sub_self ox, bool_zero zeroW_ok, decide_eq_true (rfl : zeroW = zeroW), two_mul ox, decide_eq_true (rfl : addW x x = addW x x), neg_same ox, bool_zero oxy] at h
    exact h
  refine ret_so (eb_and (eb_same rfl rfl e11' e13 (by show 7 ≤ 1000; decide)) (eb_so_l (ws := [addW x x, x]) ?ev11 ?ev12 (by show 2 ≤ 1000; decide))) fun H' => q H'
  case ev11 =>
    replace wa := (wa.same s21).same s22
    walk_at "evw"
  case ev12 =>
    replace lx := lx.same s22
    rw [← two_mul ox]
    have n2 : ((2 : Int)).natAbs < 2 ^ 500 := by decide
    walk_at "elw"
end
end TL
namespace TL
open PySem L2
/-! ### the end -/
def TupO (o : Obj) (xs : List V) : Prop := ∃ (its : Array Value) (n : Nat), o.cls = .type "tuple" ∧ o.data = .seq its n ∧ its.size ≤ sizeLine ∧ Vals xs its.toList
theorem tupO_sq {K : PySem.W.Frag} {H : Hp} {a : Addr} {o : Obj} {xs : List V} (l : K.lookup a = some o) (v : TupO o xs) : SqT K H a xs := by
  obtain ⟨its, n, h1, h2, h3, h4⟩ := v
  exact .inr ⟨o, its, n, l, h1, h2, h3, h4⟩
theorem all_mk {P : Program} {w : World} {K : PySem.W.Frag} {h : Heap} {mg : Str → Option Value} {fa : Addr} {C_Wedge : Addr} {e_PRIMES : Addr} {o_PRIMES : Obj} {e_PAIRS : Addr} {o_PAIRS : Obj} {f1 : Addr} {od1 an1 : Option Addr} {sl1 : Array (Option Value)} {oc1 kV1 dc1 pm1 cd1 ct1 : Value} {f2 : Addr} {od2 an2 : Option Addr} {sl2 : Array (Option Value)} {oc2 kV2 dc2 pm2 cd2 ct2 : Value} {f3 : Addr} {od3 an3 : Option Addr} {sl3 : Array (Option Value)} {oc3 kV3 dc3 pm3 cd3 ct3 : Value} {f4 : Addr} {od4 an4 : Option Addr} {sl4 : Array (Option Value)} {oc4 kV4 dc4 pm4 cd4 ct4 : Value} {f5 : Addr} {od5 an5 : Option Addr} {sl5 : Array (Option Value)} {oc5 kV5 dc5 pm5 cd5 ct5 : Value} {dT5 : Addr} {oT5 : Obj} {e_bits : Addr} {o_bits : Obj} {f6 : Addr} {od6 an6 : Option Addr} {sl6 : Array (Option Value)} {oc6 kV6 dc6 pm6 cd6 ct6 : Value} {f7 : Addr} {od7 an7 : Option Addr} {sl7 : Array (Option Value)} {oc7 kV7 dc7 pm7 cd7 ct7 : Value} {f8 : Addr} {od8 an8 : Option Addr} {sl8 : Array (Option Value)} {oc8 kV8 dc8 pm8 cd8 ct8 : Value} {f9 : Addr} {od9 an9 : Option Addr} {sl9 : Array (Option Value)} {oc9 kV9 dc9 pm9 cd9 ct9 : Value} {f10 : Addr} {od10 an10 : Option Addr} {sl10 : Array (Option Value)} {oc10 kV10 dc10 pm10 cd10 ct10 : Value} {f11 : Addr} {od11 an11 : Option Addr} {sl11 : Array (Option Value)} {oc11 kV11 dc11 pm11 cd11 ct11 : Value} {f12 : Addr} {od12 an12 : Option Addr} {sl12 : Array (Option Value)} {oc12 kV12 dc12 pm12 cd12 ct12 : Value} {f13 : Addr} {od13 an13 : Option Addr} {sl13 : Array (Option Value)} {oc13 kV13 dc13 pm13 cd13 ct13 : Value} {f14 : Addr} {od14 an14 : Option Addr} {sl14 : Array (Option Value)} {oc14 kV14 dc14 pm14 cd14 ct14 : Value} {f15 : Addr} {od15 an15 : Option Addr} {sl15 : Array (Option Value)} {oc15 kV15 dc15 pm15 cd15 ct15 : Value} {f16 : Addr} {od16 an16 : Option Addr} {sl16 : Array (Option Value)} {oc16 kV16 dc16 pm16 cd16 ct16 : Value} {f17 : Addr} {od17 an17 : Option Addr} {sl17 : Array (Option Value)} {oc17 kV17 dc17 pm17 cd17 ct17 : Value} {f18 : Addr} {od18 an18 : Option Addr} {sl18 : Array (Option Value)} {oc18 kV18 dc18 pm18 cd18 ct18 : Value} {f19 : Addr} {od19 an19 : Option Addr} {sl19 : Array (Option Value)} {oc19 kV19 dc19 pm19 cd19 ct19 : Value} {f20 : Addr} {od20 an20 : Option Addr} {sl20 : Array (Option Value)} {oc20 kV20 dc20 pm20 cd20 ct20 : Value} {f21 : Addr} {od21 an21 : Option Addr} {sl21 : Array (Option Value)} {oc21 kV21 dc21 pm21 cd21 ct21 : Value} {f22 : Addr} {od22 an22 : Option Addr} {sl22 : Array (Option Value)} {oc22 kV22 dc22 pm22 cd22 ct22 : Value} {f23 : Addr} {od23 an23 : Option Addr} {sl23 : Array (Option Value)} {oc23 kV23 dc23 pm23 cd23 ct23 : Value} {f24 : Addr} {od24 an24 : Option Addr} {sl24 : Array (Option Value)} {oc24 kV24 dc24 pm24 cd24 ct24 : Value} {f25 : Addr} {od25 an25 : Option Addr} {sl25 : Array (Option Value)} {oc25 kV25 dc25 pm25 cd25 ct25 : Value} {f26 : Addr} {od26 an26 : Option Addr} {sl26 : Array (Option Value)} {oc26 kV26 dc26 pm26 cd26 ct26 : Value} {f27 : Addr} {od27 an27 : Option Addr} {sl27 : Array (Option Value)} {oc27 kV27 dc27 pm27 cd27 ct27 : Value} {f28 : Addr} {od28 an28 : Option Addr} {sl28 : Array (Option Value)} {oc28 kV28 dc28 pm28 cd28 ct28 : Value} {f29 : Addr} {od29 an29 : Option Addr} {sl29 : Array (Option Value)} {oc29 kV29 dc29 pm29 cd29 ct29 : Value} {f30 : Addr} {od30 an30 : Option Addr} {sl30 : Array (Option Value)} {oc30 kV30 dc30 pm30 cd30 ct30 : Value} {x_iM : Option Value} {x_iR : Option Value} (X : K.In h) (G : h.Ns mainGlobals mg) (hfa : mg "law" = some (.ref fa))
    (z_len : PySem.W.nsIn K mainGlobals "len" = some none)
    (z_abs : PySem.W.nsIn K mainGlobals "abs" = some none)
    (z_int : PySem.W.nsIn K mainGlobals "int" = some none)
    (z_isinstance : PySem.W.nsIn K mainGlobals "isinstance" = some none)
    (z_list : PySem.W.nsIn K mainGlobals "list" = some none)
    (z_tuple : PySem.W.nsIn K mainGlobals "tuple" = some none)
    (z_bool : PySem.W.nsIn K mainGlobals "bool" = some none)
    (z_str : PySem.W.nsIn K mainGlobals "str" = some none)
    (z_all : PySem.W.nsIn K mainGlobals "all" = some none)
    (z_any : PySem.W.nsIn K mainGlobals "any" = some none)
    (z_zip : PySem.W.nsIn K mainGlobals "zip" = some none)
    (z_range : PySem.W.nsIn K mainGlobals "range" = some none)
    (aC_Wedge : PySem.W.nsIn K mainGlobals "Wedge" = some (some (.ref C_Wedge)))
    (pg_Wedge : PySem.W.plainGet K C_Wedge Str.empty = true)
    (hd_Wedge : PySem.W.hasDictIn K C_Wedge = true)
    (po_Wedge : PySem.W.plainOver K C_Wedge = true)
    (sa_Wedge : PySem.W.findIn K (.ref C_Wedge) "__setattr__" = some (some (.builtin "object.__setattr__")))
    (n_Wedge_pairs : PySem.W.findIn K (.ref C_Wedge) "_pairs" = some none)
    (n_Wedge_bits : PySem.W.findIn K (.ref C_Wedge) "_bits" = some none)
    (ca_Wedge : PySem.W.findIn K (.ref C_Wedge) "__class__" = some (some (.builtin "object.__class__")))
    (cm_Wedge : PySem.W.mroIn K C_Wedge (.type "object") = some true)
    (cn_Wedge : PySem.W.specialIn K (.builtin "object.__class__") "__get__" = some (some (.builtin "getset_descriptor.__get__")))
    (ct_Wedge : PySem.W.takesIn K (.builtin "object.__class__") = some true)
    (aE_PRIMES : PySem.W.nsIn K mainGlobals "PRIMES" = some (some (.ref e_PRIMES)))
    (lE_PRIMES : K.lookup e_PRIMES = some o_PRIMES)
    (vE_PRIMES : TupO o_PRIMES [.int 2, .int 3, .int 5, .int 7, .int 11, .int 13])
    (aE_PAIRS : PySem.W.nsIn K mainGlobals "PAIRS" = some (some (.ref e_PAIRS)))
    (lE_PAIRS : K.lookup e_PAIRS = some o_PAIRS)
    (vE_PAIRS : ∃ xs : List V, xs.length = 15 ∧ TupO o_PAIRS xs)
    (a1 : PySem.W.nsIn K mainGlobals "is_number" = some (some (.ref f1)))
    (l1 : K.lookup f1 = some ⟨oc1, od1, .func (PySem.W.fnOf "is_number" "is_number" (defArgs s_is_number) (defBody s_is_number) (defScope s_is_number) .none kV1 dc1 pm1 an1 cd1 ct1), sl1⟩)
    (c1 : PySem.W.codeIn K cd1 "is_number" = true)
    (k1 : PySem.W.keepIn K (.ref f1) = true)
    (a2 : PySem.W.nsIn K mainGlobals "is_listed" = some (some (.ref f2)))
    (l2 : K.lookup f2 = some ⟨oc2, od2, .func (PySem.W.fnOf "is_listed" "is_listed" (defArgs s_is_listed) (defBody s_is_listed) (defScope s_is_listed) .none kV2 dc2 pm2 an2 cd2 ct2), sl2⟩)
    (c2 : PySem.W.codeIn K cd2 "is_listed" = true)
    (k2 : PySem.W.keepIn K (.ref f2) = true)
    (a3 : PySem.W.nsIn K mainGlobals "are_numbers" = some (some (.ref f3)))
    (l3 : K.lookup f3 = some ⟨oc3, od3, .func (PySem.W.fnOf "are_numbers" "are_numbers" (defArgs s_are_numbers) (defBody s_are_numbers) (defScope s_are_numbers) .none kV3 dc3 pm3 an3 cd3 ct3), sl3⟩)
    (c3 : PySem.W.codeIn K cd3 "are_numbers" = true)
    (k3 : PySem.W.keepIn K (.ref f3) = true)
    (a4 : PySem.W.nsIn K mainGlobals "are_bits" = some (some (.ref f4)))
    (l4 : K.lookup f4 = some ⟨oc4, od4, .func (PySem.W.fnOf "are_bits" "are_bits" (defArgs s_are_bits) (defBody s_are_bits) (defScope s_are_bits) .none kV4 dc4 pm4 an4 cd4 ct4), sl4⟩)
    (c4 : PySem.W.codeIn K cd4 "are_bits" = true)
    (k4 : PySem.W.keepIn K (.ref f4) = true)
    (a5 : PySem.W.findIn K (.ref C_Wedge) "__init__" = some (some (.ref f5)))
    (i5 : PySem.W.isFn K (.ref f5) = true)
    (l5 : K.lookup f5 = some ⟨oc5, od5, .func (PySem.W.fnOf "__init__" "Wedge.__init__" (defArgs s_Wedge_init) (defBody s_Wedge_init) (defScope s_Wedge_init) (.ref dT5) kV5 dc5 pm5 an5 cd5 ct5), sl5⟩)
    (c5 : PySem.W.codeIn K cd5 "Wedge.__init__" = true)
    (k5 : PySem.W.keepIn K (.ref f5) = true)
    (lT5 : K.lookup dT5 = some oT5)
    (vT5 : ∃ its n, oT5.data = .seq (List.toArray its) n ∧ Vals [V.ref e_bits] its)
    (lE_bits : K.lookup e_bits = some o_bits)
    (vE_bits : TupO o_bits [.int 0, .int 0, .int 0, .int 0, .int 0, .int 0])
    (mk_Wedge : PySem.W.makesIn K C_Wedge = true)
    (kc_Wedge : PySem.W.keepIn K (.ref C_Wedge) = true)
    (a6 : PySem.W.findIn K (.ref C_Wedge) "pairs" = some (some (.ref f6)))
    (i6 : PySem.W.isFn K (.ref f6) = true)
    (l6 : K.lookup f6 = some ⟨oc6, od6, .func (PySem.W.fnOf "pairs" "Wedge.pairs" (defArgs s_Wedge_pairs) (defBody s_Wedge_pairs) (defScope s_Wedge_pairs) .none kV6 dc6 pm6 an6 cd6 ct6), sl6⟩)
    (c6 : PySem.W.codeIn K cd6 "Wedge.pairs" = true)
    (k6 : PySem.W.keepIn K (.ref f6) = true)
    (a7 : PySem.W.findIn K (.ref C_Wedge) "bits" = some (some (.ref f7)))
    (i7 : PySem.W.isFn K (.ref f7) = true)
    (l7 : K.lookup f7 = some ⟨oc7, od7, .func (PySem.W.fnOf "bits" "Wedge.bits" (defArgs s_Wedge_bits) (defBody s_Wedge_bits) (defScope s_Wedge_bits) .none kV7 dc7 pm7 an7 cd7 ct7), sl7⟩)
    (c7 : PySem.W.codeIn K cd7 "Wedge.bits" = true)
    (k7 : PySem.W.keepIn K (.ref f7) = true)
    (a8 : PySem.W.findIn K (.ref C_Wedge) "__add__" = some (some (.ref f8)))
    (i8 : PySem.W.isFn K (.ref f8) = true)
    (l8 : K.lookup f8 = some ⟨oc8, od8, .func (PySem.W.fnOf "__add__" "Wedge.__add__" (defArgs s_Wedge_add) (defBody s_Wedge_add) (defScope s_Wedge_add) .none kV8 dc8 pm8 an8 cd8 ct8), sl8⟩)
    (c8 : PySem.W.codeIn K cd8 "Wedge.__add__" = true)
    (k8 : PySem.W.keepIn K (.ref f8) = true)
    (a9 : PySem.W.findIn K (.ref C_Wedge) "__sub__" = some (some (.ref f9)))
    (i9 : PySem.W.isFn K (.ref f9) = true)
    (l9 : K.lookup f9 = some ⟨oc9, od9, .func (PySem.W.fnOf "__sub__" "Wedge.__sub__" (defArgs s_Wedge_sub) (defBody s_Wedge_sub) (defScope s_Wedge_sub) .none kV9 dc9 pm9 an9 cd9 ct9), sl9⟩)
    (c9 : PySem.W.codeIn K cd9 "Wedge.__sub__" = true)
    (k9 : PySem.W.keepIn K (.ref f9) = true)
    (a10 : PySem.W.findIn K (.ref C_Wedge) "__neg__" = some (some (.ref f10)))
    (i10 : PySem.W.isFn K (.ref f10) = true)
    (l10 : K.lookup f10 = some ⟨oc10, od10, .func (PySem.W.fnOf "__neg__" "Wedge.__neg__" (defArgs s_Wedge_neg) (defBody s_Wedge_neg) (defScope s_Wedge_neg) .none kV10 dc10 pm10 an10 cd10 ct10), sl10⟩)
    (c10 : PySem.W.codeIn K cd10 "Wedge.__neg__" = true)
    (k10 : PySem.W.keepIn K (.ref f10) = true)
    (a11 : PySem.W.findIn K (.ref C_Wedge) "__mul__" = some (some (.ref f11)))
    (i11 : PySem.W.isFn K (.ref f11) = true)
    (l11 : K.lookup f11 = some ⟨oc11, od11, .func (PySem.W.fnOf "__mul__" "Wedge.__mul__" (defArgs s_Wedge_mul) (defBody s_Wedge_mul) (defScope s_Wedge_mul) .none kV11 dc11 pm11 an11 cd11 ct11), sl11⟩)
    (c11 : PySem.W.codeIn K cd11 "Wedge.__mul__" = true)
    (k11 : PySem.W.keepIn K (.ref f11) = true)
    (a12 : PySem.W.findIn K (.ref C_Wedge) "__rmul__" = some (some (.ref f12)))
    (i12 : PySem.W.isFn K (.ref f12) = true)
    (l12 : K.lookup f12 = some ⟨oc12, od12, .func (PySem.W.fnOf "__rmul__" "Wedge.__rmul__" (defArgs s_Wedge_rmul) (defBody s_Wedge_rmul) (defScope s_Wedge_rmul) .none kV12 dc12 pm12 an12 cd12 ct12), sl12⟩)
    (c12 : PySem.W.codeIn K cd12 "Wedge.__rmul__" = true)
    (k12 : PySem.W.keepIn K (.ref f12) = true)
    (a13 : PySem.W.findIn K (.ref C_Wedge) "__eq__" = some (some (.ref f13)))
    (i13 : PySem.W.isFn K (.ref f13) = true)
    (l13 : K.lookup f13 = some ⟨oc13, od13, .func (PySem.W.fnOf "__eq__" "Wedge.__eq__" (defArgs s_Wedge_eq) (defBody s_Wedge_eq) (defScope s_Wedge_eq) .none kV13 dc13 pm13 an13 cd13 ct13), sl13⟩)
    (c13 : PySem.W.codeIn K cd13 "Wedge.__eq__" = true)
    (k13 : PySem.W.keepIn K (.ref f13) = true)
    (a14 : PySem.W.findIn K (.ref C_Wedge) "__bool__" = some (some (.ref f14)))
    (i14 : PySem.W.isFn K (.ref f14) = true)
    (l14 : K.lookup f14 = some ⟨oc14, od14, .func (PySem.W.fnOf "__bool__" "Wedge.__bool__" (defArgs s_Wedge_bool) (defBody s_Wedge_bool) (defScope s_Wedge_bool) .none kV14 dc14 pm14 an14 cd14 ct14), sl14⟩)
    (c14 : PySem.W.codeIn K cd14 "Wedge.__bool__" = true)
    (k14 : PySem.W.keepIn K (.ref f14) = true)
    (a15 : PySem.W.nsIn K mainGlobals "nothing" = some (some (.ref f15)))
    (l15 : K.lookup f15 = some ⟨oc15, od15, .func (PySem.W.fnOf "nothing" "nothing" (defArgs s_nothing) (defBody s_nothing) (defScope s_nothing) .none kV15 dc15 pm15 an15 cd15 ct15), sl15⟩)
    (c15 : PySem.W.codeIn K cd15 "nothing" = true)
    (k15 : PySem.W.keepIn K (.ref f15) = true)
    (a16 : PySem.W.nsIn K mainGlobals "_law_bag" = some (some (.ref f16)))
    (l16 : K.lookup f16 = some ⟨oc16, od16, .func (PySem.W.fnOf "_law_bag" "_law_bag" (defArgs s_l_bag) (defBody s_l_bag) (defScope s_l_bag) .none kV16 dc16 pm16 an16 cd16 ct16), sl16⟩)
    (c16 : PySem.W.codeIn K cd16 "_law_bag" = true)
    (k16 : PySem.W.keepIn K (.ref f16) = true)
    (a17 : PySem.W.nsIn K mainGlobals "_law_draw" = some (some (.ref f17)))
    (l17 : K.lookup f17 = some ⟨oc17, od17, .func (PySem.W.fnOf "_law_draw" "_law_draw" (defArgs s_l_draw) (defBody s_l_draw) (defScope s_l_draw) .none kV17 dc17 pm17 an17 cd17 ct17), sl17⟩)
    (c17 : PySem.W.codeIn K cd17 "_law_draw" = true)
    (k17 : PySem.W.keepIn K (.ref f17) = true)
    (a18 : PySem.W.nsIn K mainGlobals "_law_of" = some (some (.ref f18)))
    (l18 : K.lookup f18 = some ⟨oc18, od18, .func (PySem.W.fnOf "_law_of" "_law_of" (defArgs s_l_of) (defBody s_l_of) (defScope s_l_of) .none kV18 dc18 pm18 an18 cd18 ct18), sl18⟩)
    (c18 : PySem.W.codeIn K cd18 "_law_of" = true)
    (k18 : PySem.W.keepIn K (.ref f18) = true)
    (a19 : PySem.W.nsIn K mainGlobals "_law_same" = some (some (.ref f19)))
    (l19 : K.lookup f19 = some ⟨oc19, od19, .func (PySem.W.fnOf "_law_same" "_law_same" (defArgs s_l_same) (defBody s_l_same) (defScope s_l_same) .none kV19 dc19 pm19 an19 cd19 ct19), sl19⟩)
    (c19 : PySem.W.codeIn K cd19 "_law_same" = true)
    (k19 : PySem.W.keepIn K (.ref f19) = true)
    (a20 : PySem.W.nsIn K mainGlobals "_law_twos" = some (some (.ref f20)))
    (l20 : K.lookup f20 = some ⟨oc20, od20, .func (PySem.W.fnOf "_law_twos" "_law_twos" (defArgs s_l_twos) (defBody s_l_twos) (defScope s_l_twos) .none kV20 dc20 pm20 an20 cd20 ct20), sl20⟩)
    (c20 : PySem.W.codeIn K cd20 "_law_twos" = true)
    (k20 : PySem.W.keepIn K (.ref f20) = true)
    (a21 : PySem.W.nsIn K mainGlobals "_law_added" = some (some (.ref f21)))
    (l21 : K.lookup f21 = some ⟨oc21, od21, .func (PySem.W.fnOf "_law_added" "_law_added" (defArgs s_l_added) (defBody s_l_added) (defScope s_l_added) .none kV21 dc21 pm21 an21 cd21 ct21), sl21⟩)
    (c21 : PySem.W.codeIn K cd21 "_law_added" = true)
    (k21 : PySem.W.keepIn K (.ref f21) = true)
    (a22 : PySem.W.nsIn K mainGlobals "_law_none" = some (some (.ref f22)))
    (l22 : K.lookup f22 = some ⟨oc22, od22, .func (PySem.W.fnOf "_law_none" "_law_none" (defArgs s_l_none) (defBody s_l_none) (defScope s_l_none) .none kV22 dc22 pm22 an22 cd22 ct22), sl22⟩)
    (c22 : PySem.W.codeIn K cd22 "_law_none" = true)
    (k22 : PySem.W.keepIn K (.ref f22) = true)
    (a23 : PySem.W.nsIn K mainGlobals "_law_wedge_seen" = some (some (.ref f23)))
    (l23 : K.lookup f23 = some ⟨oc23, od23, .func (PySem.W.fnOf "_law_wedge_seen" "_law_wedge_seen" (defArgs s_l_wedge_seen) (defBody s_l_wedge_seen) (defScope s_l_wedge_seen) .none kV23 dc23 pm23 an23 cd23 ct23), sl23⟩)
    (c23 : PySem.W.codeIn K cd23 "_law_wedge_seen" = true)
    (k23 : PySem.W.keepIn K (.ref f23) = true)
    (a24 : PySem.W.nsIn K mainGlobals "_law_wedge_due" = some (some (.ref f24)))
    (l24 : K.lookup f24 = some ⟨oc24, od24, .func (PySem.W.fnOf "_law_wedge_due" "_law_wedge_due" (defArgs s_l_wedge_due) (defBody s_l_wedge_due) (defScope s_l_wedge_due) .none kV24 dc24 pm24 an24 cd24 ct24), sl24⟩)
    (c24 : PySem.W.codeIn K cd24 "_law_wedge_due" = true)
    (k24 : PySem.W.keepIn K (.ref f24) = true)
    (a25 : PySem.W.nsIn K mainGlobals "_law_wedge_drawn" = some (some (.ref f25)))
    (l25 : K.lookup f25 = some ⟨oc25, od25, .func (PySem.W.fnOf "_law_wedge_drawn" "_law_wedge_drawn" (defArgs s_l_wedge_drawn) (defBody s_l_wedge_drawn) (defScope s_l_wedge_drawn) .none kV25 dc25 pm25 an25 cd25 ct25), sl25⟩)
    (c25 : PySem.W.codeIn K cd25 "_law_wedge_drawn" = true)
    (k25 : PySem.W.keepIn K (.ref f25) = true)
    (a26 : PySem.W.nsIn K mainGlobals "_law_wedge_made" = some (some (.ref f26)))
    (l26 : K.lookup f26 = some ⟨oc26, od26, .func (PySem.W.fnOf "_law_wedge_made" "_law_wedge_made" (defArgs s_l_wedge_made) (defBody s_l_wedge_made) (defScope s_l_wedge_made) .none kV26 dc26 pm26 an26 cd26 ct26), sl26⟩)
    (c26 : PySem.W.codeIn K cd26 "_law_wedge_made" = true)
    (k26 : PySem.W.keepIn K (.ref f26) = true)
    (a27 : PySem.W.nsIn K mainGlobals "_law_times" = some (some (.ref f27)))
    (l27 : K.lookup f27 = some ⟨oc27, od27, .func (PySem.W.fnOf "_law_times" "_law_times" (defArgs s_l_times) (defBody s_l_times) (defScope s_l_times) .none kV27 dc27 pm27 an27 cd27 ct27), sl27⟩)
    (c27 : PySem.W.codeIn K cd27 "_law_times" = true)
    (k27 : PySem.W.keepIn K (.ref f27) = true)
    (a28 : PySem.W.nsIn K mainGlobals "_law_opposite" = some (some (.ref f28)))
    (l28 : K.lookup f28 = some ⟨oc28, od28, .func (PySem.W.fnOf "_law_opposite" "_law_opposite" (defArgs s_l_opposite) (defBody s_l_opposite) (defScope s_l_opposite) .none kV28 dc28 pm28 an28 cd28 ct28), sl28⟩)
    (c28 : PySem.W.codeIn K cd28 "_law_opposite" = true)
    (k28 : PySem.W.keepIn K (.ref f28) = true)
    (a29 : PySem.W.nsIn K mainGlobals "_law_all_so" = some (some (.ref f29)))
    (l29 : K.lookup f29 = some ⟨oc29, od29, .func (PySem.W.fnOf "_law_all_so" "_law_all_so" (defArgs s_l_all_so) (defBody s_l_all_so) (defScope s_l_all_so) .none kV29 dc29 pm29 an29 cd29 ct29), sl29⟩)
    (c29 : PySem.W.codeIn K cd29 "_law_all_so" = true)
    (k29 : PySem.W.keepIn K (.ref f29) = true)
    (a30 : PySem.W.nsIn K mainGlobals "law" = some (some (.ref f30)))
    (l30 : K.lookup f30 = some ⟨oc30, od30, .func (PySem.W.fnOf "law" "law" (defArgs s_law) (defBody s_law) (defScope s_law) .none kV30 dc30 pm30 an30 cd30 ct30), sl30⟩)
    (c30 : PySem.W.codeIn K cd30 "law" = true)
    (k30 : PySem.W.keepIn K (.ref f30) = true)
    (h_sf : PySem.W.selfFirst K C_Wedge = true)
    (h_sI : PySem.W.subIn K (.type "int") (.ref C_Wedge) = some false)
    (h_sC : PySem.W.subIn K (.ref C_Wedge) (.type "int") = some false)
    (h_iM : PySem.W.findIn K (.type "int") ("__mul__" : Str) = some x_iM)
    (h_iR : PySem.W.findIn K (.type "int") ("__rmul__" : Str) = some x_iR)
    : ∃ fd : FuncData, (∀ (s : Shared) (v : Value), BindsTo s fd ⟨[v], []⟩ [("_law_script", v)]) ∧ ∀ base : Heap, K.In base → base.Ns mainGlobals mg → FnOk P w K mg base CX0 7 fa fd ["_law_script"] (spLaw K) := by
  have e := hfa.symm.trans (PySem.W.mg_of X G a30)
  cases e
  have F1 := fun_mk (st := s_is_number) l1 c1 k1
  have b1 := F1.binds (ps := ["value"]) fun _ _ _ _ _ _ us hl => match us, hl with | [_], _ => rfl
  have F2 := fun_mk (st := s_is_listed) l2 c2 k2
  have b2 := F2.binds (ps := ["value"]) fun _ _ _ _ _ _ us hl => match us, hl with | [_], _ => rfl
  have F3 := fun_mk (st := s_are_numbers) l3 c3 k3
  have b3 := F3.binds (ps := ["value", "many"]) fun _ _ _ _ _ _ us hl => match us, hl with | [_, _], _ => rfl
  have F4 := fun_mk (st := s_are_bits) l4 c4 k4
  have b4 := F4.binds (ps := ["value", "many"]) fun _ _ _ _ _ _ us hl => match us, hl with | [_, _], _ => rfl
  have F5 : FunD K "__init__" "Wedge.__init__" (defArgs s_Wedge_init) (defBody s_Wedge_init) (defScope s_Wedge_init) [V.ref e_bits] [] f5 (PySem.W.fnOf "__init__" "Wedge.__init__" (defArgs s_Wedge_init) (defBody s_Wedge_init) (defScope s_Wedge_init) (.ref dT5) kV5 dc5 pm5 an5 cd5 ct5) := by
    obtain ⟨its, n, e1, e2⟩ := vT5
    exact ⟨⟨_, _, _, _, _, _, _, _, _, _, rfl, l5, c5, .inr ⟨by simp, dT5, _, its, n, rfl, lT5, e1, e2⟩, .inl rfl⟩, k5⟩
  obtain ⟨ds0, v0, b5⟩ := F5.binds1 (ps := ["self", "pairs", "bits"]) 3 1 (by simp) rfl fun _ _ _ _ _ _ _ us its hu hi => match us, its, hu, hi with | [_, _, _], [_], _, _ => ⟨_, rfl, rfl⟩
  cases v0
  obtain ⟨ds1, v1, bb5⟩ := F5.binds1 (ps := ["self", "pairs", "bits"]) 2 0 (by simp) rfl fun _ _ _ _ _ _ _ us its hu hi => match us, its, hu, hi with | [_, _], [_], _, _ => ⟨_, rfl, rfl⟩
  have F6 := fun_mk (st := s_Wedge_pairs) l6 c6 k6
  have b6 := F6.binds (ps := ["self"]) fun _ _ _ _ _ _ us hl => match us, hl with | [_], _ => rfl
  have F7 := fun_mk (st := s_Wedge_bits) l7 c7 k7
  have b7 := F7.binds (ps := ["self"]) fun _ _ _ _ _ _ us hl => match us, hl with | [_], _ => rfl
  have F8 := fun_mk (st := s_Wedge_add) l8 c8 k8
  have b8 := F8.binds (ps := ["self", "other"]) fun _ _ _ _ _ _ us hl => match us, hl with | [_, _], _ => rfl
  have F9 := fun_mk (st := s_Wedge_sub) l9 c9 k9
  have b9 := F9.binds (ps := ["self", "other"]) fun _ _ _ _ _ _ us hl => match us, hl with | [_, _], _ => rfl
  have F10 := fun_mk (st := s_Wedge_neg) l10 c10 k10
  have b10 := F10.binds (ps := ["self"]) fun _ _ _ _ _ _ us hl => match us, hl with | [_], _ => rfl
  have F11 := fun_mk (st := s_Wedge_mul) l11 c11 k11
  have b11 := F11.binds (ps := ["self", "k"]) fun _ _ _ _ _ _ us hl => match us, hl with | [_, _], _ => rfl
  have F12 := fun_mk (st := s_Wedge_rmul) l12 c12 k12
  have b12 := F12.binds (ps := ["self", "k"]) fun _ _ _ _ _ _ us hl => match us, hl with | [_, _], _ => rfl
  have F13 := fun_mk (st := s_Wedge_eq) l13 c13 k13
  have b13 := F13.binds (ps := ["self", "other"]) fun _ _ _ _ _ _ us hl => match us, hl with | [_, _], _ => rfl
  have F14 := fun_mk (st := s_Wedge_bool) l14 c14 k14
  have b14 := F14.binds (ps := ["self"]) fun _ _ _ _ _ _ us hl => match us, hl with | [_], _ => rfl
  have F15 := fun_mk (st := s_nothing) l15 c15 k15
  have b15 := F15.binds (ps := []) fun _ _ _ _ _ _ us hl => match us, hl with | [], _ => rfl
  have F16 := fun_mk (st := s_l_bag) l16 c16 k16
  have b16 := F16.binds (ps := ["_law_script"]) fun _ _ _ _ _ _ us hl => match us, hl with | [_], _ => rfl
  have F17 := fun_mk (st := s_l_draw) l17 c17 k17
  have b17 := F17.binds (ps := ["_law_bag_here", "_law_sides"]) fun _ _ _ _ _ _ us hl => match us, hl with | [_, _], _ => rfl
  have F18 := fun_mk (st := s_l_of) l18 c18 k18
  have b18 := F18.binds (ps := ["_law_bag_here", "_law_things"]) fun _ _ _ _ _ _ us hl => match us, hl with | [_, _], _ => rfl
  have F19 := fun_mk (st := s_l_same) l19 c19 k19
  have b19 := F19.binds (ps := ["_law_found", "_law_due"]) fun _ _ _ _ _ _ us hl => match us, hl with | [_, _], _ => rfl
  have F20 := fun_mk (st := s_l_twos) l20 c20 k20
  have b20 := F20.binds (ps := []) fun _ _ _ _ _ _ us hl => match us, hl with | [], _ => rfl
  have F21 := fun_mk (st := s_l_added) l21 c21 k21
  have b21 := F21.binds (ps := ["_law_w", "_law_z"]) fun _ _ _ _ _ _ us hl => match us, hl with | [_, _], _ => rfl
  have F22 := fun_mk (st := s_l_none) l22 c22 k22
  have b22 := F22.binds (ps := []) fun _ _ _ _ _ _ us hl => match us, hl with | [], _ => rfl
  have F23 := fun_mk (st := s_l_wedge_seen) l23 c23 k23
  have b23 := F23.binds (ps := ["_law_w"]) fun _ _ _ _ _ _ us hl => match us, hl with | [_], _ => rfl
  have F24 := fun_mk (st := s_l_wedge_due) l24 c24 k24
  have b24 := F24.binds (ps := ["_law_w"]) fun _ _ _ _ _ _ us hl => match us, hl with | [_], _ => rfl
  have F25 := fun_mk (st := s_l_wedge_drawn) l25 c25 k25
  have b25 := F25.binds (ps := ["_law_bag_here"]) fun _ _ _ _ _ _ us hl => match us, hl with | [_], _ => rfl
  have F26 := fun_mk (st := s_l_wedge_made) l26 c26 k26
  have b26 := F26.binds (ps := ["_law_w"]) fun _ _ _ _ _ _ us hl => match us, hl with | [_], _ => rfl
  have F27 := fun_mk (st := s_l_times) l27 c27 k27
  have b27 := F27.binds (ps := ["_law_w", "_law_n"]) fun _ _ _ _ _ _ us hl => match us, hl with | [_, _], _ => rfl
  have F28 := fun_mk (st := s_l_opposite) l28 c28 k28
  have b28 := F28.binds (ps := ["_law_w"]) fun _ _ _ _ _ _ us hl => match us, hl with | [_], _ => rfl
  have F29 := fun_mk (st := s_l_all_so) l29 c29 k29
  have b29 := F29.binds (ps := ["_law_told", "_law_dues"]) fun _ _ _ _ _ _ us hl => match us, hl with | [_, _], _ => rfl
  have F30 := fun_mk (st := s_law) l30 c30 k30
  have b30 := F30.binds (ps := ["_law_script"]) fun _ _ _ _ _ _ us hl => match us, hl with | [_], _ => rfl
  exact ⟨PySem.W.fnOf "law" "law" (defArgs s_law) (defBody s_law) (defScope s_law) .none kV30 dc30 pm30 an30 cd30 ct30, fun s v => .of_eq rfl, fun base _ _ => ok_law (T := {
    z_len := PySem.W.mg_none_of X G z_len
    z_abs := PySem.W.mg_none_of X G z_abs
    z_int := PySem.W.mg_none_of X G z_int
    z_isinstance := PySem.W.mg_none_of X G z_isinstance
    z_list := PySem.W.mg_none_of X G z_list
    z_tuple := PySem.W.mg_none_of X G z_tuple
    z_bool := PySem.W.mg_none_of X G z_bool
    z_str := PySem.W.mg_none_of X G z_str
    z_all := PySem.W.mg_none_of X G z_all
    z_any := PySem.W.mg_none_of X G z_any
    z_zip := PySem.W.mg_none_of X G z_zip
    z_range := PySem.W.mg_none_of X G z_range
    C_Wedge := C_Wedge
    c_Wedge := ⟨pg_Wedge, hd_Wedge, po_Wedge, sa_Wedge⟩
    g_Wedge := PySem.W.mg_of X G aC_Wedge
    n_Wedge_pairs := n_Wedge_pairs
    n_Wedge_bits := n_Wedge_bits
    i_Wedge := ⟨ca_Wedge, cn_Wedge, ct_Wedge, cm_Wedge, if_pos (beq_self_eq_true _)⟩
    e_PRIMES := e_PRIMES
    m_PRIMES := PySem.W.mg_of X G aE_PRIMES
    q_PRIMES := fun H => tupO_sq lE_PRIMES vE_PRIMES
    e_PAIRS := e_PAIRS
    m_PAIRS := PySem.W.mg_of X G aE_PAIRS
    l_PAIRS := vE_PAIRS.elim fun xs h => ⟨xs, h.1, fun H => tupO_sq lE_PAIRS h.2⟩
    e_bits := e_bits
    q_bits := fun H => tupO_sq lE_bits vE_bits
    f_is_number := f1
    d_is_number := PySem.W.fnOf "is_number" "is_number" (defArgs s_is_number) (defBody s_is_number) (defScope s_is_number) .none kV1 dc1 pm1 an1 cd1 ct1
    F_is_number := F1
    b_is_number := b1
    m_is_number := PySem.W.mg_of X G a1
    f_is_listed := f2
    d_is_listed := PySem.W.fnOf "is_listed" "is_listed" (defArgs s_is_listed) (defBody s_is_listed) (defScope s_is_listed) .none kV2 dc2 pm2 an2 cd2 ct2
    F_is_listed := F2
    b_is_listed := b2
    m_is_listed := PySem.W.mg_of X G a2
    f_are_numbers := f3
    d_are_numbers := PySem.W.fnOf "are_numbers" "are_numbers" (defArgs s_are_numbers) (defBody s_are_numbers) (defScope s_are_numbers) .none kV3 dc3 pm3 an3 cd3 ct3
    F_are_numbers := F3
    b_are_numbers := b3
    m_are_numbers := PySem.W.mg_of X G a3
    f_are_bits := f4
    d_are_bits := PySem.W.fnOf "are_bits" "are_bits" (defArgs s_are_bits) (defBody s_are_bits) (defScope s_are_bits) .none kV4 dc4 pm4 an4 cd4 ct4
    F_are_bits := F4
    b_are_bits := b4
    m_are_bits := PySem.W.mg_of X G a4
    f_Wedge_init := f5
    d_Wedge_init := PySem.W.fnOf "__init__" "Wedge.__init__" (defArgs s_Wedge_init) (defBody s_Wedge_init) (defScope s_Wedge_init) (.ref dT5) kV5 dc5 pm5 an5 cd5 ct5
    F_Wedge_init := F5
    ds_Wedge_init := ds1
    v_Wedge_init := v1
    b_Wedge_init := b5
    b1_Wedge_init := bb5
    k_Wedge := ⟨mk_Wedge, a5, i5, kc_Wedge⟩
    f_Wedge_pairs := f6
    d_Wedge_pairs := PySem.W.fnOf "pairs" "Wedge.pairs" (defArgs s_Wedge_pairs) (defBody s_Wedge_pairs) (defScope s_Wedge_pairs) .none kV6 dc6 pm6 an6 cd6 ct6
    F_Wedge_pairs := F6
    b_Wedge_pairs := b6
    a_Wedge_pairs := ⟨a6, i6, k6⟩
    f_Wedge_bits := f7
    d_Wedge_bits := PySem.W.fnOf "bits" "Wedge.bits" (defArgs s_Wedge_bits) (defBody s_Wedge_bits) (defScope s_Wedge_bits) .none kV7 dc7 pm7 an7 cd7 ct7
    F_Wedge_bits := F7
    b_Wedge_bits := b7
    a_Wedge_bits := ⟨a7, i7, k7⟩
    f_Wedge_add := f8
    d_Wedge_add := PySem.W.fnOf "__add__" "Wedge.__add__" (defArgs s_Wedge_add) (defBody s_Wedge_add) (defScope s_Wedge_add) .none kV8 dc8 pm8 an8 cd8 ct8
    F_Wedge_add := F8
    b_Wedge_add := b8
    a_Wedge_add := ⟨a8, i8, k8⟩
    f_Wedge_sub := f9
    d_Wedge_sub := PySem.W.fnOf "__sub__" "Wedge.__sub__" (defArgs s_Wedge_sub) (defBody s_Wedge_sub) (defScope s_Wedge_sub) .none kV9 dc9 pm9 an9 cd9 ct9
    F_Wedge_sub := F9
    b_Wedge_sub := b9
    a_Wedge_sub := ⟨a9, i9, k9⟩
    f_Wedge_neg := f10
    d_Wedge_neg := PySem.W.fnOf "__neg__" "Wedge.__neg__" (defArgs s_Wedge_neg) (defBody s_Wedge_neg) (defScope s_Wedge_neg) .none kV10 dc10 pm10 an10 cd10 ct10
    F_Wedge_neg := F10
    b_Wedge_neg := b10
    a_Wedge_neg := ⟨a10, i10, k10⟩
    f_Wedge_mul := f11
    d_Wedge_mul := PySem.W.fnOf "__mul__" "Wedge.__mul__" (defArgs s_Wedge_mul) (defBody s_Wedge_mul) (defScope s_Wedge_mul) .none kV11 dc11 pm11 an11 cd11 ct11
    F_Wedge_mul := F11
    b_Wedge_mul := b11
    a_Wedge_mul := ⟨a11, i11, k11⟩
    f_Wedge_rmul := f12
    d_Wedge_rmul := PySem.W.fnOf "__rmul__" "Wedge.__rmul__" (defArgs s_Wedge_rmul) (defBody s_Wedge_rmul) (defScope s_Wedge_rmul) .none kV12 dc12 pm12 an12 cd12 ct12
    F_Wedge_rmul := F12
    b_Wedge_rmul := b12
    a_Wedge_rmul := ⟨a12, i12, k12⟩
    f_Wedge_eq := f13
    d_Wedge_eq := PySem.W.fnOf "__eq__" "Wedge.__eq__" (defArgs s_Wedge_eq) (defBody s_Wedge_eq) (defScope s_Wedge_eq) .none kV13 dc13 pm13 an13 cd13 ct13
    F_Wedge_eq := F13
    b_Wedge_eq := b13
    a_Wedge_eq := ⟨a13, i13, k13⟩
    f_Wedge_bool := f14
    d_Wedge_bool := PySem.W.fnOf "__bool__" "Wedge.__bool__" (defArgs s_Wedge_bool) (defBody s_Wedge_bool) (defScope s_Wedge_bool) .none kV14 dc14 pm14 an14 cd14 ct14
    F_Wedge_bool := F14
    b_Wedge_bool := b14
    a_Wedge_bool := ⟨a14, i14, k14⟩
    f_nothing := f15
    d_nothing := PySem.W.fnOf "nothing" "nothing" (defArgs s_nothing) (defBody s_nothing) (defScope s_nothing) .none kV15 dc15 pm15 an15 cd15 ct15
    F_nothing := F15
    b_nothing := b15
    m_nothing := PySem.W.mg_of X G a15
    f_l_bag := f16
    d_l_bag := PySem.W.fnOf "_law_bag" "_law_bag" (defArgs s_l_bag) (defBody s_l_bag) (defScope s_l_bag) .none kV16 dc16 pm16 an16 cd16 ct16
    F_l_bag := F16
    b_l_bag := b16
    m_l_bag := PySem.W.mg_of X G a16
    f_l_draw := f17
    d_l_draw := PySem.W.fnOf "_law_draw" "_law_draw" (defArgs s_l_draw) (defBody s_l_draw) (defScope s_l_draw) .none kV17 dc17 pm17 an17 cd17 ct17
    F_l_draw := F17
    b_l_draw := b17
    m_l_draw := PySem.W.mg_of X G a17
    f_l_of := f18
    d_l_of := PySem.W.fnOf "_law_of" "_law_of" (defArgs s_l_of) (defBody s_l_of) (defScope s_l_of) .none kV18 dc18 pm18 an18 cd18 ct18
    F_l_of := F18
    b_l_of := b18
    m_l_of := PySem.W.mg_of X G a18
    f_l_same := f19
    d_l_same := PySem.W.fnOf "_law_same" "_law_same" (defArgs s_l_same) (defBody s_l_same) (defScope s_l_same) .none kV19 dc19 pm19 an19 cd19 ct19
    F_l_same := F19
    b_l_same := b19
    m_l_same := PySem.W.mg_of X G a19
    f_l_twos := f20
    d_l_twos := PySem.W.fnOf "_law_twos" "_law_twos" (defArgs s_l_twos) (defBody s_l_twos) (defScope s_l_twos) .none kV20 dc20 pm20 an20 cd20 ct20
    F_l_twos := F20
    b_l_twos := b20
    m_l_twos := PySem.W.mg_of X G a20
    f_l_added := f21
    d_l_added := PySem.W.fnOf "_law_added" "_law_added" (defArgs s_l_added) (defBody s_l_added) (defScope s_l_added) .none kV21 dc21 pm21 an21 cd21 ct21
    F_l_added := F21
    b_l_added := b21
    m_l_added := PySem.W.mg_of X G a21
    f_l_none := f22
    d_l_none := PySem.W.fnOf "_law_none" "_law_none" (defArgs s_l_none) (defBody s_l_none) (defScope s_l_none) .none kV22 dc22 pm22 an22 cd22 ct22
    F_l_none := F22
    b_l_none := b22
    m_l_none := PySem.W.mg_of X G a22
    f_l_wedge_seen := f23
    d_l_wedge_seen := PySem.W.fnOf "_law_wedge_seen" "_law_wedge_seen" (defArgs s_l_wedge_seen) (defBody s_l_wedge_seen) (defScope s_l_wedge_seen) .none kV23 dc23 pm23 an23 cd23 ct23
    F_l_wedge_seen := F23
    b_l_wedge_seen := b23
    m_l_wedge_seen := PySem.W.mg_of X G a23
    f_l_wedge_due := f24
    d_l_wedge_due := PySem.W.fnOf "_law_wedge_due" "_law_wedge_due" (defArgs s_l_wedge_due) (defBody s_l_wedge_due) (defScope s_l_wedge_due) .none kV24 dc24 pm24 an24 cd24 ct24
    F_l_wedge_due := F24
    b_l_wedge_due := b24
    m_l_wedge_due := PySem.W.mg_of X G a24
    f_l_wedge_drawn := f25
    d_l_wedge_drawn := PySem.W.fnOf "_law_wedge_drawn" "_law_wedge_drawn" (defArgs s_l_wedge_drawn) (defBody s_l_wedge_drawn) (defScope s_l_wedge_drawn) .none kV25 dc25 pm25 an25 cd25 ct25
    F_l_wedge_drawn := F25
    b_l_wedge_drawn := b25
    m_l_wedge_drawn := PySem.W.mg_of X G a25
    f_l_wedge_made := f26
    d_l_wedge_made := PySem.W.fnOf "_law_wedge_made" "_law_wedge_made" (defArgs s_l_wedge_made) (defBody s_l_wedge_made) (defScope s_l_wedge_made) .none kV26 dc26 pm26 an26 cd26 ct26
    F_l_wedge_made := F26
    b_l_wedge_made := b26
    m_l_wedge_made := PySem.W.mg_of X G a26
    f_l_times := f27
    d_l_times := PySem.W.fnOf "_law_times" "_law_times" (defArgs s_l_times) (defBody s_l_times) (defScope s_l_times) .none kV27 dc27 pm27 an27 cd27 ct27
    F_l_times := F27
    b_l_times := b27
    m_l_times := PySem.W.mg_of X G a27
    f_l_opposite := f28
    d_l_opposite := PySem.W.fnOf "_law_opposite" "_law_opposite" (defArgs s_l_opposite) (defBody s_l_opposite) (defScope s_l_opposite) .none kV28 dc28 pm28 an28 cd28 ct28
    F_l_opposite := F28
    b_l_opposite := b28
    m_l_opposite := PySem.W.mg_of X G a28
    f_l_all_so := f29
    d_l_all_so := PySem.W.fnOf "_law_all_so" "_law_all_so" (defArgs s_l_all_so) (defBody s_l_all_so) (defScope s_l_all_so) .none kV29 dc29 pm29 an29 cd29 ct29
    F_l_all_so := F29
    b_l_all_so := b29
    m_l_all_so := PySem.W.mg_of X G a29
    f_law := fa
    d_law := PySem.W.fnOf "law" "law" (defArgs s_law) (defBody s_law) (defScope s_law) .none kV30 dc30 pm30 an30 cd30 ct30
    F_law := F30
    b_law := b30
    m_law := PySem.W.mg_of X G a30
    sf := h_sf
    sI := h_sI
    sC := h_sC
    iM := ⟨_, h_iM⟩
    iR := ⟨_, h_iR⟩
  } )⟩
theorem walk {l : PySem.W.OpenLaw} {q : Program} {loose : List Str} {XP : (Str → Option Value) → Heap → Prop} {YP : World → Heap → Prop} {d : DefRec} {K : Params → PySem.W.Frag} (hn : l.most = some 63) (hdf : d.params.defaults = [])
    (hY : ∀ (w : World) (h : Heap), YP w h → (K w.params).In h)
    (F : ∀ (w : World) (mg : Str → Option Value) (fa : Addr) (h : Heap), (K w.params).In h → h.Ns mainGlobals mg → mg d.name = some (.ref fa) →
      ∃ fd : FuncData, (∀ (s : Shared) (u : Value), BindsTo s fd ⟨[u], []⟩ [("_law_script", u)]) ∧ ∀ base : Heap, (K w.params).In base → base.Ns mainGlobals mg → FnOk l.prog w (K w.params) mg base CX0 7 fa fd ["_law_script"] (spLaw (K w.params))) :
    PySem.W.WalkO q loose XP YP l.row.toRowW d [] (fun f vs => PySem.call f vs) :=
  L2.walk_of (n := 63) (k := 7) (x := "_law_script") (CX := fun _ => CX0) (sp := fun w => spLaw (K w.params)) hn (by decide) hdf ⟨rfl, by decide, by decide⟩ hY F (fun _ _ a ns hl _ hS => ⟨a, ns, rfl, hS, hl, fun _ => rfl⟩) fun _ _ _ _ _ z => z
end TL
open PySem PySem.W PyProof.Rows
set_option maxRecDepth 100000 in
set_option maxHeartbeats 0 in
theorem PySem.Challenge.cw_turnsleft_k07_whole_wedges_add_holds : PySem.Challenge.rw_turnsleft_k07_whole_wedges_add.Holds := by
  w_on; o_law; k_head; (case hw => w_witness2)
  k_fill
  refine TL.walk (l := PySem.Challenge.rw_turnsleft_k07_whole_wedges_add) rfl rfl (fun w h Y => PySem.W.kIn_of Y) ?F
  case F =>
    intro w mg fa h KX G hmg
    refine' TL.all_mk KX G hmg ?z_len ?z_abs ?z_int ?z_isinstance ?z_list ?z_tuple ?z_bool ?z_str ?z_all ?z_any ?z_zip ?z_range ?aC_Wedge ?pg_Wedge ?hd_Wedge ?po_Wedge ?sa_Wedge ?n_Wedge_pairs ?n_Wedge_bits ?ca_Wedge ?cm_Wedge ?cn_Wedge ?ct_Wedge ?aE_PRIMES ?lE_PRIMES ?vE_PRIMES ?aE_PAIRS ?lE_PAIRS ?vE_PAIRS ?a1 ?l1 ?c1 ?k1 ?a2 ?l2 ?c2 ?k2 ?a3 ?l3 ?c3 ?k3 ?a4 ?l4 ?c4 ?k4 ?a5 ?i5 ?l5 ?c5 ?k5 ?lT5 ?vT5 ?lE_bits ?vE_bits ?mk_Wedge ?kc_Wedge ?a6 ?i6 ?l6 ?c6 ?k6 ?a7 ?i7 ?l7 ?c7 ?k7 ?a8 ?i8 ?l8 ?c8 ?k8 ?a9 ?i9 ?l9 ?c9 ?k9 ?a10 ?i10 ?l10 ?c10 ?k10 ?a11 ?i11 ?l11 ?c11 ?k11 ?a12 ?i12 ?l12 ?c12 ?k12 ?a13 ?i13 ?l13 ?c13 ?k13 ?a14 ?i14 ?l14 ?c14 ?k14 ?a15 ?l15 ?c15 ?k15 ?a16 ?l16 ?c16 ?k16 ?a17 ?l17 ?c17 ?k17 ?a18 ?l18 ?c18 ?k18 ?a19 ?l19 ?c19 ?k19 ?a20 ?l20 ?c20 ?k20 ?a21 ?l21 ?c21 ?k21 ?a22 ?l22 ?c22 ?k22 ?a23 ?l23 ?c23 ?k23 ?a24 ?l24 ?c24 ?k24 ?a25 ?l25 ?c25 ?k25 ?a26 ?l26 ?c26 ?k26 ?a27 ?l27 ?c27 ?k27 ?a28 ?l28 ?c28 ?k28 ?a29 ?l29 ?c29 ?k29 ?a30 ?l30 ?c30 ?k30 ?h_sf ?h_sI ?h_sC ?h_iM ?h_iR
    (case z_len => k_is)
    (case z_abs => k_is)
    (case z_int => k_is)
    (case z_isinstance => k_is)
    (case z_list => k_is)
    (case z_tuple => k_is)
    (case z_bool => k_is)
    (case z_str => k_is)
    (case z_all => k_is)
    (case z_any => k_is)
    (case z_zip => k_is)
    (case z_range => k_is)
    (case aC_Wedge => k_is)
    (case pg_Wedge => k_is)
    (case hd_Wedge => k_is)
    (case po_Wedge => k_is)
    (case sa_Wedge => k_is)
    (case n_Wedge_pairs => k_is)
    (case n_Wedge_bits => k_is)
    (case ca_Wedge => k_is)
    (case cm_Wedge => k_is)
    (case cn_Wedge => k_is)
    (case ct_Wedge => k_is)
    (case aE_PRIMES => k_is)
    (case lE_PRIMES => k_is)
    (case vE_PRIMES => exact ⟨_, _, rfl, rfl, by decide, .cons ⟨_, rfl⟩ (.cons ⟨_, rfl⟩ (.cons ⟨_, rfl⟩ (.cons ⟨_, rfl⟩ (.cons ⟨_, rfl⟩ (.cons ⟨_, rfl⟩ (.nil))))))⟩)
    (case aE_PAIRS => k_is)
    (case lE_PAIRS => k_is)
    (case vE_PAIRS => exact ⟨[_, _, _, _, _, _, _, _, _, _, _, _, _, _, _], rfl, _, _, rfl, rfl, by decide, .cons (show L2.RelV (L2.V.ref _) _ from rfl) (.cons (show L2.RelV (L2.V.ref _) _ from rfl) (.cons (show L2.RelV (L2.V.ref _) _ from rfl) (.cons (show L2.RelV (L2.V.ref _) _ from rfl) (.cons (show L2.RelV (L2.V.ref _) _ from rfl) (.cons (show L2.RelV (L2.V.ref _) _ from rfl) (.cons (show L2.RelV (L2.V.ref _) _ from rfl) (.cons (show L2.RelV (L2.V.ref _) _ from rfl) (.cons (show L2.RelV (L2.V.ref _) _ from rfl) (.cons (show L2.RelV (L2.V.ref _) _ from rfl) (.cons (show L2.RelV (L2.V.ref _) _ from rfl) (.cons (show L2.RelV (L2.V.ref _) _ from rfl) (.cons (show L2.RelV (L2.V.ref _) _ from rfl) (.cons (show L2.RelV (L2.V.ref _) _ from rfl) (.cons (show L2.RelV (L2.V.ref _) _ from rfl) (.nil)))))))))))))))⟩)
    (case a1 => k_is)
    (case l1 => k_is)
    (case c1 => k_is)
    (case k1 => k_is)
    (case a2 => k_is)
    (case l2 => k_is)
    (case c2 => k_is)
    (case k2 => k_is)
    (case a3 => k_is)
    (case l3 => k_is)
    (case c3 => k_is)
    (case k3 => k_is)
    (case a4 => k_is)
    (case l4 => k_is)
    (case c4 => k_is)
    (case k4 => k_is)
    (case a5 => k_is)
    (case i5 => k_is)
    (case l5 => k_is)
    (case c5 => k_is)
    (case k5 => k_is)
    (case lT5 => k_is)
    (case vT5 => exact ⟨[_], _, rfl, .cons rfl .nil⟩)
    (case lE_bits => k_is)
    (case vE_bits => exact ⟨_, _, rfl, rfl, by decide, .cons ⟨_, rfl⟩ (.cons ⟨_, rfl⟩ (.cons ⟨_, rfl⟩ (.cons ⟨_, rfl⟩ (.cons ⟨_, rfl⟩ (.cons ⟨_, rfl⟩ (.nil))))))⟩)
    (case mk_Wedge => k_is)
    (case kc_Wedge => k_is)
    (case a6 => k_is)
    (case i6 => k_is)
    (case l6 => k_is)
    (case c6 => k_is)
    (case k6 => k_is)
    (case a7 => k_is)
    (case i7 => k_is)
    (case l7 => k_is)
    (case c7 => k_is)
    (case k7 => k_is)
    (case a8 => k_is)
    (case i8 => k_is)
    (case l8 => k_is)
    (case c8 => k_is)
    (case k8 => k_is)
    (case a9 => k_is)
    (case i9 => k_is)
    (case l9 => k_is)
    (case c9 => k_is)
    (case k9 => k_is)
    (case a10 => k_is)
    (case i10 => k_is)
    (case l10 => k_is)
    (case c10 => k_is)
    (case k10 => k_is)
    (case a11 => k_is)
    (case i11 => k_is)
    (case l11 => k_is)
    (case c11 => k_is)
    (case k11 => k_is)
    (case a12 => k_is)
    (case i12 => k_is)
    (case l12 => k_is)
    (case c12 => k_is)
    (case k12 => k_is)
    (case a13 => k_is)
    (case i13 => k_is)
    (case l13 => k_is)
    (case c13 => k_is)
    (case k13 => k_is)
    (case a14 => k_is)
    (case i14 => k_is)
    (case l14 => k_is)
    (case c14 => k_is)
    (case k14 => k_is)
    (case a15 => k_is)
    (case l15 => k_is)
    (case c15 => k_is)
    (case k15 => k_is)
    (case a16 => k_is)
    (case l16 => k_is)
    (case c16 => k_is)
    (case k16 => k_is)
    (case a17 => k_is)
    (case l17 => k_is)
    (case c17 => k_is)
    (case k17 => k_is)
    (case a18 => k_is)
    (case l18 => k_is)
    (case c18 => k_is)
    (case k18 => k_is)
    (case a19 => k_is)
    (case l19 => k_is)
    (case c19 => k_is)
    (case k19 => k_is)
    (case a20 => k_is)
    (case l20 => k_is)
    (case c20 => k_is)
    (case k20 => k_is)
    (case a21 => k_is)
    (case l21 => k_is)
    (case c21 => k_is)
    (case k21 => k_is)
    (case a22 => k_is)
    (case l22 => k_is)
    (case c22 => k_is)
    (case k22 => k_is)
    (case a23 => k_is)
    (case l23 => k_is)
    (case c23 => k_is)
    (case k23 => k_is)
    (case a24 => k_is)
    (case l24 => k_is)
    (case c24 => k_is)
    (case k24 => k_is)
    (case a25 => k_is)
    (case l25 => k_is)
    (case c25 => k_is)
    (case k25 => k_is)
    (case a26 => k_is)
    (case l26 => k_is)
    (case c26 => k_is)
    (case k26 => k_is)
    (case a27 => k_is)
    (case l27 => k_is)
    (case c27 => k_is)
    (case k27 => k_is)
    (case a28 => k_is)
    (case l28 => k_is)
    (case c28 => k_is)
    (case k28 => k_is)
    (case a29 => k_is)
    (case l29 => k_is)
    (case c29 => k_is)
    (case k29 => k_is)
    (case a30 => k_is)
    (case l30 => k_is)
    (case c30 => k_is)
    (case k30 => k_is)
    (case h_sf => first | rfl | k_is)
    (case h_sI => first | rfl | k_is)
    (case h_sC => first | rfl | k_is)
    (case h_iM => k_is)
    (case h_iR => k_is)
