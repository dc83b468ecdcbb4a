import PyProof.Rows.All
import Wide.All
import OpenK.AllK
import Wide.FinOn
import HandS.ForMost
import HandS.OwnEq
import HandS.SlotsOwn
import KE.KOpsOwn
import PyProof.ListMulAny
import PyProof.ConsumeWalk
import PyProof.WalksMore
import HandS.IsInst
import HandS.Wide
import HandS.Zip
import HandS.Defaults
import HandS.Walk
import KE.BitLaws
import KE.KCallOwn
import HandS.ClsMeth
import HandS.MakeKwOnly
import PyProof.InstEq
import KE.KFmtOwn
import HandS.List
import PyProof.WalkInts
import HandS.RevRange
import HandS.Conv
import HandS.Gcd
import HandS.Property
import HandS.WideBits
import HandS.Iter
import KE.GoesEnum
import KE.GoesZip
import HandS.FStr
import KE.DataAny
import HandS.Style
import PySem.Challenge.RW_turnsleft_k38_ratios_near_one
set_option Elab.async false
set_option linter.all false
set_option maxRecDepth 100000
namespace TL
open PySem PySem.Spec PyProof.Rows L2
section
variable {X : Cx} {pins : List (Addr × Obj)} {σ : L2.St} {H : Hp} {s : Shared} {a b C dx dy f : Addr} {fs gs : List (Str × V)} {k : Nat} {fd : FuncData} {ps : List Str} {sp : Sp} {CX : CXT} {E : XK}
theorem inst_at (I : Inv X pins σ H s) (h : H a = some (.ins C dx fs)) : ∃ od, PySem.W.InstAt s.heap a (PySem.W.instObj C dx) C (some od) := by
  obtain ⟨mA, J, _⟩ := ins_get I.hok h
  obtain ⟨od, J, _⟩ := J.look
  exact ⟨od, J⟩
/-- what an own operator's def asks: the def that stands at f in the class at C under a name -/
structure OpAt (K : PySem.W.Frag) (C f : Addr) (name : Str) : Prop where
  sf : PySem.W.selfFirst K C = true
  at_ : PySem.W.findIn K (.ref C) name = some (some (.ref f))
  fn : PySem.W.isFn K (.ref f) = true
/-- x op y, both instances of the class at C -/
def rOw (C : Addr) (sp : Sp) (E : XK) : R2 := fun x y H Q => ∃ a dx fs b dy gs, x = .ref a ∧ y = .ref b ∧ H a = some (.ins C dx fs) ∧ H b = some (.ins C dy gs) ∧ sp [x, y] H Q E
theorem cb {P : Value → Shared → Prop} {z : V} {v : Value} {s' : Shared} (r : RelV z v) (h : P v s') : PySem.W.CmpBack P v s' := by
  cases z with
  | non => cases (show v = Value.none from r); exact h
  | bl b => cases (show v = Value.bool b from r); exact h
  | int i => obtain ⟨t, e⟩ := (show ∃ t, v = Value.int i t from r); cases e; exact h
  | str x => obtain ⟨t, e⟩ := (show ∃ t, v = Value.str x t from r); cases e; exact h
  | byt b => obtain ⟨t, e⟩ := (show ∃ t, v = Value.bytes b t from r); cases e; exact h
  | flt b => obtain ⟨t, e⟩ := (show ∃ t, v = Value.float b t from r); cases e; exact h
  | ref a => cases (show v = Value.ref a from r); exact h
  | ty n => cases (show v = Value.type n from r); exact h
theorem op_ow {op : Operator} (o : OpAt X.K C f (PySem.dunder op.info.2)) (F : FnOk X.prog X.w X.K X.mg X.base CX k f fd ps sp) (hr : Room k X.A) (hb : Binds X.K fd ps []) (hx : Passes CX X E) : OpR X (binaryOp op) (rOw C sp E) := by
  intro pins s σ H x y v u Q I rx ry h
  obtain ⟨a, dx, fs, b, dy, gs, rfl, rfl, ha, hb', q⟩ := h
  cases (show v = Value.ref a from rx)
  cases (show u = Value.ref b from ry)
  obtain ⟨od, J⟩ := inst_at I ha
  obtain ⟨od', J'⟩ := inst_at I hb'
  obtain ⟨m, hF⟩ := I.fr
  refine PySem.W.binop_K hF I.ok.mod.kin J J'.type o.sf o.at_ o.fn ?_
  refine wpAny_mono (run_fn (us := [.ref a, .ref b]) (vs := [.ref a, .ref b]) F hr hb .nil hx I (.cons rfl (.cons rfl .nil)) q) (fun w s' z => ?_) fun _ _ x => x
  obtain ⟨z', H', I', rz, qz⟩ := z
  exact cb rz ⟨z', H', I', rz, qz⟩
/-- x op n, x an instance of the class at C, n a whole number -/
def rOwI (C : Addr) (sp : Sp) (E : XK) : R2 := fun x y H Q => ∃ a dx fs n, x = .ref a ∧ y = .int n ∧ H a = some (.ins C dx fs) ∧ sp [x, y] H Q E
theorem op_owI {op : Operator} {g : Addr} {fo ro : Option Value} (o : OpAt X.K C f (PySem.dunder op.info.2)) (hr1 : PySem.W.findIn X.K (.ref C) (PySem.dunderR op.info.2) = some (some (.ref g)))
    (h1 : PySem.W.findIn X.K (.type "int") (PySem.dunder op.info.2) = some fo) (h2 : PySem.W.findIn X.K (.type "int") (PySem.dunderR op.info.2) = some ro) (hsub : PySem.W.subIn X.K (.type "int") (.ref C) = some false)
    (F : FnOk X.prog X.w X.K X.mg X.base CX k f fd ps sp) (hr : Room k X.A) (hb : Binds X.K fd ps []) (hx : Passes CX X E) : OpR X (binaryOp op) (rOwI C sp E) := by
  intro pins s σ H x y v u Q I rx ry h
  obtain ⟨a, dx, fs, n, rfl, rfl, ha, q⟩ := h
  cases (show v = Value.ref a from rx)
  obtain ⟨t, rfl⟩ := (show ∃ t, u = Value.int n t from ry)
  obtain ⟨od, J⟩ := inst_at I ha
  obtain ⟨m, hF⟩ := I.fr
  refine PySem.W.ksp_binT (T := "int") hF I.ok.mod.kin J rfl o.sf o.at_ o.fn hr1 (.inr ⟨_, rfl⟩) h1 h2 hsub ?_
  refine wpAny_mono (run_fn (us := [.ref a, .int n t]) (vs := [.ref a, .int n]) F hr hb .nil hx I (.cons rfl (.cons ⟨_, rfl⟩ .nil)) q) (fun w s' z => ?_) fun _ _ x => x
  obtain ⟨z', H', I', rz, qz⟩ := z
  exact cb rz ⟨z', H', I', rz, qz⟩
/-- -x -/
def rNeg (C : Addr) (sp : Sp) (E : XK) : V → Hp → VK → Prop := fun x H Q => ∃ a dx fs, x = .ref a ∧ H a = some (.ins C dx fs) ∧ sp [x] H Q E
theorem un_ow (at_ : PySem.W.findIn X.K (.ref C) "__neg__" = some (some (.ref f))) (fn : PySem.W.isFn X.K (.ref f) = true) (F : FnOk X.prog X.w X.K X.mg X.base CX k f fd ps sp) (hr : Room k X.A) (hb : Binds X.K fd ps []) (hx : Passes CX X E) :
    UnR X (unaryOp .USub) (rNeg C sp E) := by
  intro pins s σ H x v Q I rx h
  obtain ⟨a, dx, fs, rfl, ha, q⟩ := h
  cases (show v = Value.ref a from rx)
  obtain ⟨od, J⟩ := inst_at I ha
  obtain ⟨m, hF⟩ := I.fr
  refine PySem.W.ksp_neg hF I.ok.mod.kin J at_ fn ?_
  exact run_fn (us := [.ref a]) (vs := [.ref a]) F hr hb .nil hx I (.cons rfl .nil) q
/-- x == y, both instances of the class at C -/
theorem op_owEq (at_ : PySem.W.findIn X.K (.ref C) "__eq__" = some (some (.ref f))) (fn : PySem.W.isFn X.K (.ref f) = true) (F : FnOk X.prog X.w X.K X.mg X.base CX k f fd ps sp) (hr : Room k X.A) (hb : Binds X.K fd ps []) (hx : Passes CX X E) :
    OpR X (compareOp .Eq) (rOw C sp E) := by
  intro pins s σ H x y v u Q I rx ry h
  obtain ⟨a, dx, fs, b, dy, gs, rfl, rfl, ha, hb', q⟩ := h
  cases (show v = Value.ref a from rx)
  cases (show u = Value.ref b from ry)
  obtain ⟨od, J⟩ := inst_at I ha
  obtain ⟨od', J'⟩ := inst_at I hb'
  obtain ⟨m, hF⟩ := I.fr
  refine PySem.W.cmp_K (op := .Eq) (tb := .ref C) hr.units0 hF I.ok.mod.kin J J'.type (by simp [PySem.W.notFirst]) at_ fn ?_
  refine wpAny_mono (run_fn (us := [.ref a, .ref b]) (vs := [.ref a, .ref b]) F hr hb .nil hx I (.cons rfl (.cons rfl .nil)) q) (fun w s' z => ?_) fun _ _ x => x
  obtain ⟨z', H', I', rz, qz⟩ := z
  exact cb rz ⟨z', H', I', rz, qz⟩
/-- any(t), t a tuple of whole numbers -/
theorem iter_anyT {prog : Program} {w : World} {A : Around} {E : Value → Shared → Prop} {s : Shared} {l : Addr} {items : Array Value} {Q : Value → Shared → Prop} (hl : s.heap.IsTuple l items)
    (h : ∀ s₂ : Shared, s₂ = { s with heap := s.heap.push { cls := .type "tuple_iterator", data := .fields #[.ref l, .int 0 0] } } →
      (s₂.heap.IsTupleIter s.heap.objs.size l 0 ∧ s₂.heap.IsTuple l items) → l ≠ s.heap.objs.size → Q (.ref s.heap.objs.size) s₂) : wpAny (model prog w) A (pyIter (.ref l)) Q E s := by
  have hlt : l < s.heap.objs.size := by obtain ⟨_, e, _⟩ := hl; exact Heap.lt_size e
  exact wpAny_pyIter_tuple hl (h _ rfl ⟨⟨_, Heap.get?_push_size _ rfl, rfl, rfl⟩, hl.push _⟩ (Nat.ne_of_lt hlt))
theorem truth_ints {prog : Program} {w : World} {A : Around} {ns : List Int} {its : List Value} (e : Vals (ns.map V.int) its) :
    TruthOf prog w A (fun i v => its.toArray[i]? = some v) (fun i => ns.getD i 0 != 0) := fun i v s Q E hv hq => by
  have hv' : its[i]? = some v := by simpa using hv
  have hl := e.length
  rw [List.length_map] at hl
  have hi : i < its.length := (List.getElem?_eq_some_iff.mp hv').1
  have hi2 : i < ns.length := by omega
  obtain ⟨u, hu, ru⟩ := e.get (i := i) (x := V.int ns[i]) (by rw [List.getElem?_map, List.getElem?_eq_getElem hi2]; rfl)
  rw [hv'] at hu
  cases hu
  obtain ⟨t, rfl⟩ := ru
  have hg : ns.getD i 0 = ns[i] := by rw [List.getD_eq_getElem?_getD, List.getElem?_eq_getElem hi2]; rfl
  have hq' : Q (ns.getD i 0 != 0) s := hq
  rw [hg] at hq'
  exact PyProof.Rows.truthy_int hq'
theorem any_rangeI : ∀ ns : List Int, (List.range ns.length).any (fun i => ns.getD i 0 != 0) = ns.any (fun n => n != 0)
  | [] => rfl
  | b :: bs => by
    rw [List.length_cons, List.range_succ_eq_map, List.any_cons, List.any_map, List.any_cons, ← any_rangeI bs]
    all_goals rfl
def rAnyT (K : PySem.W.Frag) : List V → Hp → VK → Prop := fun vs H Q => ∃ (a : Addr) (ns : List Int), vs = [V.ref a] ∧ SqT K H a (ns.map V.int) ∧ Q (.bl (ns.any fun n => n != 0)) H
theorem cr_anyT (hc : X.calm = true) : CallR X (.builtin "any") (rAnyT X.K) := by
  intro pins s σ H vs us Q I r h
  obtain ⟨a, ns, rfl, hs, q⟩ := h
  obtain ⟨its, rv, hl, _⟩ := I.tuple hs
  rw [Vals.ref1 r]
  have hlen := rv.length
  rw [List.length_map] at hlen
  refine call_any_walk (iter_anyT (items := its.toArray) (show s.heap.IsTuple a its.toArray from hl) fun s₂ e2 st hne => ?_)
  subst e2
  refine ⟨_, _, _, _, _, _, _, rfl, Walks.tuple (A := X.A.in1) (I.ok.hd hc) _ a hne its.toArray, st, truth_ints rv, fun h' tk hk => ?_⟩
  refine ⟨.bl _, H, I.kept fun b o eo => hk b o (fun hmem => ?_) (Heap.get?_push_of_some _ eo), ?_, q⟩
  · rcases List.mem_cons.mp hmem with e1 | hmem
    · exact absurd (e1 ▸ Heap.lt_size eo) (Nat.lt_irrefl _)
    · cases hmem
  · show Value.bool _ = Value.bool _
    rw [← any_rangeI, List.size_toArray, ← hlen]
/-- bool(x), x an instance with its own __bool__ -/
theorem truthy_X {M : Model} {A : Around} {E' : Value → Shared → Prop} {s : Shared} {K : PySem.W.Frag} {x C f : Addr} {ox : Obj} {od : Option Obj} {Q : Bool → Shared → Prop} (X₀ : K.In s.heap) (I : PySem.W.InstAt s.heap x ox C od) (hs : PySem.W.findIn K (.ref C) "__bool__" = some (some (.ref f))) (hf : PySem.W.isFn K (.ref f) = true)
    (h : wpAny M A (call (.ref f) [.ref x]) (fun r s' => ∃ b, r = Value.bool b ∧ Q b s') E' s) : wpAny M A (truthy (.ref x)) Q E' s := by
  unfold truthy
  refine wpAny_bind (m := callSpecial? (.ref x) (Str.ofString "__bool__")) (PySem.W.special_fn X₀ I hs (beq_iff_eq.mp hf) (wpAny_mono h (fun r s' hr => ?_) fun _ _ y => y))
  obtain ⟨b, rfl, hr⟩ := hr
  exact wpAny_pure hr
theorem bool_own {prog : Program} {w : World} {A : Around} {E' : Value → Shared → Prop} {s : Shared} {K : PySem.W.Frag} {x C f : Addr} {ox : Obj} {od : Option Obj} {Q : Value → Shared → Prop} (X₀ : K.In s.heap) (I : PySem.W.InstAt s.heap x ox C od) (hs : PySem.W.findIn K (.ref C) "__bool__" = some (some (.ref f))) (hf : PySem.W.isFn K (.ref f) = true)
    (h : wpAny (model prog w) A.in1.in1 (call (.ref f) [.ref x]) (fun r s' => ∃ b, r = Value.bool b ∧ Q r s') E' s) : wpAny (model prog w) A (call (.type "bool") [.ref x]) Q E' s := by
  refine callType_codes (T := "bool") (Bi := Builtin.«object.__init__») (Q₁ := fun r s₁ => ∃ b, r = Value.bool b ∧ Q r s₁) PySem.F.called_bool (PySem.F.typeCall_bool_1 _) PySem.F.entry_object_init ?_ ?_
  · refine codeAny_of_tree ?_
    show wpAny _ A.in1.in1 (do checkBuiltinCall "bool.__new__" ⟨[.type "bool", .ref x], []⟩; again (.builtin "bool.__new__" ⟨[.type "bool", .ref x], []⟩)) _ _ s
    refine wpAny_bind (wpAny_of_eq (PySem.F.newCall_bool_1 _) (wpAny_pure ⟨plainId_quiet (by decide +kernel) _, codeAny_builtin PySem.F.entry_bool_new ?_⟩))
    rw [Around.under_plainId (by decide +kernel) _]
    unfold Builtin.«bool.__new__»
    refine wpAny_bind (wpAny_of_eq (a := true) rfl ?_)
    refine PySem.W.KFB.if_not rfl ?_
    refine wpAny_bind (wpAny_of_eq (a := true) PySem.F.conv_sub_bool ?_)
    refine PySem.W.KFB.if_not rfl ?_
    refine wpAny_bind (wpAny_of_eq (a := [Value.ref x]) rfl ?_)
    refine wpAny_bind (truthy_X X₀ I hs hf (wpAny_mono h (fun r s₁ hr => ?_) fun _ _ y => y))
    obtain ⟨b, rfl, hq⟩ := hr
    exact ⟨b, rfl, wpAny_pure ⟨b, rfl, hq⟩⟩
  · rintro obj s₁ ⟨b, rfl, hq⟩
    exact ⟨PySem.typeIs_bool _ _, PySem.F.args_object_init_2 _ _, object_init_meets PySem.F.called_bool.init.lookup PySem.F.called_bool.made (by decide) prog w A.in1 _ s₁ ⟨PySem.typeIs_bool _ _, rfl, hq⟩⟩
def rBoolOw (C : Addr) (sp : Sp) (E : XK) : List V → Hp → VK → Prop := fun vs H Q => ∃ a dx fs, vs = [.ref a] ∧ H a = some (.ins C dx fs) ∧ sp [.ref a] H (fun v H' => ∃ b, v = .bl b ∧ Q v H') E
theorem run_at2 {A : Around} {Q : VK} {us : List Value} {ws : List V} (F : FnOk X.prog X.w X.K X.mg X.base CX k f fd ps sp) (hr : Room k A) (e0 : Env0 X.prog X.w X.K X.mg X.base A X.stack s H) (hb : Binds X.K fd ps []) (hx : Passes CX X E) (I : Inv X pins σ H s) (r : Vals ws us) (h : sp ws H Q E) :
    wpAny (model X.prog X.w) A (call (.ref f) us) (EP X pins σ Q) X.xe s := by
  have hl : us.length = ps.length := by rw [← r.length]; exact F.len _ _ _ _ h
  refine wpAny_call (codeAny_mono (F.run A X.stack s H ⟨us, []⟩ us ws Q E hr e0 (by have := hb s us I.kIn (by simpa using hl); simpa using this) r h) fun r s' hq => ?_)
  cases r with
  | error e => exact hx pins σ H s e s' I hq
  | ok fl =>
    cases fl with
    | ret u => exact I.after hq
    | next => exact False.elim hq
    | brk => exact False.elim hq
    | cont => exact False.elim hq
theorem call_boolOw (at_ : PySem.W.findIn X.K (.ref C) "__bool__" = some (some (.ref f))) (fn : PySem.W.isFn X.K (.ref f) = true) (F : FnOk X.prog X.w X.K X.mg X.base CX k f fd ps sp) (hr : Room (k + 2) X.A) (hb : Binds X.K fd ps []) (hx : Passes CX X E) :
    CallR X (.type "bool") (rBoolOw C sp E) := by
  intro pins s σ H vs us Q I r h
  obtain ⟨a, dx, fs, rfl, ha, q⟩ := h
  obtain rfl := Vals.ref1 r
  obtain ⟨od, J⟩ := inst_at I ha
  have hr2 : Room k X.A.in1.in1 := (show Room (k + 1) X.A.in1 from Room.in1 hr).in1
  refine bool_own I.kIn J at_ fn (wpAny_mono (run_at2 (us := [.ref a]) (ws := [.ref a]) F hr2 I.env0.in1.in1 hb hx I (.cons rfl .nil) q) (fun w s' z => ?_) fun _ _ x => x)
  obtain ⟨z', H', I', rz, b, rfl, qz⟩ := z
  cases (show w = Value.bool b from rz)
  exact ⟨b, rfl, .bl b, H', I', rfl, qz⟩
/-- n op x, n a whole number, x an instance of the class at C with the reflected def -/
theorem int_mul_ref (a : Int) (t : Tok) (x C dx : Addr) :
    Meets (Builtin.«int.__mul__» ⟨[.int a t, .ref x], []⟩) (fun _ R s => (∃ od, s.heap.get? x = some (PySem.W.instObj C dx) ∧ od = dx) ∧ R (.ok (.ret Value.notImplemented)) s) :=
  .of_wp fun prog w A R s h => by obtain ⟨hp, g, d, tk, os⟩ := s; obtain ⟨⟨_, hl, _⟩, h⟩ := h; wp_walk; exact ⟨_, rfl, h⟩
def rIOw (C : Addr) (sp : Sp) (E : XK) : R2 := fun x y H Q => ∃ a dx fs n, x = .int n ∧ y = .ref a ∧ H a = some (.ins C dx fs) ∧ sp [y, x] H Q E
set_option maxHeartbeats 2000000 in
theorem binR {prog : Program} {w : World} {A : Around} {E' : Value → Shared → Prop} {s : Shared} {K : PySem.W.Frag} {x C f g : Addr} {dx : Addr} {od : Option Obj} {n : Int} {t : Tok} {Q : Value → Shared → Prop}
    (X : K.In s.heap) (I : PySem.W.InstAt s.heap x (PySem.W.instObj C dx) C od) (hc : PySem.W.selfFirst K C = true) (hs : PySem.W.findIn K (.ref C) (PySem.dunder "mul") = some (some (.ref g)))
    (hr : PySem.W.findIn K (.ref C) (PySem.dunderR "mul") = some (some (.ref f))) (hf : PySem.W.isFn K (.ref f) = true) (hsub : PySem.W.subIn K (.ref C) (.type "int") = some false) (hx : s.heap.get? x = some (PySem.W.instObj C dx))
    (h : wpAny (model prog w) A (call (.ref f) [.ref x, .int n t]) (PySem.W.CmpBack Q) E' s) : wpAny (model prog w) A (binaryOp .Mult (.int n t) (.ref x)) Q E' s := by
  obtain ⟨cd, rest, hcd, hm⟩ := PySem.W.ksp_first hc
  have one := PySem.W.ksp_try (name := PySem.dunderR "mul") X I hr hf h
  obtain ⟨hh, gg, d, tt, os⟩ := s
  have L1 : PySem.W.Looks (model prog w) hh (typeOf (.ref x)) (.ref C) := I.type
  have L2 : PySem.W.Looks (model prog w) hh (typeOf (.int n t)) (.type "int") := PySem.W.Looks.of_pure rfl
  have L3 : PySem.W.Looks (model prog w) hh (fillsNumberSlot (.ref C) "mul") true := PySem.W.fills_K (nm := "mul") X hcd hm hs
  have L4 : PySem.W.Looks (model prog w) hh (fillsNumberSlot (.type "int") "mul") true := PySem.W.Looks.of_pure PySem.F.fills_int_mul
  have L5 : PySem.W.Looks (model prog w) hh (isSubtype (.ref C) (.type "int")) false := PySem.W.looks_subIn X hsub
  have L7 : PySem.W.Looks (model prog w) hh (numberSlotInPython (.type "int") "mul") false := PySem.W.Looks.of_pure rfl
  have hne : (Value.type "int" == Value.ref C) = false := Bool.eq_false_iff.mpr fun q => by cases beq_iff_eq.mp q
  show wpAny _ _ (binaryOp .Mult (.int n t) (.ref x)) _ _ _
  simp only [binaryOp, Operator.info]
  refine wpAny_holding (wpAny_bind ?_)
  unfold binaryOp1
  refine wpAny_bind (L2.at (wpAny_bind (L1.at (wpAny_bind (L4.at ?_)))))
  simp only [hne, Bool.false_eq_true, if_false]
  refine wpAny_bind (L3.at ?_)
  simp only [Bool.and_self, if_true]
  refine wpAny_bind (L5.at ?_)
  simp only [Bool.false_eq_true, if_false, Bool.not_false, Bool.and_self, if_true, pure_bind]
  refine wpAny_bind (L7.at ?_)
  simp only [Bool.false_eq_true, if_false, pure_bind]
  refine wpAny_bind (wpAny_tryMethod_declines (PySem.typeIs_int _ n t) PySem.F.slot_int_mul (call_meets PySem.F.slot_int_mul (PySem.typeIs_int _ n t) PySem.F.entry_int_mul (PySem.F.args_int_mul_2 _ _) (int_mul_ref n t x C dx) ⟨⟨dx, hx, rfl⟩, rfl, ?_⟩))
  simp only [Bool.false_eq_true, if_false, pure_bind]
  refine wpAny_bind (wpAny_mono one (fun r s' hr' => ?_) fun _ _ e => e)
  obtain ⟨v, rfl, hq⟩ := hr'
  exact wpAny_bind (wpAny_rule (wpAny_pure (wpAny_pure hq)))
theorem op_IOw (o : OpAt X.K C f (PySem.dunderR "mul")) {g : Addr} (hm : PySem.W.findIn X.K (.ref C) (PySem.dunder "mul") = some (some (.ref g))) (hsub : PySem.W.subIn X.K (.ref C) (.type "int") = some false)
    (F : FnOk X.prog X.w X.K X.mg X.base CX k f fd ps sp) (hr : Room k X.A) (hb : Binds X.K fd ps []) (hx : Passes CX X E) : OpR X (binaryOp .Mult) (rIOw C sp E) := by
  intro pins s σ H x y v u Q I rx ry h
  obtain ⟨a, dx, fs, n, rfl, rfl, ha, q⟩ := h
  obtain ⟨t, rfl⟩ := (show ∃ t, v = Value.int n t from rx)
  cases (show u = Value.ref a from ry)
  obtain ⟨mA, O, _⟩ := ins_get I.hok ha
  obtain ⟨od, J, _⟩ := O.look
  refine binR I.kIn J o.sf hm o.at_ o.fn hsub O.obj ?_
  refine wpAny_mono (run_fn (us := [.ref a, .int n t]) (vs := [.ref a, .int n]) F hr hb .nil hx I (.cons rfl (.cons ⟨_, rfl⟩ .nil)) q) (fun w s' z => ?_) fun _ _ x => x
  obtain ⟨z', H', I', rz, qz⟩ := z
  exact cb rz ⟨z', H', I', rz, qz⟩
end
theorem d_add : PySem.dunder Operator.Add.info.2 = ("__add__" : Str) := by decide +kernel
theorem d_sub : PySem.dunder Operator.Sub.info.2 = ("__sub__" : Str) := by decide +kernel
theorem d_mul : PySem.dunder Operator.Mult.info.2 = ("__mul__" : Str) := by decide +kernel
theorem d_mul' : PySem.dunder "mul" = ("__mul__" : Str) := by decide +kernel
theorem d_rmul : PySem.dunderR Operator.Mult.info.2 = ("__rmul__" : Str) := by decide +kernel
theorem d_rmul' : PySem.dunderR "mul" = ("__rmul__" : Str) := by decide +kernel
end TL
namespace TL
open PySem L2
/-! ### heaps -/
theorem Same.new {H : Hp} {p : Addr} {o : HO} (h : H p = none) : Same H (upd H p o) := fun b u q => by rw [upd_ne (ne_of_none q h)]; exact q
theorem seqT {K : PySem.W.Frag} {H H' : Hp} {a : Addr} {xs : List V} (e : Same H H') (h : SqT K H a xs) : SqT K H' a xs := by
  rcases h with (h | ⟨o, h⟩) | h
  · exact .inl (.inl (e _ _ h))
  · exact .inl (.inr ⟨o, e _ _ h⟩)
  · exact .inr h
/-- but for what stands at g, all that was tracked is as it was -/
def Kb (g : Addr) (H H' : Hp) : Prop := ∀ a o, H a = some o → a ≠ g → H' a = some o
theorem Kb.refl (g : Addr) (H : Hp) : Kb g H H := fun _ _ h _ => h
theorem Kb.trans {g : Addr} {H H1 H2 : Hp} (a : Kb g H H1) (b : Kb g H1 H2) : Kb g H H2 := fun c o h n => b c o (a c o h n) n
theorem Kb.same {g : Addr} {H H' : Hp} (a : Same H H') : Kb g H H' := fun c o h _ => a c o h
theorem Kb.at {g : Addr} {H : Hp} {o : HO} : Kb g H (upd H g o) := fun c u h n => by rw [upd_ne n]; exact h
theorem Kb.new {g p : Addr} {H H' : Hp} {o : HO} (a : Kb g H H') (h : H' p = none) : Kb g H (upd H' p o) := a.trans (Kb.same (Same.new h))
theorem tyx_L {K : PySem.W.Frag} {H : Hp} {a : Addr} {xs : List V} (h : SqL K H a xs) : TyX K H (.ref a) (.type "list") := by
  rcases h with (h | ⟨o, h⟩) | ⟨o, its, n, h, c, _⟩
  · exact .base (.lst h)
  · exact .base (.frz h)
  · exact .kList h c
theorem tyx_T {K : PySem.W.Frag} {H : Hp} {a : Addr} {xs : List V} (h : SqT K H a xs) : TyX K H (.ref a) (.type "tuple") := by
  rcases h with (h | ⟨o, h⟩) | ⟨o, its, n, h, c, _⟩
  · exact .base (.tup h)
  · exact .fTuple h
  · exact .kTuple h c
theorem fm {i j : Int} (h : 0 < j) : 0 ≤ i.fmod j ∧ i.fmod j < j := ⟨Int.fmod_nonneg_of_pos _ h, Int.fmod_lt_of_pos _ h⟩
theorem kt_int_list {K : PySem.W.Frag} : PySem.W.kitOne K (.type "int") (.type "list") = some false := kit_ty (by decide +kernel)
theorem kt_int_tuple {K : PySem.W.Frag} : PySem.W.kitOne K (.type "int") (.type "tuple") = some false := kit_ty (by decide +kernel)
theorem kt_int_bool {K : PySem.W.Frag} : PySem.W.kitOne K (.type "int") (.type "bool") = some false := kit_ty (by decide +kernel)
theorem kt_int_int {K : PySem.W.Frag} : PySem.W.kitOne K (.type "int") (.type "int") = some true := kit_ty (by decide +kernel)
theorem kt_int_str {K : PySem.W.Frag} : PySem.W.kitOne K (.type "int") (.type "str") = some false := kit_ty (by decide +kernel)
theorem kt_int_dict {K : PySem.W.Frag} : PySem.W.kitOne K (.type "int") (.type "dict") = some false := kit_ty (by decide +kernel)
theorem kt_bool_list {K : PySem.W.Frag} : PySem.W.kitOne K (.type "bool") (.type "list") = some false := kit_ty (by decide +kernel)
theorem kt_bool_tuple {K : PySem.W.Frag} : PySem.W.kitOne K (.type "bool") (.type "tuple") = some false := kit_ty (by decide +kernel)
theorem kt_bool_bool {K : PySem.W.Frag} : PySem.W.kitOne K (.type "bool") (.type "bool") = some true := kit_ty (by decide +kernel)
theorem kt_bool_int {K : PySem.W.Frag} : PySem.W.kitOne K (.type "bool") (.type "int") = some true := kit_ty (by decide +kernel)
theorem kt_bool_str {K : PySem.W.Frag} : PySem.W.kitOne K (.type "bool") (.type "str") = some false := kit_ty (by decide +kernel)
theorem kt_bool_dict {K : PySem.W.Frag} : PySem.W.kitOne K (.type "bool") (.type "dict") = some false := kit_ty (by decide +kernel)
theorem kt_str_list {K : PySem.W.Frag} : PySem.W.kitOne K (.type "str") (.type "list") = some false := kit_ty (by decide +kernel)
theorem kt_str_tuple {K : PySem.W.Frag} : PySem.W.kitOne K (.type "str") (.type "tuple") = some false := kit_ty (by decide +kernel)
theorem kt_str_bool {K : PySem.W.Frag} : PySem.W.kitOne K (.type "str") (.type "bool") = some false := kit_ty (by decide +kernel)
theorem kt_str_int {K : PySem.W.Frag} : PySem.W.kitOne K (.type "str") (.type "int") = some false := kit_ty (by decide +kernel)
theorem kt_str_str {K : PySem.W.Frag} : PySem.W.kitOne K (.type "str") (.type "str") = some true := kit_ty (by decide +kernel)
theorem kt_str_dict {K : PySem.W.Frag} : PySem.W.kitOne K (.type "str") (.type "dict") = some false := kit_ty (by decide +kernel)
theorem kt_NoneType_list {K : PySem.W.Frag} : PySem.W.kitOne K (.type "NoneType") (.type "list") = some false := kit_ty (by decide +kernel)
theorem kt_NoneType_tuple {K : PySem.W.Frag} : PySem.W.kitOne K (.type "NoneType") (.type "tuple") = some false := kit_ty (by decide +kernel)
theorem kt_NoneType_bool {K : PySem.W.Frag} : PySem.W.kitOne K (.type "NoneType") (.type "bool") = some false := kit_ty (by decide +kernel)
theorem kt_NoneType_int {K : PySem.W.Frag} : PySem.W.kitOne K (.type "NoneType") (.type "int") = some false := kit_ty (by decide +kernel)
theorem kt_NoneType_str {K : PySem.W.Frag} : PySem.W.kitOne K (.type "NoneType") (.type "str") = some false := kit_ty (by decide +kernel)
theorem kt_NoneType_dict {K : PySem.W.Frag} : PySem.W.kitOne K (.type "NoneType") (.type "dict") = some false := kit_ty (by decide +kernel)
theorem kt_list_list {K : PySem.W.Frag} : PySem.W.kitOne K (.type "list") (.type "list") = some true := kit_ty (by decide +kernel)
theorem kt_list_tuple {K : PySem.W.Frag} : PySem.W.kitOne K (.type "list") (.type "tuple") = some false := kit_ty (by decide +kernel)
theorem kt_list_bool {K : PySem.W.Frag} : PySem.W.kitOne K (.type "list") (.type "bool") = some false := kit_ty (by decide +kernel)
theorem kt_list_int {K : PySem.W.Frag} : PySem.W.kitOne K (.type "list") (.type "int") = some false := kit_ty (by decide +kernel)
theorem kt_list_str {K : PySem.W.Frag} : PySem.W.kitOne K (.type "list") (.type "str") = some false := kit_ty (by decide +kernel)
theorem kt_list_dict {K : PySem.W.Frag} : PySem.W.kitOne K (.type "list") (.type "dict") = some false := kit_ty (by decide +kernel)
theorem kt_tuple_list {K : PySem.W.Frag} : PySem.W.kitOne K (.type "tuple") (.type "list") = some false := kit_ty (by decide +kernel)
theorem kt_tuple_tuple {K : PySem.W.Frag} : PySem.W.kitOne K (.type "tuple") (.type "tuple") = some true := kit_ty (by decide +kernel)
theorem kt_tuple_bool {K : PySem.W.Frag} : PySem.W.kitOne K (.type "tuple") (.type "bool") = some false := kit_ty (by decide +kernel)
theorem kt_tuple_int {K : PySem.W.Frag} : PySem.W.kitOne K (.type "tuple") (.type "int") = some false := kit_ty (by decide +kernel)
theorem kt_tuple_str {K : PySem.W.Frag} : PySem.W.kitOne K (.type "tuple") (.type "str") = some false := kit_ty (by decide +kernel)
theorem kt_tuple_dict {K : PySem.W.Frag} : PySem.W.kitOne K (.type "tuple") (.type "dict") = some false := kit_ty (by decide +kernel)
theorem rIsi_mk {K : PySem.W.Frag} {H : Hp} {Q : VK} {x c : V} {t u : Value} {b : Bool} (ty : TyX K H x t) (cl : ClsV c u) (e : PySem.W.kitOne K t u = some b) (q : Q (.bl b) H) : rIsi K [x, c] H Q := ⟨x, c, t, u, b, rfl, cl, ty, e, q⟩
theorem ri_int_list {K : PySem.W.Frag} {H : Hp} {Q : VK} {i : Int} (q : Q (.bl false) H) : rIsi K [.int i, .ty "list"] H Q := rIsi_mk (TyX.base (TyOf.int _)) (ClsV.ty _) kt_int_list q
theorem ri_int_tuple {K : PySem.W.Frag} {H : Hp} {Q : VK} {i : Int} (q : Q (.bl false) H) : rIsi K [.int i, .ty "tuple"] H Q := rIsi_mk (TyX.base (TyOf.int _)) (ClsV.ty _) kt_int_tuple q
theorem ri_int_bool {K : PySem.W.Frag} {H : Hp} {Q : VK} {i : Int} (q : Q (.bl false) H) : rIsi K [.int i, .ty "bool"] H Q := rIsi_mk (TyX.base (TyOf.int _)) (ClsV.ty _) kt_int_bool q
theorem ri_int_int {K : PySem.W.Frag} {H : Hp} {Q : VK} {i : Int} (q : Q (.bl true) H) : rIsi K [.int i, .ty "int"] H Q := rIsi_mk (TyX.base (TyOf.int _)) (ClsV.ty _) kt_int_int q
theorem ri_int_str {K : PySem.W.Frag} {H : Hp} {Q : VK} {i : Int} (q : Q (.bl false) H) : rIsi K [.int i, .ty "str"] H Q := rIsi_mk (TyX.base (TyOf.int _)) (ClsV.ty _) kt_int_str q
theorem ri_int_dict {K : PySem.W.Frag} {H : Hp} {Q : VK} {i : Int} (q : Q (.bl false) H) : rIsi K [.int i, .ty "dict"] H Q := rIsi_mk (TyX.base (TyOf.int _)) (ClsV.ty _) kt_int_dict q
theorem ri_bool_list {K : PySem.W.Frag} {H : Hp} {Q : VK} {c : Bool} (q : Q (.bl false) H) : rIsi K [.bl c, .ty "list"] H Q := rIsi_mk (TyX.base (TyOf.bl _)) (ClsV.ty _) kt_bool_list q
theorem ri_bool_tuple {K : PySem.W.Frag} {H : Hp} {Q : VK} {c : Bool} (q : Q (.bl false) H) : rIsi K [.bl c, .ty "tuple"] H Q := rIsi_mk (TyX.base (TyOf.bl _)) (ClsV.ty _) kt_bool_tuple q
theorem ri_bool_bool {K : PySem.W.Frag} {H : Hp} {Q : VK} {c : Bool} (q : Q (.bl true) H) : rIsi K [.bl c, .ty "bool"] H Q := rIsi_mk (TyX.base (TyOf.bl _)) (ClsV.ty _) kt_bool_bool q
theorem ri_bool_int {K : PySem.W.Frag} {H : Hp} {Q : VK} {c : Bool} (q : Q (.bl true) H) : rIsi K [.bl c, .ty "int"] H Q := rIsi_mk (TyX.base (TyOf.bl _)) (ClsV.ty _) kt_bool_int q
theorem ri_bool_str {K : PySem.W.Frag} {H : Hp} {Q : VK} {c : Bool} (q : Q (.bl false) H) : rIsi K [.bl c, .ty "str"] H Q := rIsi_mk (TyX.base (TyOf.bl _)) (ClsV.ty _) kt_bool_str q
theorem ri_bool_dict {K : PySem.W.Frag} {H : Hp} {Q : VK} {c : Bool} (q : Q (.bl false) H) : rIsi K [.bl c, .ty "dict"] H Q := rIsi_mk (TyX.base (TyOf.bl _)) (ClsV.ty _) kt_bool_dict q
theorem ri_str_list {K : PySem.W.Frag} {H : Hp} {Q : VK} {z : Str} (q : Q (.bl false) H) : rIsi K [.str z, .ty "list"] H Q := rIsi_mk (TyX.base (TyOf.str _)) (ClsV.ty _) kt_str_list q
theorem ri_str_tuple {K : PySem.W.Frag} {H : Hp} {Q : VK} {z : Str} (q : Q (.bl false) H) : rIsi K [.str z, .ty "tuple"] H Q := rIsi_mk (TyX.base (TyOf.str _)) (ClsV.ty _) kt_str_tuple q
theorem ri_str_bool {K : PySem.W.Frag} {H : Hp} {Q : VK} {z : Str} (q : Q (.bl false) H) : rIsi K [.str z, .ty "bool"] H Q := rIsi_mk (TyX.base (TyOf.str _)) (ClsV.ty _) kt_str_bool q
theorem ri_str_int {K : PySem.W.Frag} {H : Hp} {Q : VK} {z : Str} (q : Q (.bl false) H) : rIsi K [.str z, .ty "int"] H Q := rIsi_mk (TyX.base (TyOf.str _)) (ClsV.ty _) kt_str_int q
theorem ri_str_str {K : PySem.W.Frag} {H : Hp} {Q : VK} {z : Str} (q : Q (.bl true) H) : rIsi K [.str z, .ty "str"] H Q := rIsi_mk (TyX.base (TyOf.str _)) (ClsV.ty _) kt_str_str q
theorem ri_str_dict {K : PySem.W.Frag} {H : Hp} {Q : VK} {z : Str} (q : Q (.bl false) H) : rIsi K [.str z, .ty "dict"] H Q := rIsi_mk (TyX.base (TyOf.str _)) (ClsV.ty _) kt_str_dict q
theorem ri_NoneType_list {K : PySem.W.Frag} {H : Hp} {Q : VK}  (q : Q (.bl false) H) : rIsi K [.non, .ty "list"] H Q := rIsi_mk (TyX.base TyOf.non) (ClsV.ty _) kt_NoneType_list q
theorem ri_NoneType_tuple {K : PySem.W.Frag} {H : Hp} {Q : VK}  (q : Q (.bl false) H) : rIsi K [.non, .ty "tuple"] H Q := rIsi_mk (TyX.base TyOf.non) (ClsV.ty _) kt_NoneType_tuple q
theorem ri_NoneType_bool {K : PySem.W.Frag} {H : Hp} {Q : VK}  (q : Q (.bl false) H) : rIsi K [.non, .ty "bool"] H Q := rIsi_mk (TyX.base TyOf.non) (ClsV.ty _) kt_NoneType_bool q
theorem ri_NoneType_int {K : PySem.W.Frag} {H : Hp} {Q : VK}  (q : Q (.bl false) H) : rIsi K [.non, .ty "int"] H Q := rIsi_mk (TyX.base TyOf.non) (ClsV.ty _) kt_NoneType_int q
theorem ri_NoneType_str {K : PySem.W.Frag} {H : Hp} {Q : VK}  (q : Q (.bl false) H) : rIsi K [.non, .ty "str"] H Q := rIsi_mk (TyX.base TyOf.non) (ClsV.ty _) kt_NoneType_str q
theorem ri_NoneType_dict {K : PySem.W.Frag} {H : Hp} {Q : VK}  (q : Q (.bl false) H) : rIsi K [.non, .ty "dict"] H Q := rIsi_mk (TyX.base TyOf.non) (ClsV.ty _) kt_NoneType_dict q
theorem ri_list_list {K : PySem.W.Frag} {H : Hp} {Q : VK} {a : Addr} {xs : List V} (h : SqL K H a xs) (q : Q (.bl true) H) : rIsi K [.ref a, .ty "list"] H Q := rIsi_mk (tyx_L h) (ClsV.ty _) kt_list_list q
theorem ri_list_tuple {K : PySem.W.Frag} {H : Hp} {Q : VK} {a : Addr} {xs : List V} (h : SqL K H a xs) (q : Q (.bl false) H) : rIsi K [.ref a, .ty "tuple"] H Q := rIsi_mk (tyx_L h) (ClsV.ty _) kt_list_tuple q
theorem ri_list_bool {K : PySem.W.Frag} {H : Hp} {Q : VK} {a : Addr} {xs : List V} (h : SqL K H a xs) (q : Q (.bl false) H) : rIsi K [.ref a, .ty "bool"] H Q := rIsi_mk (tyx_L h) (ClsV.ty _) kt_list_bool q
theorem ri_list_int {K : PySem.W.Frag} {H : Hp} {Q : VK} {a : Addr} {xs : List V} (h : SqL K H a xs) (q : Q (.bl false) H) : rIsi K [.ref a, .ty "int"] H Q := rIsi_mk (tyx_L h) (ClsV.ty _) kt_list_int q
theorem ri_list_str {K : PySem.W.Frag} {H : Hp} {Q : VK} {a : Addr} {xs : List V} (h : SqL K H a xs) (q : Q (.bl false) H) : rIsi K [.ref a, .ty "str"] H Q := rIsi_mk (tyx_L h) (ClsV.ty _) kt_list_str q
theorem ri_list_dict {K : PySem.W.Frag} {H : Hp} {Q : VK} {a : Addr} {xs : List V} (h : SqL K H a xs) (q : Q (.bl false) H) : rIsi K [.ref a, .ty "dict"] H Q := rIsi_mk (tyx_L h) (ClsV.ty _) kt_list_dict q
theorem ri_tuple_list {K : PySem.W.Frag} {H : Hp} {Q : VK} {a : Addr} {xs : List V} (h : SqT K H a xs) (q : Q (.bl false) H) : rIsi K [.ref a, .ty "list"] H Q := rIsi_mk (tyx_T h) (ClsV.ty _) kt_tuple_list q
theorem ri_tuple_tuple {K : PySem.W.Frag} {H : Hp} {Q : VK} {a : Addr} {xs : List V} (h : SqT K H a xs) (q : Q (.bl true) H) : rIsi K [.ref a, .ty "tuple"] H Q := rIsi_mk (tyx_T h) (ClsV.ty _) kt_tuple_tuple q
theorem ri_tuple_bool {K : PySem.W.Frag} {H : Hp} {Q : VK} {a : Addr} {xs : List V} (h : SqT K H a xs) (q : Q (.bl false) H) : rIsi K [.ref a, .ty "bool"] H Q := rIsi_mk (tyx_T h) (ClsV.ty _) kt_tuple_bool q
theorem ri_tuple_int {K : PySem.W.Frag} {H : Hp} {Q : VK} {a : Addr} {xs : List V} (h : SqT K H a xs) (q : Q (.bl false) H) : rIsi K [.ref a, .ty "int"] H Q := rIsi_mk (tyx_T h) (ClsV.ty _) kt_tuple_int q
theorem ri_tuple_str {K : PySem.W.Frag} {H : Hp} {Q : VK} {a : Addr} {xs : List V} (h : SqT K H a xs) (q : Q (.bl false) H) : rIsi K [.ref a, .ty "str"] H Q := rIsi_mk (tyx_T h) (ClsV.ty _) kt_tuple_str q
theorem ri_tuple_dict {K : PySem.W.Frag} {H : Hp} {Q : VK} {a : Addr} {xs : List V} (h : SqT K H a xs) (q : Q (.bl false) H) : rIsi K [.ref a, .ty "dict"] H Q := rIsi_mk (tyx_T h) (ClsV.ty _) kt_tuple_dict q
def rLenSq (K : PySem.W.Frag) : List V → Hp → VK → Prop := fun xs H Q => ∃ p ys, xs = [.ref p] ∧ (SqL K H p ys ∨ SqT K H p ys) ∧ Q (.int ys.length) H
def rListOf (K : PySem.W.Frag) : List V → Hp → VK → Prop := fun xs H Q => ∃ p ys, xs = [.ref p] ∧ (SqL K H p ys ∨ SqT K H p ys) ∧ ∀ l, H l = none → Q (.ref l) (upd H l (.lst ys))
def rTupOf (K : PySem.W.Frag) : List V → Hp → VK → Prop := fun xs H Q => ∃ p ys, xs = [.ref p] ∧ ((SqL K H p ys ∧ ∀ l, H l = none → Q (.ref l) (upd H l (.tup ys))) ∨ (SqT K H p ys ∧ Q (.ref p) H))
/-- a list or a tuple -/
def Sq (K : PySem.W.Frag) (H : Hp) (a : Addr) (xs : List V) : Prop := SqL K H a xs ∨ SqT K H a xs
theorem Sq.same {K : PySem.W.Frag} {H H' : Hp} {a : Addr} {xs : List V} (h : Sq K H a xs) (s : Same H H') : Sq K H' a xs := h.elim (fun q => .inl (s.seq q)) fun q => .inr (seqT s q)
theorem seqL_ins {K : PySem.W.Frag} {H : Hp} {a p C dx : Addr} {fs : List (Str × V)} {o : HO} {xs : List V} (hp : H p = some (.ins C dx fs)) (h : SqL K H a xs) : SqL K (upd H p o) a xs := by
  rcases h with (h | ⟨u, h⟩) | h
  · exact .inl (.inl (by rw [upd_ne (ne_of h hp (by intro z; cases z))]; exact h))
  · exact .inl (.inr ⟨u, by rw [upd_ne (ne_of h hp (by intro z; cases z))]; exact h⟩)
  · exact .inr h
theorem seqT_ins {K : PySem.W.Frag} {H : Hp} {a p C dx : Addr} {fs : List (Str × V)} {o : HO} {xs : List V} (hp : H p = some (.ins C dx fs)) (h : SqT K H a xs) : SqT K (upd H p o) a xs := by
  rcases h with (h | ⟨u, h⟩) | h
  · exact .inl (.inl (by rw [upd_ne (ne_of h hp (by intro z; cases z))]; exact h))
  · exact .inl (.inr ⟨u, by rw [upd_ne (ne_of h hp (by intro z; cases z))]; exact h⟩)
  · exact .inr h
theorem Sq.ins {K : PySem.W.Frag} {H : Hp} {a p C dx : Addr} {fs : List (Str × V)} {o : HO} {xs : List V} (h : Sq K H a xs) (hp : H p = some (.ins C dx fs)) : Sq K (upd H p o) a xs := h.elim (fun q => .inl (seqL_ins hp q)) fun q => .inr (seqT_ins hp q)
/-- tuple(x) of either -/
def rTup1 (K : PySem.W.Frag) : List V → Hp → VK → Prop := fun vs H Q => ∃ p xs, vs = [.ref p] ∧ Sq K H p xs ∧ ∀ t H', Same H H' → SqT K H' t xs → Q (.ref t) H'
theorem call_tup1 {X : Cx} : CallR X (.type "tuple") (rTup1 X.K) := by
  intro pins s σ H xs us Q I r h
  obtain ⟨p, ys, rfl, hq, q⟩ := h
  refine call_tuple_of pins s σ H _ us Q I r ⟨p, ys, rfl, ?_⟩
  rcases hq with hq | hq
  · exact .inl ⟨hq, fun l hl => q l _ (Same.new hl) (SqT.of upd_same)⟩
  · exact .inr ⟨hq, q p H (Same.refl H) hq⟩
/-! ### a statement, then the rest, with a word between them -/
def tCut (t u : TS) : TS := fun D σ H => ∃ Mid : L2.St → Hp → Prop, t { D with nx := Mid } σ H ∧ ∀ σ' H', Mid σ' H' → u D σ' H'
theorem pss_cut {X : Cx} {st : Stmt} {rest : List Stmt} {t u : TS} (h1 : PS X st t) (h2 : PSs X rest u) : PSs X (st :: rest) (tCut t u) := by
  refine ⟨fun pins s σ H D I h => ?_⟩
  obtain ⟨Mid, hm, hu⟩ := h
  refine wpAny_execs_cons (thn (h1.run pins s σ H { D with nx := Mid } I hm) fun f s1 q => ?_)
  cases f with
  | next =>
    obtain ⟨σ', H', I', q⟩ := q
    exact h2.run pins s1 σ' H' D I' (hu σ' H' q)
  | ret v => exact q
  | brk => exact q
  | cont => exact q
/-! ### the law's bag: the cells, how many were taken, the rest of a great cell, a mixed number, a count -/
structure Bg where
  b : Addr
  L : Addr
  ns : List Int
structure Bag (B : Bg) (H : Hp) : Prop where
  ex : ∃ (i r s c : Int), H B.b = some (.lst [.ref B.L, .int i, .int r, .int s, .int c]) ∧ 0 ≤ i ∧ 0 ≤ r ∧ 0 ≤ s ∧ s < 2147483648
  cells : H B.L = some (.lst (B.ns.map V.int))
  ne : B.L ≠ B.b
theorem Bag.same {B : Bg} {H H' : Hp} (h : Bag B H) (s : Same H H') : Bag B H' := by
  obtain ⟨i, r, z, c, h1, h2⟩ := h.ex
  exact ⟨⟨i, r, z, c, s _ _ h1, h2⟩, s _ _ h.cells, h.ne⟩
theorem Bag.nb {B : Bg} {H : Hp} {p : Addr} (h : Bag B H) (hp : H p = none) : p ≠ B.b := by
  obtain ⟨i, r, z, c, h1, h2⟩ := h.ex
  exact Ne.symm (ne_of_none h1 hp)
theorem Bag.nL {B : Bg} {H : Hp} {p : Addr} (h : Bag B H) (hp : H p = none) : p ≠ B.L := Ne.symm (ne_of_none h.cells hp)
theorem Bag.upd {B : Bg} {H : Hp} {p : Addr} {o : HO} (h : Bag B H) (h1 : p ≠ B.b) (h2 : p ≠ B.L) : Bag B (L2.upd H p o) := by
  obtain ⟨i, r, z, c, e1, e2⟩ := h.ex
  exact ⟨⟨i, r, z, c, by rw [upd_ne (Ne.symm h1)]; exact e1, e2⟩, by rw [upd_ne (Ne.symm h2)]; exact h.cells, h.ne⟩
theorem Bag.new {B : Bg} {H : Hp} {p : Addr} {o : HO} (h : Bag B H) (hp : H p = none) : Bag B (L2.upd H p o) := h.upd (h.nb hp) (h.nL hp)
/-! ### comprehensions: what each turn gives is known (Same), or only bounded, while the bag changes (Kb) -/
section
variable {J : It} {n : Nat} {G : Hp → Prop} {Y : Nat → Hp → V → Hp → Prop} {K : PySem.W.Frag} {a b D : Addr} {xs ys : List V} {g : TG} {te : TE} {vs : List Nat} {σ : L2.St} {H0 : Hp} {Qd : Hp → Prop} {j : Nat}
theorem take_app {ys : List V} {i : Nat} {y : V} (h : ys[i]? = some y) : ys.take i ++ [y] = ys.take (i + 1) := by
  rw [List.take_add_one, h]
  rfl
/-- what is to be shown of a comprehension -/
def LcGoal (J : It) (g : TG) (te : TE) (vs : List Nat) (σ : L2.St) (H0 : Hp) (D : Addr) (Qd : Hp → Prop) : Prop :=
  ∃ W : Nat → Nat → Hp → Prop, (∃ m, W 0 m (upd H0 D (.lst []))) ∧ ∀ i m H, W i m H →
      (J.stop i H ∧ Qd H) ∨ (J.go i H ∧ ∃ Nx : Hp → Prop, (∀ H', Nx H' → ∃ m', m' < m ∧ W (i + 1) m' H') ∧ ∀ x H', J.yld i H x H' → g x (wipe σ vs) H' fun σ2 H2 => wipe σ2 vs = wipe σ vs ∧ tYes σ2 H2 fun b H3 =>
        if b = true then te σ2 H3 fun y H4 => ∃ acc, H4 D = some (.lst acc) ∧ acc.length < sizeLine ∧ Nx (upd H4 D (.lst (acc ++ [y]))) else Nx H3)
theorem lcm (w : Walk J n G Y) (ys : List V) (hn : ys.length = n) (hz : n ≤ 100000) (hD : H0 D = none) (hG : ∀ H, Same H0 H → G H)
    (hs : ∀ i y x H H', i < n → ys[i]? = some y → Same H0 H → Y i H x H' → ∀ k : VK, (∀ H4, Same H H4 → k y H4) → g x (wipe σ vs) H' fun σ2 H2 => wipe σ2 vs = wipe σ vs ∧ te σ2 H2 k)
    (hd : ∀ H, Same H0 H → H D = some (.lst ys) → Qd H) : LcGoal J g te vs σ H0 D Qd := by
  refine lc_it w (fun i H => Same H0 H ∧ H D = some (.lst (ys.take i))) ⟨Same.new hD, upd_same⟩ (fun i H _ h => hG H h.1) (fun i x H H' hi h hy => ?_) (fun H h => ?_)
  · have hi2 : i < ys.length := by omega
    refine hs i ys[i] x H H' hi (List.getElem?_eq_getElem hi2) h.1 hy _ fun H4 s4 => ⟨ys.take i, s4 _ _ h.2, ?_, fun c u q => ?_, ?_⟩
    · refine Nat.lt_of_le_of_lt (Nat.le_trans (List.length_take_le' _ _) (by omega : ys.length ≤ 100000)) (by decide)
    · rw [upd_ne (ne_of_none q hD)]
      exact s4 _ _ (h.1 _ _ q)
    · rw [upd_same, take_app (List.getElem?_eq_getElem hi2)]
  · refine hd H h.1 ?_
    rw [h.2, ← hn, List.take_length]
theorem lcb {B : Bg} (w : Walk J n G Y) (P : V → Prop) (hz : n ≤ 100000) (hB : Bag B H0) (hD : H0 D = none) (hG : ∀ H, Kb B.b H0 H → G H)
    (hs : ∀ i x H H', i < n → Kb B.b H0 H → Bag B H → Y i H x H' → ∀ k : VK, (∀ y H4, P y → Kb B.b H H4 → Bag B H4 → k y H4) → g x (wipe σ vs) H' fun σ2 H2 => wipe σ2 vs = wipe σ vs ∧ te σ2 H2 k)
    (hd : ∀ ys H, ys.length = n → (∀ y ∈ ys, P y) → Kb B.b H0 H → Bag B H → H D = some (.lst ys) → Qd H) : LcGoal J g te vs σ H0 D Qd := by
  have nb := hB.nb hD
  have nL := hB.nL hD
  refine lc_it w (fun i H => Kb B.b H0 H ∧ Bag B H ∧ ∃ ys, H D = some (.lst ys) ∧ ys.length = i ∧ ∀ y ∈ ys, P y) ⟨Kb.same (Same.new hD), hB.new hD, [], upd_same, rfl, fun y hy => by cases hy⟩ (fun i H _ h => hG H h.1) (fun i x H H' hi h hy => ?_) (fun H h => ?_)
  · obtain ⟨h1, h2, ys, h3, h4, h5⟩ := h
    refine hs i x H H' hi h1 h2 hy _ fun y H4 p kb b4 => ⟨ys, kb _ _ h3 nb, ?_, fun c u q ne => ?_, b4.upd nb nL, ys ++ [y], upd_same, ?_, ?_⟩
    · exact Nat.lt_of_le_of_lt (by omega : ys.length ≤ 100000) (by decide)
    · rw [upd_ne (ne_of_none q hD)]
      exact kb _ _ (h1 _ _ q ne) ne
    · rw [List.length_append, h4]
      rfl
    · intro z hz
      rcases List.mem_append.mp hz with q | q
      · exact h5 z q
      · rw [List.mem_singleton.mp q]
        exact p
  · obtain ⟨h1, h2, ys, h3, h4, h5⟩ := h
    exact hd ys H h4 h5 h1 h2 h3
end
theorem walk_zipT {K : PySem.W.Frag} {a b : Addr} {xs ys : List V} {n : Nat} (hn : n = min xs.length ys.length) : Walk (RZ.ItzT K a b) n (fun H => SqT K H a xs ∧ SqT K H b ys) (YPair (fun i => xs[i]?) (fun i => ys[i]?)) := by
  subst hn
  refine ⟨fun i _ hi q => ?_, fun _ q => ⟨xs, ys, q.1, q.2, by omega⟩, fun i H v H' _ q y => ?_⟩
  · have h1 : i < xs.length := by omega
    have h2 : i < ys.length := by omega
    exact ⟨xs, ys, xs[i], ys[i], q.1, q.2, by simp [h1], by simp [h2]⟩
  · obtain ⟨T, x, z, h1, h2, h3, h4, h5⟩ := y
    exact ⟨T, x, z, h1, h2, h3, h4 xs q.1, h5 ys q.2⟩
theorem ite_dec {p A B : Prop} [Decidable p] (h : p) (q : A) : if decide p = true then A else B := by
  rw [decide_eq_true h]
  exact q
theorem ite_dec' {p A B : Prop} [Decidable p] (h : ¬ p) (q : B) : if decide p = true then A else B := by
  rw [decide_eq_false h]
  exact q
theorem all_rep (n : Nat) : (List.replicate n true).all id = true := by
  rw [List.all_eq_true]
  intro x hx
  rw [(List.mem_replicate.mp hx).2]
  rfl
theorem rep_get {n i : Nat} {x y : V} (h : (List.replicate n x)[i]? = some y) : y = x := (List.mem_replicate.mp (List.mem_of_getElem? h)).2
theorem lc_zipT {K : PySem.W.Frag} {a b D : Addr} {xs ys : List Int} {f : Int → Int → Int} {te : TE} {vs : List Nat} {σ : L2.St} {H0 : Hp} {Qd : Hp → Prop} {i j : Nat} (h1 : SqT K H0 a (xs.map V.int)) (h2 : SqT K H0 b (ys.map V.int)) (hl : xs.length = ys.length) (hz : xs.length ≤ 1000) (hD : H0 D = none)
    (hw : ∀ u v, wipe (((wipe σ vs).set i (some u)).set j (some v)) vs = wipe σ vs)
    (hs : ∀ (u v : Int) (H : Hp) (k : VK), u ∈ xs → v ∈ ys → k (.int (f u v)) H → te (((wipe σ vs).set i (some (.int u))).set j (some (.int v))) H k)
    (hd : ∀ H, Same H0 H → H D = some (.lst ((List.zipWith f xs ys).map V.int)) → Qd H) : LcGoal (RZ.ItzT K a b) (gTup K 2 (gCons (gName i) (gCons (gName j) gNil))) te vs σ H0 D Qd := by
  refine lcm (walk_zipT (n := xs.length) (by rw [List.length_map, List.length_map]; omega)) ((List.zipWith f xs ys).map V.int) (by rw [List.length_map, List.length_zipWith]; omega) (by omega) hD (fun H' s => ⟨seqT s h1, seqT s h2⟩) ?_ hd
  rintro t y x H1 H2 hi hy s1 ⟨Tp, u, z, rfl, hT, rfl, hu, hz'⟩ k hk
  replace hu : (xs.map V.int)[t]? = some u := hu
  replace hz' : (ys.map V.int)[t]? = some z := hz'
  rw [List.getElem?_map] at hy hu hz'
  obtain ⟨y', hy1, rfl⟩ := Option.map_eq_some_iff.mp hy
  obtain ⟨u', hu1, rfl⟩ := Option.map_eq_some_iff.mp hu
  obtain ⟨z', hz1, rfl⟩ := Option.map_eq_some_iff.mp hz'
  rw [List.getElem?_zipWith, hu1, hz1] at hy1
  obtain rfl : f u' z' = y' := Option.some.inj hy1
  refine ⟨Tp, [.int u', .int z'], rfl, SqT.of upd_same, rfl, .int u', [.int z'], rfl, .int z', [], rfl, rfl, hw _ _, ?_⟩
  exact hs u' z' _ k (List.mem_of_getElem? hu1) (List.mem_of_getElem? hz1) (hk _ (Same.new hT))
theorem lc_zipL {K : PySem.W.Frag} {a b D : Addr} {xs ys : List Int} {f : Int → Int → Int} {te : TE} {vs : List Nat} {σ : L2.St} {H0 : Hp} {Qd : Hp → Prop} {i j : Nat} (h1 : SqL K H0 a (xs.map V.int)) (h2 : SqL K H0 b (ys.map V.int)) (hl : xs.length = ys.length) (hz : xs.length ≤ 1000) (hD : H0 D = none)
    (hw : ∀ u v, wipe (((wipe σ vs).set i (some u)).set j (some v)) vs = wipe σ vs)
    (hs : ∀ (u v : Int) (H : Hp) (k : VK), u ∈ xs → v ∈ ys → k (.int (f u v)) H → te (((wipe σ vs).set i (some (.int u))).set j (some (.int v))) H k)
    (hd : ∀ H, Same H0 H → H D = some (.lst ((List.zipWith f xs ys).map V.int)) → Qd H) : LcGoal (Itz K a b) (gTup K 2 (gCons (gName i) (gCons (gName j) gNil))) te vs σ H0 D Qd := by
  refine lcm (walk_zip (n := xs.length) (by rw [List.length_map, List.length_map]; omega)) ((List.zipWith f xs ys).map V.int) (by rw [List.length_map, List.length_zipWith]; omega) (by omega) hD (fun H' s => ⟨s.seq h1, s.seq h2⟩) ?_ hd
  rintro t y x H1 H2 hi hy s1 ⟨Tp, u, z, rfl, hT, rfl, hu, hz'⟩ k hk
  replace hu : (xs.map V.int)[t]? = some u := hu
  replace hz' : (ys.map V.int)[t]? = some z := hz'
  rw [List.getElem?_map] at hy hu hz'
  obtain ⟨y', hy1, rfl⟩ := Option.map_eq_some_iff.mp hy
  obtain ⟨u', hu1, rfl⟩ := Option.map_eq_some_iff.mp hu
  obtain ⟨z', hz1, rfl⟩ := Option.map_eq_some_iff.mp hz'
  rw [List.getElem?_zipWith, hu1, hz1] at hy1
  obtain rfl : f u' z' = y' := Option.some.inj hy1
  refine ⟨Tp, [.int u', .int z'], rfl, SqT.of upd_same, rfl, .int u', [.int z'], rfl, .int z', [], rfl, rfl, hw _ _, ?_⟩
  exact hs u' z' _ k (List.mem_of_getElem? hu1) (List.mem_of_getElem? hz1) (hk _ (Same.new hT))
theorem lc_mapT {K : PySem.W.Frag} {a D : Addr} {xs : List Int} {f : Int → Int} {te : TE} {vs : List Nat} {σ : L2.St} {H0 : Hp} {Qd : Hp → Prop} {i : Nat} (h1 : SqT K H0 a (xs.map V.int)) (hz : xs.length ≤ 1000) (hD : H0 D = none)
    (hw : ∀ u, wipe ((wipe σ vs).set i (some u)) vs = wipe σ vs) (hs : ∀ (u : Int) (H : Hp) (k : VK), u ∈ xs → k (.int (f u)) H → te ((wipe σ vs).set i (some (.int u))) H k)
    (hd : ∀ H, Same H0 H → H D = some (.lst ((xs.map f).map V.int)) → Qd H) : LcGoal (Itt K a) (gName i) te vs σ H0 D Qd := by
  refine lcm (walk_tup (K := K) (a := a) (xs := xs.map V.int)) ((xs.map f).map V.int) (by simp) (by rw [List.length_map]; omega) hD (fun H' s => seqT s h1) ?_ hd
  rintro t y x H1 H2 hi hy s1 ⟨rfl, hu⟩ k hk
  rw [List.getElem?_map] at hy hu
  obtain ⟨y', hy1, rfl⟩ := Option.map_eq_some_iff.mp hy
  obtain ⟨u', hu1, rfl⟩ := Option.map_eq_some_iff.mp hu
  rw [List.getElem?_map, hu1] at hy1
  obtain rfl : f u' = y' := Option.some.inj hy1
  exact ⟨hw _, hs u' _ k (List.mem_of_getElem? hu1) (hk _ (Same.refl _))⟩
theorem lc_mapL {K : PySem.W.Frag} {a D : Addr} {xs : List Int} {f : Int → Int} {te : TE} {vs : List Nat} {σ : L2.St} {H0 : Hp} {Qd : Hp → Prop} {i : Nat} (h1 : SqL K H0 a (xs.map V.int)) (hz : xs.length ≤ 1000) (hD : H0 D = none)
    (hw : ∀ u, wipe ((wipe σ vs).set i (some u)) vs = wipe σ vs) (hs : ∀ (u : Int) (H : Hp) (k : VK), u ∈ xs → k (.int (f u)) H → te ((wipe σ vs).set i (some (.int u))) H k)
    (hd : ∀ H, Same H0 H → H D = some (.lst ((xs.map f).map V.int)) → Qd H) : LcGoal (Itl K a) (gName i) te vs σ H0 D Qd := by
  refine lcm (walk_list (K := K) (a := a) (xs := xs.map V.int)) ((xs.map f).map V.int) (by simp) (by rw [List.length_map]; omega) hD (fun H' s => s.seq h1) ?_ hd
  rintro t y x H1 H2 hi hy s1 ⟨rfl, hu⟩ k hk
  rw [List.getElem?_map] at hy hu
  obtain ⟨y', hy1, rfl⟩ := Option.map_eq_some_iff.mp hy
  obtain ⟨u', hu1, rfl⟩ := Option.map_eq_some_iff.mp hu
  rw [List.getElem?_map, hu1] at hy1
  obtain rfl : f u' = y' := Option.some.inj hy1
  exact ⟨hw _, hs u' _ k (List.mem_of_getElem? hu1) (hk _ (Same.refl _))⟩
/-! ### whole data: lists and tuples of whole numbers -/
theorem dpAll_ints {K : PySem.W.Frag} {H : Hp} : ∀ ns : List Int, DpAll K H (ns.map V.int) (ns.map PyData.int)
  | [] => .nil
  | n :: ns => .cons (.int n) (dpAll_ints ns)
theorem lay_ints : ∀ ns : List Int, PyData.canLayAll0 (ns.map PyData.int) = true
  | [] => by simp [PyData.canLayAll0]
  | n :: ns => by simp [PyData.canLayAll0, PyData.canLay0, lay_ints ns]
theorem depth_ints : ∀ ns : List Int, PyData.depthAll (ns.map PyData.int) = 0
  | [] => by simp [PyData.depthAll]
  | n :: ns => by simp [PyData.depthAll, PyData.depth, depth_ints ns]
theorem shaped_tupI (ns : List Int) : SeqAt.shaped (.tuple (ns.map PyData.int)) = true := by simp [SeqAt.shaped, PyData.canLay0, PyData.depth, lay_ints, depth_ints]
theorem shaped_lstI (ns : List Int) : SeqAt.shaped (.list (ns.map PyData.int)) = true := by simp [SeqAt.shaped, PyData.canLay0, PyData.depth, lay_ints, depth_ints]
theorem shaped_two (xs ys : List Int) : SeqAt.shaped (.tuple [.list (xs.map PyData.int), .list (ys.map PyData.int)]) = true := by simp [SeqAt.shaped, PyData.canLay0, PyData.canLayAll0, PyData.depth, PyData.depthAll, lay_ints, depth_ints]
theorem eqv_ints : ∀ xs ys : List Int, PyData.eqvAll (xs.map PyData.int) (ys.map PyData.int) = decide (xs = ys)
  | [], [] => by simp [PyData.eqvAll]
  | [], y :: ys => by simp [PyData.eqvAll]
  | x :: xs, [] => by simp [PyData.eqvAll]
  | x :: xs, y :: ys => by
    simp only [List.map_cons, PyData.eqvAll, PyData.eqv, eqv_ints xs ys, List.cons.injEq]
    by_cases h1 : x = y <;> by_cases h2 : xs = ys <;> simp [h1, h2]
theorem eqv_tupI (xs ys : List Int) : PyData.eqv (.tuple (xs.map PyData.int)) (.tuple (ys.map PyData.int)) = decide (xs = ys) := by simp only [PyData.eqv, eqv_ints]
theorem eqv_lstI (xs ys : List Int) : PyData.eqv (.list (xs.map PyData.int)) (.list (ys.map PyData.int)) = decide (xs = ys) := by simp only [PyData.eqv, eqv_ints]
theorem eqv_two (x y : List Int × List Int) : PyData.eqv (.tuple [.list (x.1.map PyData.int), .list (x.2.map PyData.int)]) (.tuple [.list (y.1.map PyData.int), .list (y.2.map PyData.int)]) = decide (x = y) := by
  obtain ⟨a, b⟩ := x
  obtain ⟨c, d⟩ := y
  simp only [PyData.eqv, PyData.eqvAll, eqv_ints, Prod.mk.injEq]
  by_cases h1 : a = c <;> by_cases h2 : b = d <;> simp [h1, h2]
/-- == of two tuples of whole numbers -/
def rEqTI (K : PySem.W.Frag) : R2 := fun x y H Q => ∃ (a b : Addr) (xs ys : List Int), x = .ref a ∧ y = .ref b ∧ SqT K H a (xs.map V.int) ∧ SqT K H b (ys.map V.int) ∧ Q (.bl (decide (xs = ys))) H
theorem op_eqTI {X : Cx} (hu : X.A.units + 64 < cLine) : OpR X (compareOp .Eq) (rEqTI X.K) := by
  intro pins s σ H x y v u Q I rx ry h
  obtain ⟨a, b, xs, ys, rfl, rfl, h1, h2, q⟩ := h
  exact op_eqD hu pins s σ H _ _ v u Q I rx ry ⟨_, _, .tup h1 (dpAll_ints xs), .tup h2 (dpAll_ints ys), shaped_tupI xs, shaped_tupI ys, by rw [eqv_tupI]; exact q⟩
theorem and1 (n : Int) : Builtin.bitAnd n 1 = n.fmod 2 := by
  have h := PyProof.Rows.bitAnd_m1 n
  rw [Int.fmod_eq_emod_of_nonneg _ (by decide)]
  exact h
/-- a tuple that is read stands when a list is changed -/
theorem seqT_lst {K : PySem.W.Frag} {H : Hp} {a p : Addr} {zs : List V} {o : HO} {xs : List V} (hp : H p = some (.lst zs)) (h : SqT K H a xs) : SqT K (upd H p o) a xs := by
  rcases h with (h | ⟨u, h⟩) | h
  · exact .inl (.inl (by rw [upd_ne (ne_of h hp (by intro z; cases z))]; exact h))
  · exact .inl (.inr ⟨u, by rw [upd_ne (ne_of h hp (by intro z; cases z))]; exact h⟩)
  · exact .inr h
theorem seqT_kb {K : PySem.W.Frag} {H H' : Hp} {b a : Addr} {zs xs : List V} (hb : H b = some (.lst zs)) (k : Kb b H H') (h : SqT K H a xs) : SqT K H' a xs := by
  rcases h with (h | ⟨u, h⟩) | h
  · exact .inl (.inl (k _ _ h (ne_of h hb (by intro z; cases z))))
  · exact .inl (.inr ⟨u, k _ _ h (ne_of h hb (by intro z; cases z))⟩)
  · exact .inr h
section
variable {J : It} {n : Nat} {G : Hp → Prop} {Y : Nat → Hp → V → Hp → Prop} {D : Addr} {g : TG} {te : TE} {vs : List Nat} {σ : L2.St} {H0 : Hp} {Qd : Hp → Prop}
/-- a comprehension whose turns give new things, of which something is known -/
theorem lcs (w : Walk J n G Y) (P : Nat → V → Hp → Prop) (hP : ∀ i y H H', Same H H' → P i y H → P i y H') (hPD : ∀ i y H zs zs', H D = some (.lst zs) → P i y H → P i y (upd H D (.lst zs'))) (hz : n ≤ 100000) (hD : H0 D = none) (hG : ∀ H, Same H0 H → G H)
    (hs : ∀ i x H H', i < n → Same H0 H → Y i H x H' → ∀ k : VK, (∀ y H4, Same H H4 → P i y H4 → k y H4) → g x (wipe σ vs) H' fun σ2 H2 => wipe σ2 vs = wipe σ vs ∧ te σ2 H2 k)
    (hd : ∀ (ys : List V) H, ys.length = n → (∀ (i : Nat) y, ys[i]? = some y → P i y H) → Same H0 H → H D = some (.lst ys) → Qd H) : LcGoal J g te vs σ H0 D Qd := by
  refine lc_it w (fun i H => Same H0 H ∧ ∃ ys : List V, H D = some (.lst ys) ∧ ys.length = i ∧ ∀ (t : Nat) y, ys[t]? = some y → P t y H) ⟨Same.new hD, [], upd_same, rfl, fun t y h => by cases h⟩ (fun i H _ h => hG H h.1) (fun i x H H' hi h hy => ?_) (fun H h => ?_)
  · obtain ⟨h1, ys, h3, h4, h5⟩ := h
    refine hs i x H H' hi h1 hy _ fun y H4 s4 p => ⟨ys, s4 _ _ h3, ?_, fun c u q => ?_, ys ++ [y], upd_same, ?_, ?_⟩
    · exact Nat.lt_of_le_of_lt (by omega : ys.length ≤ 100000) (by decide)
    · rw [upd_ne (ne_of_none q hD)]
      exact s4 _ _ (h1 _ _ q)
    · rw [List.length_append, h4]
      rfl
    · intro t z hz
      refine hPD t z H4 ys _ (s4 _ _ h3) ?_
      rcases Nat.lt_or_ge t ys.length with q | q
      · rw [List.getElem?_append_left q] at hz
        exact hP _ _ _ _ s4 (h5 t z hz)
      · rw [List.getElem?_append_right q] at hz
        have e : t - ys.length = 0 := by
          have := (List.getElem?_eq_some_iff.mp hz).1
          simp at this
          omega
        rw [e] at hz
        obtain rfl : y = z := Option.some.inj hz
        have : t = i := by omega
        rw [this]
        exact p
  · obtain ⟨h1, ys, h3, h4, h5⟩ := h
    exact hd ys H h4 h5 h1 h3
end
end TL
namespace TL
/-! ### products of powers of primes -/
def pp : List Nat → List Nat → Nat
  | p :: ps, a :: as => p ^ a * pp ps as
  | _, _ => 1
def prs : List Nat := [2, 3, 5, 7, 11, 13]
def PC : List Nat → Prop
  | [] => True
  | p :: ps => 1 < p ∧ (∀ q ∈ ps, Nat.Coprime p q) ∧ PC ps
theorem pc_prs : PC prs := by simp only [PC, prs]; decide
theorem pc_drop : ∀ (n : Nat) {ps : List Nat}, PC ps → PC (ps.drop n)
  | 0, _, h => h
  | n + 1, [], h => h
  | n + 1, p :: ps, h => pc_drop n h.2.2
theorem pc_take : ∀ (n : Nat) {ps : List Nat}, PC ps → PC (ps.take n)
  | 0, _, _ => trivial
  | n + 1, [], h => h
  | n + 1, p :: ps, h => ⟨h.1, fun q hq => h.2.1 q (List.mem_of_mem_take hq), pc_take n h.2.2⟩
theorem pp_pos : ∀ {ps : List Nat} (as : List Nat), PC ps → 0 < pp ps as
  | [], _, _ => Nat.one_pos
  | p :: ps, [], _ => Nat.one_pos
  | p :: ps, a :: as, h => Nat.mul_pos (Nat.pow_pos (Nat.lt_trans Nat.one_pos h.1)) (pp_pos as h.2.2)
theorem cop_pp {k : Nat} : ∀ {ps : List Nat} (as : List Nat), (∀ q ∈ ps, Nat.Coprime k q) → Nat.Coprime k (pp ps as)
  | [], _, _ => Nat.coprime_one_right k
  | p :: ps, [], _ => Nat.coprime_one_right k
  | p :: ps, a :: as, h => Nat.Coprime.mul_right ((h p (List.mem_cons_self ..)).pow_right a) (cop_pp as fun q hq => h q (List.mem_cons_of_mem _ hq))
def Apart : List Nat → List Nat → Prop
  | a :: as, b :: bs => (a = 0 ∨ b = 0) ∧ Apart as bs
  | _, _ => True
theorem cop_ud : ∀ {ps as bs : List Nat}, PC ps → Apart as bs → Nat.Coprime (pp ps as) (pp ps bs)
  | [], _, _, _, _ => Nat.coprime_one_left _
  | p :: ps, [], _, _, _ => Nat.coprime_one_left _
  | p :: ps, a :: as, [], _, _ => Nat.coprime_one_right _
  | p :: ps, a :: as, b :: bs, h, d => by
    have ih := cop_ud h.2.2 d.2
    have h1 : Nat.Coprime (p ^ a) (pp ps bs) := (cop_pp bs h.2.1).pow_left a
    have h2 : Nat.Coprime (pp ps as) (p ^ b) := (Nat.Coprime.symm (cop_pp as h.2.1)).pow_right b
    have h3 : Nat.Coprime (p ^ a) (p ^ b) := by
      rcases d.1 with e | e
      · rw [e, Nat.pow_zero]
        exact Nat.coprime_one_left _
      · rw [e, Nat.pow_zero]
        exact Nat.coprime_one_right _
    exact Nat.Coprime.mul_left (Nat.Coprime.mul_right h3 h1) (Nat.Coprime.mul_right h2 ih)
theorem pp_add : ∀ (ps as bs : List Nat), as.length = bs.length → pp ps as * pp ps bs = pp ps (List.zipWith (· + ·) as bs)
  | [], _, _, _ => by simp [pp]
  | p :: ps, [], [], _ => by simp [pp]
  | p :: ps, a :: as, b :: bs, h => by
    have ih := pp_add ps as bs (by simpa using h)
    simp only [pp, List.zipWith_cons_cons, ← ih, Nat.pow_add]
    ac_rfl
theorem pp_pow (n : Nat) : ∀ (ps as : List Nat), pp ps as ^ n = pp ps (as.map (n * ·))
  | [], _ => by simp [pp]
  | p :: ps, [] => by simp [pp]
  | p :: ps, a :: as => by
    simp only [pp, List.map_cons, ← pp_pow n ps as, Nat.mul_pow]
    rw [← Nat.pow_mul, Nat.mul_comm a n]
/-! ### a ratio by its exponents -/
def upE (e : List Int) : List Nat := e.map Int.toNat
def dnE (e : List Int) : List Nat := e.map fun x => (-x).toNat
def up (e : List Int) : Nat := pp prs (upE e)
def dn (e : List Int) : Nat := pp prs (dnE e)
def addE (e f : List Int) : List Int := List.zipWith (· + ·) e f
def subE (e f : List Int) : List Int := List.zipWith (· - ·) e f
def mulE (n : Int) (e : List Int) : List Int := e.map (n * ·)
def negE (e : List Int) : List Int := e.map (- ·)
theorem up_pos (e : List Int) : 0 < up e := pp_pos _ pc_prs
theorem dn_pos (e : List Int) : 0 < dn e := pp_pos _ pc_prs
theorem apart_ud : ∀ e : List Int, Apart (upE e) (dnE e)
  | [] => trivial
  | x :: e => ⟨(show x.toNat = 0 ∨ (-x).toNat = 0 by omega), apart_ud e⟩
theorem cop_e (e : List Int) : Nat.Coprime (up e) (dn e) := cop_ud pc_prs (apart_ud e)
theorem up_neg (e : List Int) : up (negE e) = dn e := by
  unfold up dn upE dnE negE
  rw [List.map_map]
  rfl
theorem dn_neg (e : List Int) : dn (negE e) = up e := by
  unfold up dn upE dnE negE
  rw [List.map_map]
  congr 1
  apply List.map_congr_left
  intro x _
  simp
def both (e f : List Int) : List Nat := List.zipWith (fun x y => x.toNat + y.toNat - (x + y).toNat) e f
theorem up_mul (e f : List Int) (h : e.length = f.length) : up e * up f = pp prs (both e f) * up (addE e f) := by
  unfold up
  rw [pp_add _ _ _ (by simpa [upE] using h), pp_add _ _ _ (by simp [both, upE, addE])]
  congr 1
  apply List.ext_getElem
  · simp [both, upE, addE]
  · intro i h1 h2
    simp [both, upE, addE]
    omega
theorem dn_mul (e f : List Int) (h : e.length = f.length) : dn e * dn f = pp prs (both e f) * dn (addE e f) := by
  unfold dn
  rw [pp_add _ _ _ (by simpa [dnE] using h), pp_add _ _ _ (by simp [both, dnE, addE])]
  congr 1
  apply List.ext_getElem
  · simp [both, dnE, addE]
  · intro i h1 h2
    simp [both, dnE, addE]
    omega
/-- a fraction told over a common factor -/
theorem gcd_of {a b e m : Nat} (g : Nat.Coprime a b) : Nat.gcd (m * a) (m * b) = m := by
  rw [Nat.gcd_mul_left, g.gcd_eq_one, Nat.mul_one]
theorem ud_nil_iff {e : List Int} (h : e.length = 6) : up e = 1 → (∀ x ∈ e, x ≤ 0) := by
  intro u
  suffices H : ∀ {ps : List Nat} {as : List Nat}, PC ps → as.length ≤ ps.length → pp ps as = 1 → ∀ a ∈ as, a = 0 by
    intro x hx
    have := H pc_prs (by simp [upE, prs, h]) u x.toNat (List.mem_map.mpr ⟨x, hx, rfl⟩)
    omega
  intro ps
  induction ps with
  | nil =>
    intro as _ hl _ a ha
    have := List.length_eq_zero_iff.mp (Nat.le_zero.mp hl)
    rw [this] at ha
    cases ha
  | cons p ps ih =>
    intro as hp hl hu a ha
    cases as with
    | nil => cases ha
    | cons b bs =>
      have hu' : p ^ b = 1 ∧ pp ps bs = 1 := ⟨Nat.eq_one_of_mul_eq_one_right hu, Nat.eq_one_of_mul_eq_one_left hu⟩
      rcases List.mem_cons.mp ha with e | e
      · subst e
        have h1 := hu'.1
        rcases Nat.eq_zero_or_pos a with z | z
        · exact z
        · have := Nat.one_lt_pow (by omega : a ≠ 0) hp.1
          omega
      · exact ih hp.2.2 (by simpa using hl) hu'.2 a e
theorem pp_one : ∀ {ps as : List Nat}, PC ps → as.length ≤ ps.length → pp ps as = 1 → ∀ a ∈ as, a = 0
  | _, [], _, _, _, a, ha => by cases ha
  | [], b :: bs, _, hl, _, a, ha => by simp at hl
  | p :: ps, b :: bs, hp, hl, hu, a, ha => by
    have h1 : p ^ b = 1 := Nat.eq_one_of_mul_eq_one_right hu
    have h2 : pp ps bs = 1 := Nat.eq_one_of_mul_eq_one_left hu
    rcases List.mem_cons.mp ha with e | e
    · subst e
      rcases Nat.eq_zero_or_pos a with z | z
      · exact z
      · have := Nat.one_lt_pow (by omega : a ≠ 0) hp.1
        omega
    · exact pp_one hp.2.2 (by simpa using hl) h2 a e
theorem pp_drop {as : List Nat} {i : Nat} (hi : i < 6) (hl : as.length = 6) : ∃ p a, prs[i]? = some p ∧ as[i]? = some a ∧ 1 < p ∧ p ≤ 13 ∧ pp (prs.drop i) (as.drop i) = p ^ a * pp (prs.drop (i + 1)) (as.drop (i + 1)) ∧
    Nat.Coprime p (pp (prs.drop (i + 1)) (as.drop (i + 1))) ∧ 0 < pp (prs.drop (i + 1)) (as.drop (i + 1)) := by
  have h1 : i < prs.length := hi
  have h2 : i < as.length := by omega
  have hp := pc_drop i pc_prs
  rw [List.drop_eq_getElem_cons h1] at hp
  refine ⟨prs[i], as[i], List.getElem?_eq_getElem h1, List.getElem?_eq_getElem h2, hp.1, ?_, ?_, cop_pp _ hp.2.1, pp_pos _ hp.2.2⟩
  · have : ∀ p ∈ prs, p ≤ 13 := by decide
    exact this _ (List.getElem_mem h1)
  · rw [List.drop_eq_getElem_cons h1, List.drop_eq_getElem_cons h2]
    rfl
theorem pp_take : ∀ {ps as : List Nat} {i p a : Nat}, ps[i]? = some p → as[i]? = some a → pp (ps.take (i + 1)) (as.take (i + 1)) = pp (ps.take i) (as.take i) * p ^ a
  | [], _, _, _, _, h, _ => by simp at h
  | q :: ps, [], _, _, _, _, h => by simp at h
  | q :: ps, b :: bs, 0, p, a, h1, h2 => by
    simp at h1 h2
    subst h1 h2
    simp [pp]
  | q :: ps, b :: bs, i + 1, p, a, h1, h2 => by
    have ih := pp_take (ps := ps) (as := bs) (i := i) (p := p) (a := a) (by simpa using h1) (by simpa using h2)
    simp only [List.take_succ_cons, pp] at ih ⊢
    rw [ih, Nat.mul_assoc]
theorem pp_split : ∀ (i : Nat) (ps as : List Nat), ps.length = as.length → pp ps as = pp (ps.take i) (as.take i) * pp (ps.drop i) (as.drop i)
  | 0, ps, as, _ => by simp [pp]
  | i + 1, [], [], _ => by simp [pp]
  | i + 1, p :: ps, a :: as, h => by
    simp only [List.take_succ_cons, List.drop_succ_cons, pp]
    rw [pp_split i ps as (by simpa using h), Nat.mul_assoc]
theorem pp_take_le {i : Nat} {as : List Nat} (hl : as.length = 6) : pp (prs.take i) (as.take i) ≤ pp prs as := by
  rw [pp_split i prs as (by rw [hl]; rfl)]
  exact Nat.le_mul_of_pos_right _ (pp_pos _ (pc_drop i pc_prs))
def fill (as : List Nat) (i : Nat) : List Nat := as.take i ++ List.replicate (6 - i) 0
theorem fill_len {as : List Nat} {i : Nat} (hl : as.length = 6) (hi : i ≤ 6) : (fill as i).length = 6 := by
  simp [fill, hl]
  omega
theorem fill_all {as : List Nat} (hl : as.length = 6) : fill as 6 = as := by simp [fill, List.take_of_length_le (Nat.le_of_eq hl)]
theorem fill_set {as : List Nat} {i a : Nat} (hi : i < 6) (hl : as.length = 6) (ha : as[i]? = some a) : (fill as i).set i a = fill as (i + 1) := by
  apply List.ext_getElem
  · rw [List.length_set, fill_len hl (by omega), fill_len hl (by omega)]
  · intro j h1 h2
    have ha' := (List.getElem?_eq_some_iff.mp ha).2
    simp only [fill, List.getElem_set, List.getElem_append, List.length_take, List.getElem_take, List.getElem_replicate]
    by_cases e : i = j
    · subst e
      simp [hl, ha', show i < min (i + 1) 6 by omega]
    · rw [if_neg e]
      by_cases e2 : j < i
      · simp [hl, show j < min i 6 by omega, show j < min (i + 1) 6 by omega]
      · simp [hl, show ¬ j < min i 6 by omega, show ¬ j < min (i + 1) 6 by omega]
theorem fill_one {as : List Nat} {i : Nat} (hi : i < 6) (hl : as.length = 6) (h : pp (prs.drop i) (as.drop i) = 1) : fill as i = as := by
  have z := pp_one (pc_drop i pc_prs) (by simp [prs, hl]) h
  apply List.ext_getElem
  · rw [fill_len hl (by omega), hl]
  · intro j h1 h2
    simp only [fill, List.getElem_append, List.length_take, List.getElem_take, List.getElem_replicate]
    by_cases e : j < min i as.length
    · rw [dif_pos e]
    · rw [dif_neg e]
      have : as[j] ∈ as.drop i := by
        rw [List.mem_iff_getElem]
        exact ⟨j - i, by simp; omega, by simp [show i + (j - i) = j by omega]⟩
      exact (z _ this).symm
/-! ### how often a number divides -/
theorem split_at {p a n : Nat} (hp : 1 < p) (hc : Nat.Coprime p n) (hn : 0 < n) : ¬ p ^ 64 ∣ p ^ (a % 64) * n ∧ ¬ p ∣ n := by
  have h1 : ¬ p ∣ n := fun h => by
    have := hc.eq_one_of_dvd h
    omega
  refine ⟨fun h => h1 ?_, h1⟩
  have h2 : p ^ (a % 64 + 1) ∣ p ^ (a % 64) * n := Nat.dvd_trans (Nat.pow_dvd_pow p (by omega)) h
  rw [Nat.pow_succ] at h2
  exact Nat.dvd_of_mul_dvd_mul_left (Nat.pow_pos (by omega)) h2
theorem split_eq (p a n : Nat) : p ^ a * n = (p ^ 64) ^ (a / 64) * (p ^ (a % 64) * n) := by
  rw [← Nat.mul_assoc, ← Nat.pow_mul, ← Nat.pow_add, Nat.div_add_mod]
theorem pow_inj {p a b A B : Nat} (hp : 1 < p) (hA : Nat.Coprime p A) (h : p ^ a * A = p ^ b * B) : b ≤ a := by
  rcases Nat.lt_or_ge a b with c | c
  · exfalso
    have e : b = a + (b - a - 1 + 1) := by omega
    rw [e, Nat.pow_add, Nat.mul_assoc, Nat.pow_succ] at h
    have h2 := Nat.eq_of_mul_eq_mul_left (Nat.pow_pos (Nat.lt_trans Nat.one_pos hp)) h
    have : p ∣ A := ⟨p ^ (b - a - 1) * B, by rw [h2]; ac_rfl⟩
    have := hA.eq_one_of_dvd this
    omega
  · exact c
theorem pp_inj : ∀ {ps as bs : List Nat}, PC ps → as.length = ps.length → bs.length = ps.length → pp ps as = pp ps bs → as = bs
  | [], [], [], _, _, _, _ => rfl
  | p :: ps, a :: as, b :: bs, hp, h1, h2, h => by
    have cA := cop_pp (k := p) as hp.2.1
    have cB := cop_pp (k := p) bs hp.2.1
    have l1 := pow_inj hp.1 cA h
    have l2 := pow_inj hp.1 cB h.symm
    obtain rfl : a = b := by omega
    have h3 := Nat.eq_of_mul_eq_mul_left (Nat.pow_pos (Nat.lt_trans Nat.one_pos hp.1)) (show p ^ a * pp ps as = p ^ a * pp ps bs from h)
    rw [pp_inj hp.2.2 (by simpa using h1) (by simpa using h2) h3]
theorem e_inj {e f : List Int} (he : e.length = 6) (hf : f.length = 6) (hu : up e = up f) (hd : dn e = dn f) : e = f := by
  have a := pp_inj pc_prs (by simp [upE, he, prs]) (by simp [upE, hf, prs]) (show pp prs (upE e) = pp prs (upE f) from hu)
  have b := pp_inj pc_prs (by simp [dnE, he, prs]) (by simp [dnE, hf, prs]) (show pp prs (dnE e) = pp prs (dnE f) from hd)
  apply List.ext_getElem (by omega)
  intro i h1 h2
  have a' : (upE e)[i]? = (upE f)[i]? := by rw [a]
  have b' : (dnE e)[i]? = (dnE f)[i]? := by rw [b]
  simp [upE, dnE, h1, h2] at a' b'
  omega
theorem toNat_mulN (n : Nat) (x : Int) : ((n : Int) * x).toNat = n * x.toNat := by
  rcases Int.le_total 0 x with c | c
  · obtain ⟨k, rfl⟩ := Int.eq_ofNat_of_zero_le c
    rw [← Int.natCast_mul, Int.toNat_natCast, Int.toNat_natCast]
  · rw [Int.toNat_of_nonpos c, Int.toNat_of_nonpos (Int.mul_nonpos_of_nonneg_of_nonpos (by omega) c), Nat.mul_zero]
theorem up_pow (n : Nat) (e : List Int) : up e ^ n = up (mulE n e) := by
  unfold up
  rw [pp_pow]
  congr 1
  apply List.ext_getElem
  · simp [upE, mulE]
  · intro i h1 h2
    simp only [upE, mulE, List.getElem_map, toNat_mulN]
theorem neg_mulE (n : Int) (e : List Int) : negE (mulE n e) = mulE (-n) e := by
  apply List.ext_getElem
  · simp [negE, mulE]
  · intro i h1 h2
    simp [negE, mulE, Int.neg_mul]
theorem mul_negE (n : Int) (e : List Int) : mulE n (negE e) = mulE (-n) e := by
  apply List.ext_getElem
  · simp [negE, mulE]
  · intro i h1 h2
    simp [negE, mulE, Int.neg_mul, Int.mul_neg]
theorem dn_pow (n : Nat) (e : List Int) : dn e ^ n = dn (mulE n e) := by
  rw [← up_neg, ← up_neg, up_pow, mul_negE, neg_mulE]
theorem pp_at {as : List Nat} {i : Nat} (hi : i < 6) (hl : as.length = 6) : ∃ p a r, prs[i]? = some p ∧ as[i]? = some a ∧ 1 < p ∧ p ≤ 13 ∧ pp prs as = p ^ a * r ∧ 0 < r ∧ ¬ p ∣ r := by
  obtain ⟨p, a, e1, e2, g1, g2, g3, g4, g5⟩ := pp_drop hi hl
  have c1 : ∀ i : Fin 6, ∀ q ∈ prs.take i.val, Nat.Coprime (prs[i.val]'i.isLt) q := by decide
  have ep : prs[i]'hi = p := (List.getElem?_eq_some_iff.mp e1).2
  have c2 := c1 ⟨i, hi⟩
  simp only [ep] at c2
  have cop : Nat.Coprime p (pp (prs.take i) (as.take i) * pp (prs.drop (i + 1)) (as.drop (i + 1))) := Nat.Coprime.mul_right (cop_pp _ c2) g4
  refine ⟨p, a, pp (prs.take i) (as.take i) * pp (prs.drop (i + 1)) (as.drop (i + 1)), e1, e2, g1, g2, ?_, Nat.mul_pos (pp_pos _ (pc_take i pc_prs)) g5, fun h => ?_⟩
  · rw [pp_split i prs as (by rw [hl]; rfl), g3]
    ac_rfl
  · have := cop.eq_one_of_dvd h
    omega
end TL
namespace TL
open PySem PySem.Spec PyProof.Rows L2
theorem repr_X {prog : Program} {w : World} {A : Around} {E' : Value → Shared → Prop} {s : Shared} {K : PySem.W.Frag} {x C f : Addr} {ox : Obj} {od : Option Obj} {Q : Value → Shared → Prop} (hu : A.in1.units < cLine) (X₀ : K.In s.heap) (I : PySem.W.InstAt s.heap x ox C od) (hs : PySem.W.findIn K (.ref C) "__repr__" = some (some (.ref f)))
    (hf : PySem.W.isFn K (.ref f) = true) (h : wpAny (model prog w) A.in1 (call (.ref f) [.ref x]) (fun r s' => ∃ b t, r = Value.str b t ∧ Q r s') E' s) : wpAny (model prog w) A (call (.builtin "repr") [.ref x]) Q E' s := by
  refine Calls.call_function_entry PySem.F.kind_repr PySem.F.plain_repr PySem.F.entry_repr (PySem.F.args_repr1 _) (show wpAny _ _ (Builtin.«repr» _) _ _ s from ?_)
  unfold Builtin.«repr»
  refine wpAny_bind (m := oneArg "repr" _) (wpAny_pure (wpAny_bind (wpAny_cRoomFor hu (wpAny_bind (wpAny_bind (I.type.here ((PySem.W.looks_findIn X₀ hs).here ?_)))))))
  show wpAny _ _ (if (some (Value.ref f)).isNone = true then _ else _) _ _ s
  refine (if_neg (by simp) : (if (some (Value.ref f)).isNone = true then _ else _) = _) ▸ ?_
  refine wpAny_bind (m := callSpecialIfBound? (.ref x) (Str.ofString "__repr__") _) (PySem.W.ifBound_K X₀ I hs hf (wpAny_mono h (fun r s' ⟨b, t, e, hr⟩ => ?_) fun _ _ y => y))
  subst e
  refine wpAny_bind (wpAny_isInstance (typeIs_str _ _ _) isSubtype_str_str (by first | exact wpAny_pure ⟨_, rfl, hr⟩ | (rw [if_pos rfl]; exact wpAny_pure ⟨_, rfl, hr⟩)))
section
variable {X : Cx} {CX : CXT} {k : Nat} {C f : Addr} {fd : FuncData} {ps : List Str} {sp : Sp} {E : XK}
/-! ### str(x), x an instance with its own __str__ -/
def rStrOw (C : Addr) (sp : Sp) (E : XK) : List V → Hp → VK → Prop := fun vs H Q => ∃ a dx fs, vs = [.ref a] ∧ H a = some (.ins C dx fs) ∧ sp [.ref a] H (fun v H' => ∃ b, v = .str b ∧ Q v H') E
theorem call_strOw (at_ : PySem.W.findIn X.K (.ref C) "__str__" = some (some (.ref f))) (fn : PySem.W.isFn X.K (.ref f) = true) (F : FnOk X.prog X.w X.K X.mg X.base CX k f fd ps sp) (hr : Room (k + 2) X.A) (hb : Binds X.K fd ps []) (hx : Passes CX X E) :
    CallR X (.type "str") (rStrOw C sp E) := by
  intro pins s σ H vs us Q I r h
  obtain ⟨a, dx, fs, rfl, ha, q⟩ := h
  obtain rfl := Vals.ref1 r
  obtain ⟨od, J⟩ := inst_at I ha
  have hr2 : Room k X.A.in1.in1 := (show Room (k + 1) X.A.in1 from Room.in1 hr).in1
  refine PySem.W.kso_call (by have := hr2.units; omega) I.kIn J at_ fn (wpAny_mono (run_at2 (us := [.ref a]) (ws := [.ref a]) F hr2 I.env0.in1.in1 hb hx I (.cons rfl .nil) q) (fun w s' z => ?_) fun _ _ x => x)
  obtain ⟨z', H', I', rz, b, rfl, qz⟩ := z
  obtain ⟨t, rfl⟩ := rz
  exact ⟨.str b, H', I', ⟨t, rfl⟩, qz⟩
/-! ### repr(x), x an instance with its own __repr__ -/
theorem call_reprOw (at_ : PySem.W.findIn X.K (.ref C) "__repr__" = some (some (.ref f))) (fn : PySem.W.isFn X.K (.ref f) = true) (F : FnOk X.prog X.w X.K X.mg X.base CX k f fd ps sp) (hr : Room (k + 1) X.A) (hb : Binds X.K fd ps []) (hx : Passes CX X E) :
    CallR X (.builtin "repr") (rStrOw C sp E) := by
  intro pins s σ H vs us Q I r h
  obtain ⟨a, dx, fs, rfl, ha, q⟩ := h
  obtain rfl := Vals.ref1 r
  obtain ⟨od, J⟩ := inst_at I ha
  have hr1 : Room k X.A.in1 := Room.in1 hr
  refine repr_X (by have := hr1.units; omega) I.kIn J at_ fn (wpAny_mono (run_at2 (us := [.ref a]) (ws := [.ref a]) F hr1 I.env0.in1 hb hx I (.cons rfl .nil) q) (fun w s' z => ?_) fun _ _ x => x)
  obtain ⟨z', H', I', rz, b, rfl, qz⟩ := z
  obtain ⟨t, rfl⟩ := rz
  exact ⟨b, t, rfl, .str b, H', I', ⟨t, rfl⟩, qz⟩
/-! ### o.m(k = v, ..), a method called by names alone -/
def tMethK (C : Addr) (m : Str) (sp : Sp) (gV : List V → List V → List V) (E : XK) (ta : TE) (tk : TA) : TE := fun σ H Q => ta σ H fun x H1 => ∃ a dx fs, x = .ref a ∧ H1 a = some (.ins C dx fs) ∧ fs.lookup m = none ∧
  tk σ H1 fun zs H2 => sp (gV [x] zs) H2 Q E
theorem pe_methK {o : Expr} {m : Str} {apos pos : Pos} {kws : List Keyword} {ta : TE} {tk : TA} {ks : List Str} {g : List Value → List Value → List Value} {gV : List V → List V → List V} {pl : Sem Bool} (he : PE X o ta) (c : Cls X.K C) (hm : Meth X.K C m f) (F : FnOk X.prog X.w X.K X.mg X.base CX k f fd ps sp) (hr : Room k X.A)
    (hb : KBinds X.K fd ps ks g gV) (hx : Passes CX X E) (hkw : PK X kws tk) (hall : (backToKw pos (keywordEach kws X.env)).all (·.1.isSome) = true := by rfl) (hks : (backToKw pos (keywordEach kws X.env)).filterMap (·.1) = ks := by rfl)
    (hpl : ((backTo pos (starEach [] X.env)).any (·.1) || (backToKw pos (keywordEach kws X.env)).any (·.1.isNone)) = false := by rfl)
    (ht : eval (.Call (.Attribute o m apos) [] kws pos) X.env = (do
      let ov ← eval o X.env
      standAt apos.atName
      let (f, first) ← holding [ov] (getMethod ov m pl)
      callWith pos f first (backTo pos (starEach [] X.env)) (backToKw pos (keywordEach kws X.env))) := by rfl) : PE X (.Call (.Attribute o m apos) [] kws pos) (tMethK C m sp gV E ta tk) := by
  refine ⟨fun pins s σ H Q I h => PySem.W.methodCall_KW (pl := pl) (thn (he.run pins s σ H _ I h) fun u s1 ⟨x, H1, I1, rx, a, dx, fs, ex, ea, l, q⟩ => ?_) ht⟩
  subst ex
  obtain rfl : u = Value.ref a := rx
  refine getmeth_ok I1 ea c hm l (PySem.W.callWith_KW0 (first := [.ref a]) (h₀ := X.base) I.ok.mod.kin hm.kp hall (thn (hkw.run pos pins s1 σ H1 _ I1 q) fun ws s2 ⟨zs, H2, I2, rz, q2⟩ => ⟨I2.kIn, ?_⟩) hpl)
  rw [hks]
  exact run_fnk (us := [.ref a]) (vs := [.ref a]) F hr hb hx I2 (.cons rfl .nil) rz q2
/-! ### C.m(..), m a staticmethod of C: its record at p, its def at f -/
structure SMet (K : PySem.W.Frag) (C : Addr) (m : Str) (p f : Addr) : Prop where
  at_ : PySem.W.findCls K (.ref C) (.type "type") m = some (.get (.builtin "staticmethod.__get__") (.ref p) .none (.ref C))
  rc : ∃ rest, PySem.W.recIn K p "staticmethod" = some (.ref f :: rest)
  kp : PySem.W.keepIn K (.ref f) = true
theorem getsm_ok {pins : List (Addr × Obj)} {σ : L2.St} {H : Hp} {s : Shared} {A : Around} {E : Value → Shared → Prop} {m : Str} {p : Addr} {pl : Sem Bool} {Q : Value × List Value → Shared → Prop} (I : Inv X pins σ H s) (r : ClX.CRead X.K C (.type "type")) (c : SMet X.K C m p f)
    (h : ∀ s', Inv X pins σ H s' → Q (.ref f, []) s') : wpAny (model X.prog X.w) A (getMethod (.ref C) m pl) Q E s := by
  obtain ⟨rest, hp⟩ := c.rc
  exact PySem.W.method_cls I.kIn r.ga (PySem.W.cls_bind I.kIn r.rd c.at_ (wpAny_call (PySem.W.sm_get (s := { s with toks := s.toks + 1 }) I.kIn hp (PySem.W.handed_on rfl (h _ (I.tok _))))))
def tSm (C : Addr) (sp : Sp) (dvs : List V) (E : XK) (ta : TE) (t : TA) : TE := fun σ H Q => ta σ H fun x H1 => x = .ref C ∧ t σ H1 fun vs H2 => sp (vs ++ dvs) H2 Q E
theorem pe_sm {o e : Expr} {es : List Expr} {m : Str} {p : Addr} {apos pos : Pos} {ta : TE} {t : TA} {dvs : List V} {ds : List Value} {pl : Sem Bool} (he : PE X o ta) (r : ClX.CRead X.K C (.type "type")) (c : SMet X.K C m p f) (F : FnOk X.prog X.w X.K X.mg X.base CX k f fd ps sp) (hr : Room k X.A) (hb : Binds X.K fd ps ds) (hd : Vals dvs ds) (hx : Passes CX X E)
    (ha : PA X (e :: es) t) (hst : starEach (e :: es) X.env = (false, eval e X.env) :: starEach es X.env := by rfl) (hpl : (backTo pos (starEach es X.env)).any (·.1) = false := by rfl)
    (ht : eval (.Call (.Attribute o m apos) (e :: es) [] pos) X.env = (do
      let ov ← eval o X.env
      standAt apos.atName
      let (f, first) ← holding [ov] (getMethod ov m pl)
      callWith pos f first (backTo pos (starEach (e :: es) X.env)) (backToKw pos (keywordEach [] X.env))) := by rfl) : PE X (.Call (.Attribute o m apos) (e :: es) [] pos) (tSm C sp dvs E ta t) := by
  refine ⟨fun pins s σ H Q I h => PySem.W.methodCall_KW (pl := pl) (thn (he.run pins s σ H _ I h) fun u s1 ⟨x, H1, I1, rx, ex, q⟩ => ?_) ht⟩
  subst ex
  obtain rfl : u = Value.ref C := rx
  refine getsm_ok I1 r c fun s2 I2 => PySem.W.callWith_K (first := []) (h₀ := X.base) I.ok.mod.kin c.kp (thn (ha.run pos pins s2 σ H1 _ I2 q) fun us s3 ⟨vs, H2, I3, rv, q2⟩ => ⟨I3.kIn, ?_⟩) hst hpl
  exact run_fn (us := us) (vs := vs) F hr hb hd hx I3 rv q2
def tSmK (C : Addr) (sp : Sp) (gV : List V → List V → List V) (E : XK) (ta : TE) (tk : TA) : TE := fun σ H Q => ta σ H fun x H1 => x = .ref C ∧ tk σ H1 fun zs H2 => sp (gV [] zs) H2 Q E
theorem pe_smK {o : Expr} {m : Str} {p : Addr} {apos pos : Pos} {kws : List Keyword} {ta : TE} {tk : TA} {ks : List Str} {g : List Value → List Value → List Value} {gV : List V → List V → List V} {pl : Sem Bool} (he : PE X o ta) (r : ClX.CRead X.K C (.type "type")) (c : SMet X.K C m p f) (F : FnOk X.prog X.w X.K X.mg X.base CX k f fd ps sp) (hr : Room k X.A)
    (hb : KBinds X.K fd ps ks g gV) (hx : Passes CX X E) (hkw : PK X kws tk) (hall : (backToKw pos (keywordEach kws X.env)).all (·.1.isSome) = true := by rfl) (hks : (backToKw pos (keywordEach kws X.env)).filterMap (·.1) = ks := by rfl)
    (hpl : ((backTo pos (starEach [] X.env)).any (·.1) || (backToKw pos (keywordEach kws X.env)).any (·.1.isNone)) = false := by rfl)
    (ht : eval (.Call (.Attribute o m apos) [] kws pos) X.env = (do
      let ov ← eval o X.env
      standAt apos.atName
      let (f, first) ← holding [ov] (getMethod ov m pl)
      callWith pos f first (backTo pos (starEach [] X.env)) (backToKw pos (keywordEach kws X.env))) := by rfl) : PE X (.Call (.Attribute o m apos) [] kws pos) (tSmK C sp gV E ta tk) := by
  refine ⟨fun pins s σ H Q I h => PySem.W.methodCall_KW (pl := pl) (thn (he.run pins s σ H _ I h) fun u s1 ⟨x, H1, I1, rx, ex, q⟩ => ?_) ht⟩
  subst ex
  obtain rfl : u = Value.ref C := rx
  refine getsm_ok I1 r c fun s2 I2 => PySem.W.callWith_KW0 (first := []) (h₀ := X.base) I.ok.mod.kin c.kp hall (thn (hkw.run pos pins s2 σ H1 _ I2 q) fun ws s3 ⟨zs, H2, I3, rz, q2⟩ => ⟨I3.kIn, ?_⟩) hpl
  rw [hks]
  exact run_fnk (us := []) (vs := []) F hr hb hx I3 .nil rz q2
/-! ### x == y, x an instance with its own __eq__, y something else -/
def rOwN (K : PySem.W.Frag) (C : Addr) (sp : Sp) (E : XK) : R2 := fun x y H Q => ∃ a dx fs t, x = .ref a ∧ H a = some (.ins C dx fs) ∧ TyX K H y (.type t) ∧ PySem.W.subIn K (.type t) (.ref C) = some false ∧ sp [x, y] H Q E
theorem op_owEqN (at_ : PySem.W.findIn X.K (.ref C) "__eq__" = some (some (.ref f))) (fn : PySem.W.isFn X.K (.ref f) = true) (F : FnOk X.prog X.w X.K X.mg X.base CX k f fd ps sp) (hr : Room k X.A) (hb : Binds X.K fd ps []) (hx : Passes CX X E) :
    OpR X (compareOp .Eq) (rOwN X.K C sp E) := by
  intro pins s σ H x y v u Q I rx ry h
  obtain ⟨a, dx, fs, t, rfl, ha, ty, hsub, q⟩ := h
  cases (show v = Value.ref a from rx)
  obtain ⟨od, J⟩ := inst_at I ha
  obtain ⟨P, Z, hP, _⟩ := kit_of I ry ty
  obtain ⟨m, hF⟩ := I.fr
  refine PySem.W.cmp_K (op := .Eq) (tb := .type t) hr.units0 hF I.ok.mod.kin J (Z.ty _ s.heap I.kIn hP) (by simp [PySem.W.notFirst, hsub]) at_ fn ?_
  refine wpAny_mono (run_fn (us := [.ref a, u]) (vs := [.ref a, y]) F hr hb .nil hx I (.cons rfl (.cons ry .nil)) q) (fun w s' z => ?_) fun _ _ x => x
  obtain ⟨z', H', I', rz, qz⟩ := z
  exact cb rz ⟨z', H', I', rz, qz⟩
end
end TL
namespace TL
open PySem L2
/-! ### how keywords bind: one value by place and one by name, or one by name alone -/
def g11 {α : Type} : List α → List α → List α
  | [a], [b] => [a, b]
  | _, _ => []
def g01 {α : Type} : List α → List α → List α
  | [], [a] => [a]
  | _, _ => []
theorem vals_g11 {vs zs : List V} {us ws : List Value} (r : Vals vs us) (q : Vals zs ws) : Vals (g11 vs zs) (g11 us ws) := by
  rcases r with _ | ⟨h1, _ | ⟨_, _⟩⟩ <;> rcases q with _ | ⟨h2, _ | ⟨_, _⟩⟩ <;> first | exact .nil | exact .cons h1 (.cons h2 .nil)
theorem vals_g01 {vs zs : List V} {us ws : List Value} (r : Vals vs us) (q : Vals zs ws) : Vals (g01 vs zs) (g01 us ws) := by
  rcases r with _ | ⟨h1, _ | ⟨_, _⟩⟩ <;> rcases q with _ | ⟨h2, _ | ⟨_, _⟩⟩ <;> first | exact .nil | exact .cons h2 .nil
theorem g11_two {α : Type} {us ws : List α} (h : (g11 us ws).length = 2) : ∃ a b, us = [a] ∧ ws = [b] := by
  match us, ws, h with
  | [a], [b], _ => exact ⟨a, b, rfl, rfl⟩
  | [], _, h => simp [g11] at h
  | _ :: _ :: _, _, h => simp [g11] at h
  | [_], [], h => simp [g11] at h
  | [_], _ :: _ :: _, h => simp [g11] at h
theorem g01_one {α : Type} {us ws : List α} (h : (g01 us ws).length = 1) : ∃ a, us = [] ∧ ws = [a] := by
  match us, ws, h with
  | [], [a], _ => exact ⟨a, rfl, rfl⟩
  | _ :: _, _, h => simp [g01] at h
  | [], [], h => simp [g01] at h
  | [], _ :: _ :: _, h => simp [g01] at h
theorem Fun.kb11 {K : PySem.W.Frag} {x qual : Str} {st : Stmt} {f : Addr} {fd : FuncData} {p1 p2 : Str} (F : L2.Fun K x qual st f fd)
    (h : ∀ (kV doc pm : Value) (an : Option Addr) (cdv ct a b : Value), bindArgs (PySem.W.fnOf x qual (defArgs st) (defBody st) (defScope st) .none kV doc pm an cdv ct) ⟨[a], [(p2, b)]⟩ = pure [(p1, a), (p2, b)]) : KBinds K fd [p1, p2] [p2] g11 g11 := by
  obtain ⟨oc, od, kV, doc, pm, an, cdv, ct, osl, rfl, lk, hcd⟩ := F.ex
  refine ⟨fun s us ws X hl => ?_, vals_g11⟩
  obtain ⟨a, b, rfl, rfl⟩ := g11_two hl
  exact .of_eq (h _ _ _ _ _ _ a b)
theorem Fun.kb01 {K : PySem.W.Frag} {x qual : Str} {st : Stmt} {f : Addr} {fd : FuncData} {p1 : Str} (F : L2.Fun K x qual st f fd)
    (h : ∀ (kV doc pm : Value) (an : Option Addr) (cdv ct a : Value), bindArgs (PySem.W.fnOf x qual (defArgs st) (defBody st) (defScope st) .none kV doc pm an cdv ct) ⟨[], [(p1, a)]⟩ = pure [(p1, a)]) : KBinds K fd [p1] [p1] g01 g01 := by
  obtain ⟨oc, od, kV, doc, pm, an, cdv, ct, osl, rfl, lk, hcd⟩ := F.ex
  refine ⟨fun s us ws X hl => ?_, vals_g01⟩
  obtain ⟨a, rfl, rfl⟩ := g01_one hl
  exact .of_eq (h _ _ _ _ _ _ a)
/-- a def with defaults, called with keywords, all parameters written: g puts them in order -/
theorem FunD.kbinds1 {K : PySem.W.Frag} {x qual : Str} {params : Arguments} {body : List Stmt} {scope : Scope} {dvs : List V} {kws : List (Str × V)} {f : Addr} {fd : FuncData} {ps : List Str} (F : FunD K x qual params body scope dvs kws f fd) (n : Nat) (ks : List Str) (g : {α : Type} → List α → List α → List α) (hd : dvs ≠ [])
    (hrel : ∀ {vs zs : List V} {us ws : List Value}, Vals vs us → Vals zs ws → Vals (g vs zs) (g us ws))
    (h : ∀ (T : Addr) (kV doc pm : Value) (an : Option Addr) (cdv ct : Value) (us its ws : List Value), us.length = n → its.length = dvs.length → ws.length = ks.length →
      ∃ k, bindArgs (PySem.W.fnOf x qual params body scope (.ref T) kV doc pm an cdv ct) ⟨us, ks.zip ws⟩ = seqItems? (.ref T) >>= k ∧ k (some its.toArray) = pure (ps.zip (g us ws))) : KBn K fd ps n ks (fun us ws => g us ws) (fun vs zs => g vs zs) := by
  obtain ⟨oc, od, dV, kV, doc, pm, an, cdv, ct, osl, rfl, lk, hcd, hD, hK⟩ := F.ex
  rcases hD with ⟨e, _⟩ | ⟨_, T, o, its, m, rfl, lT, oT, rT⟩
  · exact absurd e hd
  · refine ⟨fun s us ws X l1 l2 => BindsTo.of_looks fun M => ?_, hrel⟩
    obtain ⟨k, e1, e2⟩ := h T kV doc pm an cdv ct us its ws l1 rT.length.symm l2
    rw [e1]
    exact looks_items X lT oT (.of_pure e2)
/-- the two values by name, the second parameter first -/
def gSwap {α : Type} (us ws : List α) : List α := us ++ ws.reverse
theorem vals_rev {vs : List V} {us : List Value} (r : Vals vs us) : Vals vs.reverse us.reverse := by
  induction r with
  | nil => exact .nil
  | cons h _ ih => rw [List.reverse_cons, List.reverse_cons]; exact ih.append (.cons h .nil)
theorem vals_swap {vs zs : List V} {us ws : List Value} (r : Vals vs us) (q : Vals zs ws) : Vals (gSwap vs zs) (gSwap us ws) := r.append (vals_rev q)
def gApp {α : Type} (us ws : List α) : List α := us ++ ws
theorem vals_app {vs zs : List V} {us ws : List Value} (r : Vals vs us) (q : Vals zs ws) : Vals (gApp vs zs) (gApp us ws) := r.append q
end TL
namespace TL
open PySem L2
/-! ### a def called by names alone -/
section
variable {X : Cx} {CX : CXT} {k : Nat} {x : Str} {f : Addr} {fd : FuncData} {ps ks : List Str} {sp : Sp} {E : XK} {tk : TA} {kws : List Keyword} {p pos : Pos} {g : List Value → List Value → List Value} {gV : List V → List V → List V}
def tCallK0 (sp : Sp) (gV : List V → List V → List V) (E : XK) (tk : TA) : TE := fun σ H Q => tk σ H fun zs H2 => sp (gV [] zs) H2 Q E
theorem pe_callK0 (F : FnOk X.prog X.w X.K X.mg X.base CX k f fd ps sp) (hr : Room k X.A) (hg : Gl X x) (hm : X.mg x = some (.ref f)) (hk : PySem.W.keepIn X.K (.ref f) = true) (hb : KBinds X.K fd ps ks g gV) (hx : Passes CX X E)
    (hkw : PK X kws tk) (hall : (backToKw pos (keywordEach kws X.env)).all (·.1.isSome) = true := by rfl) (hks : (backToKw pos (keywordEach kws X.env)).filterMap (·.1) = ks := by rfl)
    (hdb : (x == ("__debug__" : Str)) = false := by decide)
    (hpl : ((backTo pos (starEach [] X.env)).any (·.1) || (backToKw pos (keywordEach kws X.env)).any (·.1.isNone)) = false := by rfl) :
    PE X (.Call (.Name x p) [] kws pos) (tCallK0 sp gV E tk) := by
  refine ⟨fun pins s σ H Q I h => ?_⟩
  refine wpAny_Call_Name_kw (ld_glob I hg hm ?_ hdb)
  refine PySem.W.callWith_KW0 (first := []) (h₀ := X.base) I.ok.mod.kin hk hall (thn (hkw.run pos pins s σ H _ I h) fun ws s2 ⟨zs, H2, I2, rz, q2⟩ => ⟨I2.kIn, ?_⟩) hpl
  rw [hks]
  exact run_fnk (us := []) (vs := []) F hr hb hx I2 .nil rz q2
end
/-- two values by name, the second parameter first -/
def g02s {α : Type} : List α → List α → List α
  | [], [a, b] => [b, a]
  | _, _ => []
theorem vals_g02s {vs zs : List V} {us ws : List Value} (r : Vals vs us) (q : Vals zs ws) : Vals (g02s vs zs) (g02s us ws) := by
  rcases r with _ | ⟨h1, _⟩
  · rcases q with _ | ⟨h2, _ | ⟨h3, _ | ⟨_, _⟩⟩⟩ <;> first | exact .nil | exact .cons h3 (.cons h2 .nil)
  · exact .nil
theorem g02s_two {α : Type} {us ws : List α} (h : (g02s us ws).length = 2) : ∃ a b, us = [] ∧ ws = [a, b] := by
  match us, ws, h with
  | [], [a, b], _ => exact ⟨a, b, rfl, rfl⟩
  | _ :: _, _, h => simp [g02s] at h
  | [], [], h => simp [g02s] at h
  | [], [_], h => simp [g02s] at h
  | [], _ :: _ :: _ :: _, h => simp [g02s] at h
theorem Fun.kb02s {K : PySem.W.Frag} {x qual : Str} {st : Stmt} {f : Addr} {fd : FuncData} {p1 p2 : Str} (F : L2.Fun K x qual st f fd)
    (h : ∀ (kV doc pm : Value) (an : Option Addr) (cdv ct a b : Value), bindArgs (PySem.W.fnOf x qual (defArgs st) (defBody st) (defScope st) .none kV doc pm an cdv ct) ⟨[], [(p2, b), (p1, a)]⟩ = pure [(p1, a), (p2, b)]) : KBinds K fd [p1, p2] [p2, p1] g02s g02s := by
  obtain ⟨oc, od, kV, doc, pm, an, cdv, ct, osl, rfl, lk, hcd⟩ := F.ex
  refine ⟨fun s us ws X hl => ?_, vals_g02s⟩
  obtain ⟨a, b, rfl, rfl⟩ := g02s_two hl
  exact .of_eq (h _ _ _ _ _ _ b a)
end TL
namespace PySem.W
open PySem PySem.Spec PySem.Calls PyProof.Rows
section
variable {prog : Program} {w : World} {A : Around} {E : Value → Shared → Prop} {s : Shared} {K : Frag} {x C L : Addr} {h₀ : Heap} {m : Str → Option Value} {ox : Obj} {od : Option Obj} {f : Addr} {b tb : Value} {name : Str} {id : String}
theorem ifBound_KB {M : Model} {args : List Value} {Q : Option Value → Shared → Prop} (X : K.In s.heap) (I : InstAt s.heap x ox C od) (hs : findIn K (.ref C) name = some (some (.builtin id))) (hb : ∀ self, bindSpecial (.builtin id) self = pure (.builtin id, [self]))
    (h : wpAny M A (call (.builtin id) (.ref x :: args)) (fun v => Q (some v)) E s) : wpAny M A (callSpecialIfBound? (.ref x) name args) Q E s := by
  simp only [callSpecialIfBound?, bindSpecialIfBound?]
  refine wpAny_holding (wpAny_bind (wpAny_bind (wpAny_bind (I.type.here ((looks_findIn X hs).here ?_)))))
  refine wpAny_bind (wpAny_askSetting (wpAny_ite ?_))
  have fin : wpAny M A (call (.builtin id) ([.ref x] ++ args) >>= fun v => pure (some v)) Q E s := wpAny_bind (wpAny_mono h (fun v s' h' => wpAny_pure h') fun _ _ h' => h')
  split
  · exact wpAny_bind ((Looks.of_pure (hb _)).here (wpAny_pure (by exact fin)))
  · exact wpAny_tryCatch (wpAny_bind ((Looks.of_pure (hb _)).here (wpAny_pure (by exact fin))))
open Builtin in
theorem one_ne {Q : Value → Shared → Prop} (hu : A.in1.units < cLine) (X : K.In s.heap) (I : InstAt s.heap x ox C od) (hm : mroIn K C (.type "object") = some true) (hr : findIn K (.ref C) "__eq__" = some (some (.ref f))) (hf : isFn K (.ref f) = true)
    (h : wpAny (model prog w) A.in1 (call (.ref f) [.ref x, b]) (fun v s' => ∃ c, v = .bool c ∧ Q (.bool (!c)) s') E s) : wpAny (model prog w) A (call (.builtin "object.__ne__") [.ref x, b]) Q E s := by
  refine wpAny_call (codeAny_call_builtin PySem.F.cmp_object.ne.plain PySem.F.cmpEntry_ne (check_slot (i := "object.__ne__") (owner := "object") (n := "__ne__") (by decide +kernel) (by decide +kernel) (I.type.andThen (looks_mroIn X hm)) (PySem.F.cmpArgs_ne _ _) ?_))
  unfold Builtin.«object.__ne__»
  refine wpAny_bind (m := slotArgs "__ne__" 1 _) (wpAny_pure ?_)
  refine wpAny_bind (m := cRoomFor _ _) (wpAny_cRoomFor hu ?_)
  refine wpAny_bind (m := callSpecialIfBound? (.ref x) (Str.ofString "__eq__") _) (ifBound_K X I hr hf (wpAny_mono h (fun r s' hq => ?_) fun _ _ y => y))
  obtain ⟨c, rfl, hq⟩ := hq
  exact wpAny_bind (wpAny_truthy_bool (wpAny_pure hq))
theorem cmp_KNe {Q : Value → Shared → Prop} (hu : A.units < cLine) (hu1 : A.in1.units < cLine) (F : Fr h₀ L s.heap m) (X₀ : K.In h₀) (I : InstAt s.heap x ox C od) (hb : Looks (model prog w) s.heap (typeOf b) tb) (hn : notFirst K C tb = true)
    (hne : findIn K (.ref C) "__ne__" = some (some (.builtin "object.__ne__"))) (hm : mroIn K C (.type "object") = some true) (hs : findIn K (.ref C) "__eq__" = some (some (.ref f))) (hf : isFn K (.ref f) = true)
    (h : wpAny (model prog w) A.in1 (call (.ref f) [.ref x, b]) (fun v s' => ∃ c, v = .bool c ∧ Q (.bool (!c)) s') E s) : wpAny (model prog w) A (richCompare .NotEq (.ref x) b) Q E s := by
  have X := X₀.keeps F.keep
  have one : wpAny (model prog w) A (tryCompare (.ref x) (cmpInfo .NotEq).2.1 b) (fun r s' => ∃ v, r = some v ∧ Q v s') E s := by
    unfold tryCompare
    refine wpAny_bind (ifBound_KB X I hne PySem.F.cmp_object.ne.bind (one_ne hu1 X I hm hs hf (wpAny_mono h (fun v s' hv => ?_) fun _ _ e => e)))
    obtain ⟨c, rfl, hq⟩ := hv
    exact ⟨c, rfl, wpAny_pure ⟨_, rfl, hq⟩⟩
  unfold richCompare
  simp only [oneThing_ref]
  refine wpAny_holding (wpAny_bind (wpAny_cRoomFor hu ?_))
  refine wpAny_bind (I.type.here (wpAny_bind (hb.here ?_)))
  split
  · rename_i q
    have e : subIn K tb (.ref C) = some false := by
      rcases Bool.or_eq_true_iff.mp hn with e | e
      · rw [beq_iff_eq.mp e] at q; simp at q
      · exact beq_iff_eq.mp e
    refine wpAny_bind ((looks_subIn X e).here ?_)
    simp only [Bool.false_eq_true, if_false]
    refine wpAny_bind (wpAny_mono one (fun r s' z => ?_) fun _ _ e => e)
    obtain ⟨v, rfl, hq⟩ := z
    exact wpAny_pure hq
  · refine wpAny_bind (wpAny_pure ?_)
    simp only [Bool.false_eq_true, if_false]
    refine wpAny_bind (wpAny_mono one (fun r s' z => ?_) fun _ _ e => e)
    obtain ⟨v, rfl, hq⟩ := z
    exact wpAny_pure hq
end
end PySem.W
namespace TL
open PySem L2
section
variable {X : Cx} {C f : Addr} {k : Nat} {fd : FuncData} {ps : List Str} {sp : Sp} {CX : CXT} {E : XK}
/-- x != y, both instances of the class at C that has __eq__ alone -/
def rOwNe (C : Addr) (sp : Sp) (E : XK) : R2 := fun x y H Q => ∃ a dx fs b dy gs, x = .ref a ∧ y = .ref b ∧ H a = some (.ins C dx fs) ∧ H b = some (.ins C dy gs) ∧ sp [x, y] H (fun v H' => ∃ c, v = .bl c ∧ Q (.bl (!c)) H') E
theorem op_owNe (at_ : PySem.W.findIn X.K (.ref C) "__eq__" = some (some (.ref f))) (fn : PySem.W.isFn X.K (.ref f) = true) (ne : PySem.W.findIn X.K (.ref C) "__ne__" = some (some (.builtin "object.__ne__"))) (hm : PySem.W.mroIn X.K C (.type "object") = some true)
    (F : FnOk X.prog X.w X.K X.mg X.base CX k f fd ps sp) (hr : Room (k + 1) X.A) (hb : Binds X.K fd ps []) (hx : Passes CX X.nox E) : OpR X (compareOp .NotEq) (rOwNe C sp E) := by
  intro pins s σ H x y v u Q I rx ry h
  obtain ⟨a, dx, fs, b, dy, gs, rfl, rfl, ha, hb', q⟩ := h
  cases (show v = Value.ref a from rx)
  cases (show u = Value.ref b from ry)
  obtain ⟨od, J⟩ := inst_at I ha
  obtain ⟨od', J'⟩ := inst_at I hb'
  obtain ⟨m, hF⟩ := I.fr
  refine PySem.W.cmp_KNe (tb := .ref C) hr.units0 hr.in1.units0 hF I.ok.mod.kin J J'.type (by simp [PySem.W.notFirst]) ne hm at_ fn ?_
  have hl : ([Value.ref a, Value.ref b] ++ []).length = ps.length := by
    rw [← F.len _ _ _ _ q]
    rfl
  refine wpAny_call (codeAny_mono (F.run X.A.in1 X.stack s H ⟨[.ref a, .ref b], []⟩ [.ref a, .ref b] [.ref a, .ref b] _ E hr.in1 I.env0.in1 (hb s [.ref a, .ref b] I.kIn hl) (.cons rfl (.cons rfl .nil)) q) fun r s' hq => ?_)
  cases r with
  | error er => exact False.elim (hx pins σ H s er s' (I.wish _) hq)
  | ok fl =>
    cases fl with
    | ret u =>
      obtain ⟨v, H', I3, rv, c, rfl, q3⟩ := I.after hq
      cases (show u = Value.bool c from rv)
      exact ⟨c, rfl, .bl (!c), H', I3, rfl, q3⟩
    | next => exact False.elim hq
    | brk => exact False.elim hq
    | cont => exact False.elim hq
end
end TL
namespace TL
open PySem L2
/-- two values by name, in order -/
def g02 {α : Type} : List α → List α → List α
  | [], [a, b] => [a, b]
  | _, _ => []
theorem vals_g02 {vs zs : List V} {us ws : List Value} (r : Vals vs us) (q : Vals zs ws) : Vals (g02 vs zs) (g02 us ws) := by
  rcases r with _ | ⟨h1, _⟩
  · rcases q with _ | ⟨h2, _ | ⟨h3, _ | ⟨_, _⟩⟩⟩ <;> first | exact .nil | exact .cons h2 (.cons h3 .nil)
  · exact .nil
theorem g02_two {α : Type} {us ws : List α} (h : (g02 us ws).length = 2) : ∃ a b, us = [] ∧ ws = [a, b] := by
  match us, ws, h with
  | [], [a, b], _ => exact ⟨a, b, rfl, rfl⟩
  | _ :: _, _, h => simp [g02] at h
  | [], [], h => simp [g02] at h
  | [], [_], h => simp [g02] at h
  | [], _ :: _ :: _ :: _, h => simp [g02] at h
theorem Fun.kb02 {K : PySem.W.Frag} {x qual : Str} {st : Stmt} {f : Addr} {fd : FuncData} {p1 p2 : Str} (F : L2.Fun K x qual st f fd)
    (h : ∀ (kV doc pm : Value) (an : Option Addr) (cdv ct a b : Value), bindArgs (PySem.W.fnOf x qual (defArgs st) (defBody st) (defScope st) .none kV doc pm an cdv ct) ⟨[], [(p1, a), (p2, b)]⟩ = pure [(p1, a), (p2, b)]) : KBinds K fd [p1, p2] [p1, p2] g02 g02 := by
  obtain ⟨oc, od, kV, doc, pm, an, cdv, ct, osl, rfl, lk, hcd⟩ := F.ex
  refine ⟨fun s us ws X hl => ?_, vals_g02⟩
  obtain ⟨a, b, rfl, rfl⟩ := g02_two hl
  exact .of_eq (h _ _ _ _ _ _ a b)
/-- three values by name, the third parameter ahead of the second -/
def g03s {α : Type} : List α → List α → List α
  | [], [a, c, b] => [a, b, c]
  | _, _ => []
theorem vals_g03s {vs zs : List V} {us ws : List Value} (r : Vals vs us) (q : Vals zs ws) : Vals (g03s vs zs) (g03s us ws) := by
  rcases r with _ | ⟨h1, _⟩
  · rcases q with _ | ⟨h2, _ | ⟨h3, _ | ⟨h4, _ | ⟨_, _⟩⟩⟩⟩ <;> first | exact .nil | exact .cons h2 (.cons h4 (.cons h3 .nil))
  · exact .nil
theorem g03s_three {α : Type} {us ws : List α} (h : (g03s us ws).length = 3) : ∃ a c b, us = [] ∧ ws = [a, c, b] := by
  match us, ws, h with
  | [], [a, c, b], _ => exact ⟨a, c, b, rfl, rfl⟩
  | _ :: _, _, h => simp [g03s] at h
  | [], [], h => simp [g03s] at h
  | [], [_], h => simp [g03s] at h
  | [], [_, _], h => simp [g03s] at h
  | [], _ :: _ :: _ :: _ :: _, h => simp [g03s] at h
theorem Fun.kb03s {K : PySem.W.Frag} {x qual : Str} {st : Stmt} {f : Addr} {fd : FuncData} {p1 p2 p3 : Str} (F : L2.Fun K x qual st f fd)
    (h : ∀ (kV doc pm : Value) (an : Option Addr) (cdv ct a c b : Value), bindArgs (PySem.W.fnOf x qual (defArgs st) (defBody st) (defScope st) .none kV doc pm an cdv ct) ⟨[], [(p1, a), (p3, c), (p2, b)]⟩ = pure [(p1, a), (p2, b), (p3, c)]) : KBinds K fd [p1, p2, p3] [p1, p3, p2] g03s g03s := by
  obtain ⟨oc, od, kV, doc, pm, an, cdv, ct, osl, rfl, lk, hcd⟩ := F.ex
  refine ⟨fun s us ws X hl => ?_, vals_g03s⟩
  obtain ⟨a, c, b, rfl, rfl⟩ := g03s_three hl
  exact .of_eq (h _ _ _ _ _ _ a c b)
end TL
namespace TL
open PySem PySem.Spec PyProof.Rows L2
/-! ### max and min of a tuple of ints -/
section
variable {prog : Program} {w : World} {A : Around} {E : Value → Shared → Prop} {s : Shared} {l : Addr} {xs : Array (Int × Tok)}
theorem iter_intTuple {Q : Value → Shared → Prop} (hl : s.heap.IsTuple l (intItems xs))
    (h : ∀ s₂ : Shared, s₂ = { s with heap := s.heap.push { cls := .type "tuple_iterator", data := .fields #[.ref l, .int 0 0] } } →
      (s₂.heap.IsTupleIter s.heap.objs.size l 0 ∧ s₂.heap.IsTuple l (intItems xs)) → (∀ b ∈ [s.heap.objs.size, l], b < s₂.heap.objs.size) → l ≠ s.heap.objs.size → Q (.ref s.heap.objs.size) s₂) :
    wpAny (model prog w) A (pyIter (.ref l)) Q E s := by
  have hlt : l < s.heap.objs.size := by obtain ⟨_, e, _⟩ := hl; exact Heap.lt_size e
  refine wpAny_pyIter_tuple hl (h _ rfl ⟨⟨_, Heap.get?_push_size _ rfl, rfl, rfl⟩, hl.push _⟩ (fun b hb => ?_) (Nat.ne_of_lt hlt))
  show b < (s.heap.push _).objs.size
  rw [Heap.size_push]
  rcases List.mem_cons.mp hb with rfl | hb
  · exact Nat.lt_succ_self _
  · rcases List.mem_cons.mp hb with rfl | hb
    · exact Nat.lt_succ_of_lt hlt
    · cases hb
theorem old_keptT {h' : Heap} (hk : ∀ b o, b ∉ [s.heap.objs.size] → (s.heap.push { cls := .type "tuple_iterator", data := .fields #[.ref l, .int 0 0] }).get? b = some o → h'.get? b = some o) :
    ∀ b o, s.heap.get? b = some o → h'.get? b = some o := fun b o e => by
  refine hk b o (fun hm => ?_) (Heap.get?_push_of_some _ e)
  rcases List.mem_cons.mp hm with e1 | hm
  · rw [e1] at e
    exact absurd (Heap.lt_size e) (Nat.lt_irrefl _)
  · cases hm
theorem max_intTuple {Q : Value → Shared → Prop} (hh : A.handled = none) (hl : s.heap.IsTuple l (intItems xs)) (hne : 0 < xs.size)
    (h : ∀ v h' tk, (intItems xs)[argBest (fun i j => decide (numAt xs i > numAt xs j)) (xs.size - 1)]? = some v → (∀ b o, s.heap.get? b = some o → h'.get? b = some o) → Q v { s with heap := h', toks := tk }) :
    wpAny (model prog w) A (call (.builtin "max") [.ref l]) Q E s := by
  refine call_max_walk (iter_intTuple hl fun s₂ e st hfp hlI => ?_)
  subst e
  refine ⟨_, _, _, _, _, _, _, rfl, Walks.tuple (A := A.in1) hh _ l hlI (intItems xs), st, hfp, by simpa [intItems] using hne, CmpOf.ints_gt (numAt xs) (fun _ _ => intItems_at), fun v h' tk hP hk => ?_⟩
  exact h v h' tk (by simpa [intItems] using hP) (old_keptT hk)
theorem min_intTuple {Q : Value → Shared → Prop} (hh : A.handled = none) (hl : s.heap.IsTuple l (intItems xs)) (hne : 0 < xs.size)
    (h : ∀ v h' tk, (intItems xs)[argBest (fun i j => decide (numAt xs i < numAt xs j)) (xs.size - 1)]? = some v → (∀ b o, s.heap.get? b = some o → h'.get? b = some o) → Q v { s with heap := h', toks := tk }) :
    wpAny (model prog w) A (call (.builtin "min") [.ref l]) Q E s := by
  refine call_min_walk (iter_intTuple hl fun s₂ e st hfp hlI => ?_)
  subst e
  refine ⟨_, _, _, _, _, _, _, rfl, Walks.tuple (A := A.in1) hh _ l hlI (intItems xs), st, hfp, by simpa [intItems] using hne, CmpOf.ints_lt (numAt xs) (fun _ _ => intItems_at), fun v h' tk hP hk => ?_⟩
  exact h v h' tk (by simpa [intItems] using hP) (old_keptT hk)
end
section
variable {prog : Program} {w : World} {A : Around} {E : Value → Shared → Prop} {s : Shared} {l : Addr} {its : List Value} {ns : List Int} {Q : Value → Shared → Prop}
theorem max_rawT (hh : A.handled = none) (hl : s.heap.IsTuple l its.toArray) (hi : IntsAre its ns) (hne : 0 < ns.length)
    (h : ∀ h' tk M t', (∀ b o, s.heap.get? b = some o → h'.get? b = some o) → M ∈ ns → (∀ a, a ∈ ns → a ≤ M) → Q (.int M t') { s with heap := h', toks := tk }) : wpAny (model prog w) A (call (.builtin "max") [.ref l]) Q E s := by
  obtain ⟨xs, e⟩ := hi.allInts.items
  have hn : numsOf (intItems xs).toList = ns := by rw [← e]; exact hi.numsOf
  rw [nums_intItems] at hn
  subst hn
  rw [e] at hl
  have hsz : 0 < xs.size := by simpa using hne
  refine max_intTuple hh hl hsz fun v h' tk hv hk => ?_
  obtain ⟨t, rfl⟩ := intItems_at hv
  obtain ⟨h1, h2⟩ := argBest_gt (numAt xs) (xs.size - 1)
  refine h h' tk _ t hk ?_ fun a ha => ?_
  · rw [numAt_eq]; exact PySem.getD_mem (by rw [List.length_map, Array.length_toList]; omega)
  · obtain ⟨j, hj, rfl⟩ := mem_getD ha
    rw [List.length_map, Array.length_toList] at hj
    rw [← numAt_eq]; exact h2 j (by omega)
theorem min_rawT (hh : A.handled = none) (hl : s.heap.IsTuple l its.toArray) (hi : IntsAre its ns) (hne : 0 < ns.length)
    (h : ∀ h' tk M t', (∀ b o, s.heap.get? b = some o → h'.get? b = some o) → M ∈ ns → (∀ a, a ∈ ns → M ≤ a) → Q (.int M t') { s with heap := h', toks := tk }) : wpAny (model prog w) A (call (.builtin "min") [.ref l]) Q E s := by
  obtain ⟨xs, e⟩ := hi.allInts.items
  have hn : numsOf (intItems xs).toList = ns := by rw [← e]; exact hi.numsOf
  rw [nums_intItems] at hn
  subst hn
  rw [e] at hl
  have hsz : 0 < xs.size := by simpa using hne
  refine min_intTuple hh hl hsz fun v h' tk hv hk => ?_
  obtain ⟨t, rfl⟩ := intItems_at hv
  obtain ⟨h1, h2⟩ := argBest_lt (numAt xs) (xs.size - 1)
  refine h h' tk _ t hk ?_ fun a ha => ?_
  · rw [numAt_eq]; exact PySem.getD_mem (by rw [List.length_map, Array.length_toList]; omega)
  · obtain ⟨j, hj, rfl⟩ := mem_getD ha
    rw [List.length_map, Array.length_toList] at hj
    rw [← numAt_eq]; exact h2 j (by omega)
end
section
variable {X : Cx}
/-- max(xs), min(xs) of a list or a tuple of ints -/
def rMaxS (K : PySem.W.Frag) : List V → Hp → VK → Prop := fun vs H Q => ∃ (a : Addr) (ns : List Int), vs = [V.ref a] ∧ Sq K H a (ns.map V.int) ∧ 0 < ns.length ∧ ∀ m, m ∈ ns → (∀ y, y ∈ ns → y ≤ m) → Q (.int m) H
def rMinS (K : PySem.W.Frag) : List V → Hp → VK → Prop := fun vs H Q => ∃ (a : Addr) (ns : List Int), vs = [V.ref a] ∧ Sq K H a (ns.map V.int) ∧ 0 < ns.length ∧ ∀ m, m ∈ ns → (∀ y, y ∈ ns → m ≤ y) → Q (.int m) H
theorem cr_maxS (hc : X.calm = true) : CallR X (.builtin "max") (rMaxS X.K) := by
  intro pins s σ H vs us Q I r h
  obtain ⟨a, ns, rfl, hs, hne, q⟩ := h
  rcases hs with hs | hs
  · exact cr_max hc pins s σ H _ us Q I r ⟨a, ns, rfl, hs, hne, q⟩
  · obtain ⟨its, rv, hl, _⟩ := I.tuple hs
    rw [Vals.ref1 r]
    exact max_rawT (I.ok.hd hc) hl rv.ints hne fun h' tk m t' hk h1 h2 => ⟨.int _, H, I.kept hk, ⟨_, rfl⟩, q m h1 h2⟩
theorem cr_minS (hc : X.calm = true) : CallR X (.builtin "min") (rMinS X.K) := by
  intro pins s σ H vs us Q I r h
  obtain ⟨a, ns, rfl, hs, hne, q⟩ := h
  rcases hs with hs | hs
  · exact cr_min hc pins s σ H _ us Q I r ⟨a, ns, rfl, hs, hne, q⟩
  · obtain ⟨its, rv, hl, _⟩ := I.tuple hs
    rw [Vals.ref1 r]
    exact min_rawT (I.ok.hd hc) hl rv.ints hne fun h' tk m t' hk h1 h2 => ⟨.int _, H, I.kept hk, ⟨_, rfl⟩, q m h1 h2⟩
end
end TL
namespace TL
theorem pp_bound {k : Nat} : ∀ {ps as : List Nat}, (∀ p ∈ ps, 0 < p) → (∀ a ∈ as, a ≤ k) → pp ps as ≤ ps.foldr (· * ·) 1 ^ k
  | [], _, _, _ => by simp [pp]
  | p :: ps, [], h, _ => by
    have : ∀ qs : List Nat, (∀ q ∈ qs, 0 < q) → 0 < qs.foldr (· * ·) 1 := by
      intro qs
      induction qs with
      | nil => intro _; exact Nat.one_pos
      | cons q qs ih => intro hq; exact Nat.mul_pos (hq q (List.mem_cons_self ..)) (ih fun r hr => hq r (List.mem_cons_of_mem _ hr))
    exact Nat.pow_pos (this (p :: ps) h)
  | p :: ps, a :: as, h, ha => by
    have ih := pp_bound (ps := ps) (as := as) (fun q hq => h q (List.mem_cons_of_mem _ hq)) (fun b hb => ha b (List.mem_cons_of_mem _ hb))
    simp only [pp, List.foldr_cons, Nat.mul_pow]
    exact Nat.mul_le_mul (Nat.pow_le_pow_right (h p (List.mem_cons_self ..)) (ha a (List.mem_cons_self ..))) ih
/-- exponents of at most k -/
def Ex (k : Nat) (e : List Int) : Prop := ∀ x ∈ e, x.natAbs ≤ k
theorem ex_up {k : Nat} {e : List Int} (h : Ex k e) : up e ≤ 30030 ^ k := pp_bound (ps := prs) (by decide) fun a ha => by
  obtain ⟨x, hx, rfl⟩ := List.mem_map.mp (show a ∈ e.map Int.toNat from ha)
  have := h x hx
  omega
theorem ex_neg {k : Nat} {e : List Int} (h : Ex k e) : Ex k (negE e) := fun x hx => by
  obtain ⟨y, hy, rfl⟩ := List.mem_map.mp (show x ∈ e.map (- ·) from hx)
  rw [Int.natAbs_neg]
  exact h y hy
theorem ex_dn {k : Nat} {e : List Int} (h : Ex k e) : dn e ≤ 30030 ^ k := by
  rw [← up_neg]
  exact ex_up (ex_neg h)
theorem ex_mul {k : Nat} {e : List Int} {n : Int} {m : Nat} (hn : n.natAbs ≤ m) (h : Ex k e) : Ex (m * k) (mulE n e) := fun x hx => by
  obtain ⟨y, hy, rfl⟩ := List.mem_map.mp (show x ∈ e.map (n * ·) from hx)
  rw [Int.natAbs_mul]
  exact Nat.mul_le_mul hn (h y hy)
theorem big {k : Nat} (h : k ≤ 266) : 30030 ^ k < 2 ^ 4000 := by
  have h1 : 30030 ^ k ≤ (2 ^ 15) ^ k := Nat.pow_le_pow_left (by decide) k
  rw [← Nat.pow_mul] at h1
  exact Nat.lt_of_le_of_lt h1 (Nat.pow_lt_pow_right (by decide) (by omega))
end TL
namespace TL
theorem pp_sum : ∀ {ps as : List Nat}, (∀ p ∈ ps, 0 < p ∧ p ≤ 13) → pp ps as ≤ 13 ^ as.sum
  | [], _, _ => by simp only [pp]; exact Nat.pow_pos (by decide)
  | p :: ps, [], h => by simp [pp]
  | p :: ps, a :: as, h => by
    have ih := pp_sum (ps := ps) (as := as) (fun q hq => h q (List.mem_cons_of_mem _ hq))
    simp only [pp, List.sum_cons, Nat.pow_add]
    exact Nat.mul_le_mul (Nat.pow_le_pow_left (h p (List.mem_cons_self ..)).2 a) ih
theorem set_sum : ∀ (as : List Nat) (j a : Nat), (as.set j a).sum ≤ as.sum + a
  | [], _, _ => by simp
  | x :: as, 0, a => by simp only [List.set_cons_zero, List.sum_cons]; omega
  | x :: as, j + 1, a => by
    have := set_sum as j a
    simp only [List.set_cons_succ, List.sum_cons]
    omega
theorem sum_le {k : Nat} : ∀ {as : List Nat}, (∀ a ∈ as, a ≤ k) → as.sum ≤ as.length * k
  | [], _ => by simp
  | x :: as, h => by
    have ih := sum_le (as := as) fun a ha => h a (List.mem_cons_of_mem _ ha)
    have := h x (List.mem_cons_self ..)
    simp only [List.sum_cons, List.length_cons, Nat.add_mul, Nat.one_mul]
    omega
theorem prs_le : ∀ p ∈ prs, 0 < p ∧ p ≤ 13 := by decide
theorem upE_le {k : Nat} {e : List Int} (h : Ex k e) : ∀ a ∈ upE e, a ≤ k := fun a ha => by
  obtain ⟨x, hx, rfl⟩ := List.mem_map.mp (show a ∈ e.map Int.toNat from ha)
  have := h x hx
  omega
/-- what is known of a drawn ratio -/
def Kd (e : List Int) : Prop := up e < 2 ^ 200 ∧ dn e < 2 ^ 200
theorem up_sum {e : List Int} {m : Nat} (h : (upE e).sum ≤ m) (hm : m ≤ 50) : up e < 2 ^ 200 :=
  Nat.lt_of_le_of_lt (Nat.le_trans (pp_sum (ps := prs) prs_le) (Nat.pow_le_pow_right (by decide) (Nat.le_trans h hm))) (by decide : 13 ^ 50 < 2 ^ 200)
theorem up_ex3 {e : List Int} (h6 : e.length = 6) (h : Ex 3 e) : up e < 2 ^ 200 := up_sum (m := 18) (Nat.le_trans (sum_le (upE_le h)) (by rw [upE, List.length_map, h6]; decide)) (by decide)
theorem kd_ex3 {e : List Int} (h6 : e.length = 6) (h : Ex 3 e) : Kd e := ⟨up_ex3 h6 h, by rw [← up_neg]; exact up_ex3 (by simpa [negE] using h6) (ex_neg h)⟩
theorem up_set40 {e : List Int} {j : Nat} {v : Int} (h6 : e.length = 6) (h : Ex 1 e) (hv : v.natAbs ≤ 40) : up (e.set j v) < 2 ^ 200 := by
  have e1 : upE (e.set j v) = (upE e).set j v.toNat := by simp only [upE, List.map_set]
  refine up_sum (m := 46) ?_ (by decide)
  rw [e1]
  have h1 := set_sum (upE e) j v.toNat
  have h2 := sum_le (upE_le h)
  have h3 : (upE e).length = 6 := by rw [upE, List.length_map, h6]
  rw [h3] at h2
  omega
theorem kd_set40 {e : List Int} {j : Nat} {v : Int} (h6 : e.length = 6) (h : Ex 1 e) (hv : v.natAbs ≤ 40) : Kd (e.set j v) := ⟨up_set40 h6 h hv, by
  rw [← up_neg]
  have e1 : negE (e.set j v) = (negE e).set j (-v) := by simp only [negE, List.map_set]
  rw [e1]
  exact up_set40 (by simpa [negE] using h6) (ex_neg h) (by omega)⟩
theorem pp_ge : ∀ {ps as : List Nat}, (∀ p ∈ ps, 2 ≤ p) → as.length ≤ ps.length → ∀ a ∈ as, 2 ^ a ≤ pp ps as
  | [], [], _, _, _, h => by cases h
  | [], _ :: _, _, h, _, _ => absurd h (by simp)
  | _ :: _, [], _, _, _, h => by cases h
  | p :: ps, b :: as, hp, hl, a, ha => by
    have pos : ∀ (ps as : List Nat), (∀ p ∈ ps, 2 ≤ p) → 0 < pp ps as := by
      intro ps
      induction ps with
      | nil => intro as _; simp [pp]
      | cons q ps ih => intro as h; cases as with
        | nil => simp [pp]
        | cons c as => exact Nat.mul_pos (Nat.pow_pos (Nat.lt_of_lt_of_le (by decide) (h q (List.mem_cons_self ..)))) (ih as fun r hr => h r (List.mem_cons_of_mem _ hr))
    have hp' : ∀ q ∈ ps, 2 ≤ q := fun q hq => hp q (List.mem_cons_of_mem _ hq)
    simp only [pp]
    have p2 := hp p (List.mem_cons_self ..)
    rcases List.mem_cons.mp ha with z | z
    · rw [z]
      exact Nat.le_trans (Nat.pow_le_pow_left p2 b) (Nat.le_mul_of_pos_right _ (pos ps as hp'))
    · exact Nat.le_trans (pp_ge hp' (by simpa using hl) a z) (Nat.le_mul_of_pos_left _ (Nat.pow_pos (by omega)))
theorem ex_of_up {k : Nat} {e : List Int} (h6 : e.length = 6) (hu : up e < 2 ^ k) (hd : dn e < 2 ^ k) : Ex k e := fun x hx => by
  have h1 := pp_ge (ps := prs) (as := upE e) (by decide) (by rw [upE, List.length_map, h6]; decide) x.toNat (List.mem_map.mpr ⟨x, hx, rfl⟩)
  have h2 := pp_ge (ps := prs) (as := dnE e) (by decide) (by rw [dnE, List.length_map, h6]; decide) (-x).toNat (List.mem_map.mpr ⟨x, hx, rfl⟩)
  have g1 : x.toNat < k := (Nat.pow_lt_pow_iff_right (by decide : 1 < 2)).mp (Nat.lt_of_le_of_lt h1 hu)
  have g2 : (-x).toNat < k := (Nat.pow_lt_pow_iff_right (by decide : 1 < 2)).mp (Nat.lt_of_le_of_lt h2 hd)
  omega
/-- the ratio of the numerator alone -/
def posE (e : List Int) : List Int := e.map fun x => ((x.toNat : Nat) : Int)
theorem pos_len (e : List Int) : (posE e).length = e.length := by simp [posE]
theorem up_posE (e : List Int) : up (posE e) = up e := by
  simp only [up, upE, posE, List.map_map]
  congr 1
theorem pp_zero : ∀ (ps as : List Nat), (∀ a ∈ as, a = 0) → pp ps as = 1
  | [], _, _ => by simp [pp]
  | p :: ps, [], _ => by simp [pp]
  | p :: ps, a :: as, h => by
    have := pp_zero ps as fun b hb => h b (List.mem_cons_of_mem _ hb)
    simp only [pp, this, h a (List.mem_cons_self ..), Nat.pow_zero]
theorem dn_posE (e : List Int) : dn (posE e) = 1 := pp_zero _ _ fun a ha => by
  simp only [dnE, posE, List.map_map, List.mem_map] at ha
  obtain ⟨x, _, rfl⟩ := ha
  show (-(x.toNat : Int)).toNat = 0
  omega
theorem kd_pow {e : List Int} {n : Nat} (h : up e < 2 ^ 200) (hn : n ≤ 200) : up e ^ n < 2 ^ 50000 := by
  have h1 : up e ^ n ≤ (2 ^ 200) ^ n := Nat.pow_le_pow_left (Nat.le_of_lt h) n
  rw [← Nat.pow_mul] at h1
  exact Nat.lt_of_le_of_lt h1 (Nat.pow_lt_pow_right (by decide) (by
    have := Nat.mul_le_mul_left 200 hn
    omega))
end TL
namespace TL
/-- the exponents shifted right -/
def shrE (k : Nat) (as : List Nat) : List Nat := as.map (· / 2 ^ k)
def bitE (k : Nat) (as : List Nat) : List Nat := as.map (· / 2 ^ k % 2)
theorem half_step (a k : Nat) : a / 2 ^ k = a / 2 ^ (k + 1) + a / 2 ^ (k + 1) + a / 2 ^ k % 2 := by
  have h : a / 2 ^ (k + 1) = a / 2 ^ k / 2 := by rw [Nat.pow_succ, Nat.div_div_eq_div_mul]
  rw [h]
  omega
theorem pp_step (k : Nat) : ∀ ps as : List Nat, pp ps (shrE k as) = pp ps (shrE (k + 1) as) * pp ps (shrE (k + 1) as) * pp ps (bitE k as)
  | [], _ => by simp [pp, shrE, bitE]
  | _ :: _, [] => by simp [pp, shrE, bitE]
  | p :: ps, a :: as => by
    have ih := pp_step k ps as
    simp only [shrE, bitE, List.map_cons, pp] at ih ⊢
    rw [ih]
    have e : p ^ (a / 2 ^ k) = p ^ (a / 2 ^ (k + 1)) * p ^ (a / 2 ^ (k + 1)) * p ^ (a / 2 ^ k % 2) := by
      rw [← Nat.pow_add, ← Nat.pow_add, ← half_step]
    rw [e]
    simp only [Nat.mul_assoc, Nat.mul_left_comm, Nat.mul_comm]
theorem pp_pos2 : ∀ {ps : List Nat} (as : List Nat), (∀ p ∈ ps, 2 ≤ p) → 0 < pp ps as
  | [], _, _ => by simp [pp]
  | _ :: _, [], _ => by simp [pp]
  | p :: ps, a :: as, h => Nat.mul_pos (Nat.pow_pos (Nat.lt_of_lt_of_le (by decide) (h p (List.mem_cons_self ..)))) (pp_pos2 as fun q hq => h q (List.mem_cons_of_mem _ hq))
theorem pp_mono : ∀ {ps as bs : List Nat}, (∀ p ∈ ps, 2 ≤ p) → as.length = bs.length → (∀ (i a b : Nat), as[i]? = some a → bs[i]? = some b → a ≤ b) → pp ps as ≤ pp ps bs
  | [], _, _, _, _, _ => by simp [pp]
  | _ :: _, [], [], _, _, _ => Nat.le_refl _
  | _ :: _, [], _ :: _, _, h, _ => absurd h (by simp)
  | _ :: _, _ :: _, [], _, h, _ => absurd h (by simp)
  | p :: ps, a :: as, b :: bs, hp, hl, h => by
    have p2 := hp p (List.mem_cons_self ..)
    exact Nat.mul_le_mul (Nat.pow_le_pow_right (by omega) (h 0 a b rfl rfl)) (pp_mono (fun q hq => hp q (List.mem_cons_of_mem _ hq)) (Nat.succ.inj hl) fun i x y hx hy => h (i + 1) x y hx hy)
theorem pp_shr_le {ps as : List Nat} (k : Nat) (hp : ∀ p ∈ ps, 2 ≤ p) : pp ps (shrE k as) ≤ pp ps as := pp_mono hp (by simp [shrE]) fun i a b ha hb => by
  rw [shrE, List.getElem?_map, hb] at ha
  cases ha
  exact Nat.div_le_self _ _
theorem shr_zero (as : List Nat) : shrE 0 as = as := by simp [shrE]
theorem shr_top {as : List Nat} {n : Nat} (h : ∀ a ∈ as, a < 2 ^ n) (ps : List Nat) : pp ps (shrE n as) = 1 := pp_zero _ _ fun a ha => by
  obtain ⟨b, hb, rfl⟩ := List.mem_map.mp (show a ∈ as.map (· / 2 ^ n) from ha)
  exact Nat.div_eq_of_lt (h b hb)
end TL
namespace TL
/-! ### logarithms -/
/-- the mantissa (scale 2^200) and the exponent of p^(2^k) from below -/
def lgL (p : Nat) : Nat → Nat × Nat
  | 0 => if p < 4 then (p * 2 ^ 199, 1) else if p < 8 then (p * 2 ^ 198, 2) else (p * 2 ^ 197, 3)
  | k + 1 => let (a, m) := lgL p k
    let b := a * a / 2 ^ 200
    if b < 2 ^ 201 then (b, 2 * m) else (b / 2, 2 * m + 1)
def lgU (p : Nat) : Nat → Nat × Nat
  | 0 => if p < 4 then (p * 2 ^ 199, 1) else if p < 8 then (p * 2 ^ 198, 2) else (p * 2 ^ 197, 3)
  | k + 1 => let (a, m) := lgU p k
    let b := a * a / 2 ^ 200 + 1
    if b < 2 ^ 201 then (b, 2 * m) else (b / 2 + 1, 2 * m + 1)
theorem lgL_ok (p : Nat) : ∀ k, 2 ^ (lgL p k).2 * (lgL p k).1 ≤ 2 ^ 200 * p ^ 2 ^ k
  | 0 => by
    have e : ∀ i j : Nat, 2 ^ i * (p * 2 ^ j) = 2 ^ (i + j) * p ^ 2 ^ 0 := fun i j => by rw [Nat.pow_add, Nat.pow_zero, Nat.pow_one]; ac_rfl
    unfold lgL
    split
    · exact Nat.le_of_eq (e 1 199)
    · split
      · exact Nat.le_of_eq (e 2 198)
      · exact Nat.le_of_eq (e 3 197)
  | k + 1 => by
    have ih := lgL_ok p k
    unfold lgL
    generalize lgL p k = am at ih ⊢
    obtain ⟨a, m⟩ := am
    dsimp only at ih ⊢
    have h2 : 2 ^ (2 * m) * (a * a) ≤ 2 ^ 200 * (2 ^ 200 * p ^ 2 ^ (k + 1)) := by
      have := Nat.mul_le_mul ih ih
      rw [Nat.pow_succ 2 k, Nat.pow_mul p, Nat.pow_two, Nat.two_mul, Nat.pow_add]
      calc 2 ^ m * 2 ^ m * (a * a) = 2 ^ m * a * (2 ^ m * a) := by ac_rfl
        _ ≤ _ := this
        _ = _ := by ac_rfl
    have h3 : 2 ^ (2 * m) * (a * a / 2 ^ 200) ≤ 2 ^ 200 * p ^ 2 ^ (k + 1) := by
      refine Nat.le_of_mul_le_mul_left (c := 2 ^ 200) ?_ (Nat.pow_pos (show 0 < 2 by decide))
      calc 2 ^ 200 * (2 ^ (2 * m) * (a * a / 2 ^ 200)) = 2 ^ (2 * m) * (2 ^ 200 * (a * a / 2 ^ 200)) := by ac_rfl
        _ ≤ 2 ^ (2 * m) * (a * a) := Nat.mul_le_mul_left _ (Nat.mul_div_le _ _)
        _ ≤ _ := h2
    split
    · exact h3
    · refine Nat.le_trans ?_ h3
      rw [Nat.pow_succ, Nat.mul_assoc]
      exact Nat.mul_le_mul_left _ (Nat.mul_div_le _ _)
theorem lgU_ok (p : Nat) : ∀ k, 2 ^ 200 * p ^ 2 ^ k ≤ 2 ^ (lgU p k).2 * (lgU p k).1
  | 0 => by
    have e : ∀ i j : Nat, 2 ^ i * (p * 2 ^ j) = 2 ^ (i + j) * p ^ 2 ^ 0 := fun i j => by rw [Nat.pow_add, Nat.pow_zero, Nat.pow_one]; ac_rfl
    unfold lgU
    split
    · exact Nat.le_of_eq (e 1 199).symm
    · split
      · exact Nat.le_of_eq (e 2 198).symm
      · exact Nat.le_of_eq (e 3 197).symm
  | k + 1 => by
    have ih := lgU_ok p k
    unfold lgU
    generalize lgU p k = am at ih ⊢
    obtain ⟨a, m⟩ := am
    dsimp only at ih ⊢
    have h2 : 2 ^ 200 * (2 ^ 200 * p ^ 2 ^ (k + 1)) ≤ 2 ^ (2 * m) * (a * a) := by
      have := Nat.mul_le_mul ih ih
      rw [Nat.pow_succ 2 k, Nat.pow_mul p, Nat.pow_two, Nat.two_mul, Nat.pow_add]
      calc _ = 2 ^ 200 * p ^ 2 ^ k * (2 ^ 200 * p ^ 2 ^ k) := by ac_rfl
        _ ≤ _ := this
        _ = _ := by ac_rfl
    have e1 : a * a ≤ 2 ^ 200 * (a * a / 2 ^ 200 + 1) := by
      have := Nat.lt_mul_div_succ (a * a) (b := 2 ^ 200) (Nat.pow_pos (show 0 < 2 by decide))
      omega
    have h3 : 2 ^ 200 * p ^ 2 ^ (k + 1) ≤ 2 ^ (2 * m) * (a * a / 2 ^ 200 + 1) := by
      refine Nat.le_of_mul_le_mul_left (c := 2 ^ 200) ?_ (Nat.pow_pos (show 0 < 2 by decide))
      calc _ ≤ _ := h2
        _ ≤ 2 ^ (2 * m) * (2 ^ 200 * (a * a / 2 ^ 200 + 1)) := Nat.mul_le_mul_left _ e1
        _ = _ := by ac_rfl
    generalize a * a / 2 ^ 200 + 1 = b at h3 ⊢
    split
    · exact h3
    · refine Nat.le_trans h3 ?_
      rw [Nat.pow_succ, Nat.mul_assoc]
      exact Nat.mul_le_mul_left _ (by omega)
def lgs : List Nat := prs.map fun p => if p = 2 then 2 ^ 160 else (lgL p 160).2
theorem lg_low : ∀ p ∈ [3, 5, 7, 11, 13], 2 ^ 200 ≤ (lgL p 160).1 ∧ (lgU p 160).1 ≤ 2 ^ 201 ∧ (lgU p 160).2 = (lgL p 160).2 := by decide +kernel
end TL
namespace TL
def lg (k p : Nat) : Nat := if p = 2 then 2 ^ k else (lgL p k).2
def LGok (k : Nat) : Prop := ∀ p ∈ [3, 5, 7, 11, 13], 2 ^ 200 ≤ (lgL p k).1 ∧ (lgU p k).1 ≤ 2 ^ 201 ∧ (lgU p k).2 = (lgL p k).2
def LG : List Nat := [1461501637330902918203684832716283019655932542976, 2316425289912052156459349012948135070413798762147, 3393501712442504184481985927731639726947261569016, 4102953815156157747466701420553963045838567941448, 5055964974872705667124156087392374807824543452087, 5408198706907511090757516640326961560951895393234]
def LNs : List Int := [69314718055994530941723212145817656807550013436025, 109861228866810969139524523692252570464749055782274, 160943791243410037460075933322618763952560135426851, 194591014905531330510535274344317972963708472958186, 239789527279837054406194357796512929982170685393741, 256494935746153673605348744156531860480526794476020]
theorem lg_eq : prs.map (lg 160) = LG := by decide +kernel
theorem mem_cases {p : Nat} (h : p ∈ prs) : p = 2 ∨ p ∈ [3, 5, 7, 11, 13] := List.mem_cons.mp h
theorem lg_le {k : Nat} (hk : LGok k) : ∀ p ∈ prs, 2 ^ lg k p ≤ p ^ 2 ^ k ∧ p ^ 2 ^ k ≤ 2 ^ (lg k p + 1) := by
  intro p hp
  have f : p ∈ [3, 5, 7, 11, 13] → 2 ^ lg k p ≤ p ^ 2 ^ k ∧ p ^ 2 ^ k ≤ 2 ^ (lg k p + 1) := fun hq => by
    have h2 : ¬ p = 2 := fun e => by subst e; revert hq; decide
    have h := hk p hq
    have hl := lgL_ok p k
    have hu := lgU_ok p k
    unfold lg
    rw [if_neg h2]
    rw [h.2.2] at hu
    constructor
    · refine Nat.le_of_mul_le_mul_left (c := 2 ^ 200) ?_ (Nat.pow_pos (show 0 < 2 by decide))
      refine Nat.le_trans ?_ hl
      rw [Nat.mul_comm]
      exact Nat.mul_le_mul_left _ h.1
    · refine Nat.le_of_mul_le_mul_left (c := 2 ^ 200) ?_ (Nat.pow_pos (show 0 < 2 by decide))
      refine Nat.le_trans hu ?_
      rw [Nat.pow_succ 2 (lgL p k).2]
      calc 2 ^ (lgL p k).2 * (lgU p k).1 ≤ 2 ^ (lgL p k).2 * 2 ^ 201 := Nat.mul_le_mul_left _ h.2.1
        _ = _ := by rw [show 201 = 200 + 1 from rfl, Nat.pow_succ 2 200]; ac_rfl
  have g : p = 2 → 2 ^ lg k p ≤ p ^ 2 ^ k ∧ p ^ 2 ^ k ≤ 2 ^ (lg k p + 1) := fun e => by
    subst e
    unfold lg
    rw [if_pos rfl]
    exact ⟨Nat.le_refl _, Nat.pow_le_pow_right (by decide) (Nat.le_succ _)⟩
  have := mem_cases hp
  rcases this with h | h
  · exact g h
  · exact f h
def dotN : List Nat → List Nat → Nat
  | a :: as, m :: ms => a * m + dotN as ms
  | _, _ => 0
theorem pp_low {k : Nat} (N : Nat) : ∀ (ps as : List Nat), (∀ p ∈ ps, 2 ^ lg k p ≤ p ^ N) → 2 ^ dotN as (ps.map (lg k)) ≤ pp ps as ^ N
  | [], as, _ => by cases as <;> simp [pp, dotN]
  | p :: ps, [], _ => by simp [pp, dotN]
  | p :: ps, a :: as, h => by
    have ih := pp_low N ps as fun q hq => h q (List.mem_cons_of_mem _ hq)
    have h1 := Nat.pow_le_pow_left (h p (List.mem_cons_self ..)) a
    simp only [pp, dotN, List.map_cons]
    rw [Nat.pow_add, Nat.mul_pow, Nat.mul_comm a, Nat.pow_mul]
    refine Nat.mul_le_mul (Nat.le_trans h1 (Nat.le_of_eq ?_)) ih
    rw [← Nat.pow_mul, ← Nat.pow_mul, Nat.mul_comm]
theorem pp_high {k : Nat} (N : Nat) : ∀ (ps as : List Nat), (∀ p ∈ ps, p ^ N ≤ 2 ^ (lg k p + 1)) → pp ps as ^ N ≤ 2 ^ dotN as (ps.map fun p => lg k p + 1)
  | [], as, _ => by cases as <;> simp [pp, dotN]
  | p :: ps, [], _ => by simp [pp, dotN]
  | p :: ps, a :: as, h => by
    have ih := pp_high N ps as fun q hq => h q (List.mem_cons_of_mem _ hq)
    have h1 := Nat.pow_le_pow_left (h p (List.mem_cons_self ..)) a
    simp only [pp, dotN, List.map_cons]
    rw [Nat.pow_add, Nat.mul_pow, Nat.mul_comm a, Nat.pow_mul 2]
    refine Nat.mul_le_mul (Nat.le_trans (Nat.le_of_eq ?_) h1) ih
    rw [← Nat.pow_mul, ← Nat.pow_mul, Nat.mul_comm]
end TL
namespace TL
theorem log_arith (u0 u1 u2 u3 u4 u5 d0 d1 d2 d3 d4 d5 : Int) (hu0 : 0 ≤ u0 ∧ u0 ≤ 100000000) (hd0 : 0 ≤ d0 ∧ d0 ≤ 100000000) (hu1 : 0 ≤ u1 ∧ u1 ≤ 100000000) (hd1 : 0 ≤ d1 ∧ d1 ≤ 100000000) (hu2 : 0 ≤ u2 ∧ u2 ≤ 100000000) (hd2 : 0 ≤ d2 ∧ d2 ≤ 100000000) (hu3 : 0 ≤ u3 ∧ u3 ≤ 100000000) (hd3 : 0 ≤ d3 ∧ d3 ≤ 100000000) (hu4 : 0 ≤ u4 ∧ u4 ≤ 100000000) (hd4 : 0 ≤ d4 ∧ d4 ≤ 100000000) (hu5 : 0 ≤ u5 ∧ u5 ≤ 100000000) (hd5 : 0 ≤ d5 ∧ d5 ≤ 100000000)
    (h : 1000000000000 < 69314718055994530941723212145817656807550013436025 * (u0 - d0) + 109861228866810969139524523692252570464749055782274 * (u1 - d1) + 160943791243410037460075933322618763952560135426851 * (u2 - d2) + 194591014905531330510535274344317972963708472958186 * (u3 - d3) + 239789527279837054406194357796512929982170685393741 * (u4 - d4) + 256494935746153673605348744156531860480526794476020 * (u5 - d5)) : d0 + d1 + d2 + d3 + d4 + d5 < 1461501637330902918203684832716283019655932542976 * (u0 - d0) + 2316425289912052156459349012948135070413798762147 * (u1 - d1) + 3393501712442504184481985927731639726947261569016 * (u2 - d2) + 4102953815156157747466701420553963045838567941448 * (u3 - d3) + 5055964974872705667124156087392374807824543452087 * (u4 - d4) + 5408198706907511090757516640326961560951895393234 * (u5 - d5) := by
  have e : (1461501637330902918203684832716283019655932542976 : Int) * (69314718055994530941723212145817656807550013436025 * (u0 - d0) + 109861228866810969139524523692252570464749055782274 * (u1 - d1) + 160943791243410037460075933322618763952560135426851 * (u2 - d2) + 194591014905531330510535274344317972963708472958186 * (u3 - d3) + 239789527279837054406194357796512929982170685393741 * (u4 - d4) + 256494935746153673605348744156531860480526794476020 * (u5 - d5)) = 69314718055994530941723212145817656807550013436025 * (1461501637330902918203684832716283019655932542976 * (u0 - d0) + 2316425289912052156459349012948135070413798762147 * (u1 - d1) + 3393501712442504184481985927731639726947261569016 * (u2 - d2) + 4102953815156157747466701420553963045838567941448 * (u3 - d3) + 5055964974872705667124156087392374807824543452087 * (u4 - d4) + 5408198706907511090757516640326961560951895393234 * (u5 - d5)) + ((0) * (u0 - d0) + (43793785050518326854944870603338469797498627861749) * (u1 - d1) + (60981911441409731785930514241249787815400823647176) * (u2 - d2) + (2372752774845158157605543358762903037446802137336) * (u3 - d3) + (19222620487342313207063189792419089258108136679041) * (u4 - d4) + (40797832652188279574759729725535034334507174580670) * (u5 - d5)) := by omega
  have r : (0) * (u0 - d0) + (43793785050518326854944870603338469797498627861749) * (u1 - d1) + (60981911441409731785930514241249787815400823647176) * (u2 - d2) + (2372752774845158157605543358762903037446802137336) * (u3 - d3) + (19222620487342313207063189792419089258108136679041) * (u4 - d4) + (40797832652188279574759729725535034334507174580670) * (u5 - d5) ≤ 16716890240630380958030384772130528424296156490597200000000 := by
    clear e h
    have r0 : (0 : Int) * (u0 - d0) ≤ 0 := by omega
    have r1 : (43793785050518326854944870603338469797498627861749 : Int) * (u1 - d1) ≤ 4379378505051832685494487060333846979749862786174900000000 := by omega
    have r2 : (60981911441409731785930514241249787815400823647176 : Int) * (u2 - d2) ≤ 6098191144140973178593051424124978781540082364717600000000 := by omega
    have r3 : (2372752774845158157605543358762903037446802137336 : Int) * (u3 - d3) ≤ 237275277484515815760554335876290303744680213733600000000 := by omega
    have r4 : (19222620487342313207063189792419089258108136679041 : Int) * (u4 - d4) ≤ 1922262048734231320706318979241908925810813667904100000000 := by omega
    have r5 : (40797832652188279574759729725535034334507174580670 : Int) * (u5 - d5) ≤ 4079783265218827957475972972553503433450717458067000000000 := by omega
    generalize (0 : Int) * (u0 - d0) = t0 at *
    generalize (43793785050518326854944870603338469797498627861749 : Int) * (u1 - d1) = t1 at *
    generalize (60981911441409731785930514241249787815400823647176 : Int) * (u2 - d2) = t2 at *
    generalize (2372752774845158157605543358762903037446802137336 : Int) * (u3 - d3) = t3 at *
    generalize (19222620487342313207063189792419089258108136679041 : Int) * (u4 - d4) = t4 at *
    generalize (40797832652188279574759729725535034334507174580670 : Int) * (u5 - d5) = t5 at *
    clear hu0 hu1 hu2 hu3 hu4 hu5 hd0 hd1 hd2 hd3 hd4 hd5
    omega
  have t : d0 + d1 + d2 + d3 + d4 + d5 ≤ 600000000 := by
    clear e h r
    omega
  generalize 1461501637330902918203684832716283019655932542976 * (u0 - d0) + 2316425289912052156459349012948135070413798762147 * (u1 - d1) + 3393501712442504184481985927731639726947261569016 * (u2 - d2) + 4102953815156157747466701420553963045838567941448 * (u3 - d3) + 5055964974872705667124156087392374807824543452087 * (u4 - d4) + 5408198706907511090757516640326961560951895393234 * (u5 - d5) = X at e ⊢
  generalize 69314718055994530941723212145817656807550013436025 * (u0 - d0) + 109861228866810969139524523692252570464749055782274 * (u1 - d1) + 160943791243410037460075933322618763952560135426851 * (u2 - d2) + 194591014905531330510535274344317972963708472958186 * (u3 - d3) + 239789527279837054406194357796512929982170685393741 * (u4 - d4) + 256494935746153673605348744156531860480526794476020 * (u5 - d5) = S at e h
  generalize (0) * (u0 - d0) + (43793785050518326854944870603338469797498627861749) * (u1 - d1) + (60981911441409731785930514241249787815400823647176) * (u2 - d2) + (2372752774845158157605543358762903037446802137336) * (u3 - d3) + (19222620487342313207063189792419089258108136679041) * (u4 - d4) + (40797832652188279574759729725535034334507174580670) * (u5 - d5) = R at e r
  generalize d0 + d1 + d2 + d3 + d4 + d5 = D at t ⊢
  clear hu0 hu1 hu2 hu3 hu4 hu5 hd0 hd1 hd2 hd3 hd4 hd5
  omega
end TL
namespace TL
/-- the logarithm that the program reckons -/
def LN : List Int := LNs
def logE (e : List Int) : Int := (List.zipWith (· * ·) e LN).sum
theorem toN (x : Int) : ((x.toNat : Nat) : Int) - (((-x).toNat : Nat) : Int) = x := by omega
theorem log_lt0 {k : Nat} (hk : LGok k) (hLG : prs.map (lg k) = LG) {e : List Int} (h6 : e.length = 6) (hE : Ex (10 ^ 8) e) (h : 10 ^ 12 < logE e) : dn e < up e := by
  have lo := pp_low (k := k) (2 ^ k) prs (upE e) fun p hp => (lg_le hk p hp).1
  have hi := pp_high (k := k) (2 ^ k) prs (dnE e) fun p hp => (lg_le hk p hp).2
  have e2 : prs.map (fun p => lg k p + 1) = LG.map (· + 1) := by rw [← hLG, List.map_map]; rfl
  rw [hLG] at lo
  rw [e2] at hi
  have key : dotN (dnE e) (LG.map (· + 1)) < dotN (upE e) LG := by
    match e, h6, hE, h with
    | [e0, e1, e2, e3, e4, e5], _, hE, h =>
      have b : ∀ x ∈ [e0, e1, e2, e3, e4, e5], (0 ≤ ((x.toNat : Nat) : Int) ∧ ((x.toNat : Nat) : Int) ≤ 100000000) ∧ (0 ≤ (((-x).toNat : Nat) : Int) ∧ (((-x).toNat : Nat) : Int) ≤ 100000000) := fun x hx => by
        have := hE x hx
        omega
      have b0 := b e0 (by simp)
      have b1 := b e1 (by simp)
      have b2 := b e2 (by simp)
      have b3 := b e3 (by simp)
      have b4 := b e4 (by simp)
      have b5 := b e5 (by simp)
      have a := log_arith _ _ _ _ _ _ _ _ _ _ _ _ b0.1 b0.2 b1.1 b1.2 b2.1 b2.2 b3.1 b3.2 b4.1 b4.2 b5.1 b5.2
        (by
          rw [toN, toN, toN, toN, toN, toN]
          simp only [logE, LN, LNs, List.zipWith, List.sum_cons, List.sum_nil] at h
          clear b b0 b1 b2 b3 b4 b5 hE lo hi
          omega)
      simp only [upE, dnE, LG, List.map, dotN]
      clear b b0 b1 b2 b3 b4 b5 hE lo hi h
      omega
  have hN : 2 ^ k ≠ 0 := Nat.pos_iff_ne_zero.mp (Nat.pow_pos (by decide))
  generalize 2 ^ k = N at *
  rcases Nat.lt_or_ge (dn e) (up e) with c | c
  · exact c
  · exfalso
    have h1 := Nat.pow_le_pow_left c N
    have h2 : (2 : Nat) ^ dotN (upE e) LG ≤ 2 ^ dotN (dnE e) (LG.map (· + 1)) := Nat.le_trans lo (Nat.le_trans h1 hi)
    have h3 := (Nat.pow_le_pow_iff_right (by decide : 1 < 2)).mp h2
    omega
theorem lgok : LGok 160 := lg_low
theorem log_lt {e : List Int} (h6 : e.length = 6) (hE : Ex (10 ^ 8) e) (h : 10 ^ 12 < logE e) : dn e < up e := log_lt0 lgok lg_eq h6 hE h
theorem log_neg : ∀ (e l : List Int), (List.zipWith (· * ·) (negE e) l).sum = - (List.zipWith (· * ·) e l).sum
  | [], l => by simp [negE]
  | e :: es, [] => by simp [negE]
  | e :: es, l :: ls => by
    have ih := log_neg es ls
    simp only [negE, List.map_cons, List.zipWith_cons_cons, List.sum_cons] at ih ⊢
    rw [ih, Int.neg_mul]
    omega
theorem log_add : ∀ (e f l : List Int), e.length = f.length → (List.zipWith (· * ·) (addE e f) l).sum = (List.zipWith (· * ·) e l).sum + (List.zipWith (· * ·) f l).sum
  | [], [], l, _ => by simp [addE]
  | [], _ :: _, _, h => by simp at h
  | _ :: _, [], _, h => by simp at h
  | e :: es, f :: fs, [], _ => by simp [addE]
  | e :: es, f :: fs, l :: ls, h => by
    have ih := log_add es fs ls (Nat.succ.inj h)
    simp only [addE, List.zipWith_cons_cons, List.sum_cons] at ih ⊢
    rw [ih, Int.add_mul]
    omega
theorem log_gt {e : List Int} (h6 : e.length = 6) (hE : Ex (10 ^ 8) e) (h : logE e < - 10 ^ 12) : up e < dn e := by
  have := log_lt (e := negE e) (by simpa [negE] using h6) (ex_neg hE) (by
    have : logE (negE e) = - logE e := log_neg e LN
    rw [this]
    omega)
  rwa [up_neg, dn_neg] at this
theorem below_iff {x y : List Int} (hx : x.length = 6) (hy : y.length = 6) : up x * dn y < up y * dn x ↔ dn (addE y (negE x)) < up (addE y (negE x)) := by
  have hl : y.length = (negE x).length := by simp [negE, hx, hy]
  have h1 := up_mul y (negE x) hl
  have h2 := dn_mul y (negE x) hl
  rw [up_neg] at h1
  rw [dn_neg, Nat.mul_comm] at h2
  rw [h1, h2]
  have hp : 0 < pp prs (both y (negE x)) := pp_pos _ pc_prs
  exact ⟨fun h => Nat.lt_of_mul_lt_mul_left h, fun h => Nat.mul_lt_mul_of_pos_left h hp⟩
/-- where the logarithms are far from one another, they tell which ratio is less -/
theorem below_log {x y : List Int} (hx : x.length = 6) (hy : y.length = 6) (ex : Ex (10 ^ 7) x) (ey : Ex (10 ^ 7) y) (h : 10 ^ 12 < (logE y - logE x).natAbs) : up x * dn y < up y * dn x ↔ 0 < logE y - logE x := by
  rw [below_iff hx hy]
  have hs : (addE y (negE x)).length = 6 := by simp [addE, negE, hx, hy]
  have e1 : logE (addE y (negE x)) = logE y - logE x := by
    have a := log_add y (negE x) LN (by simp [negE, hx, hy])
    have b := log_neg x LN
    show (List.zipWith (· * ·) (addE y (negE x)) LN).sum = (List.zipWith (· * ·) y LN).sum - (List.zipWith (· * ·) x LN).sum
    rw [a, b]
    omega
  have hE : Ex (10 ^ 8) (addE y (negE x)) := fun v hv => by
    simp only [addE, negE] at hv
    obtain ⟨i, hi, rfl⟩ := List.mem_iff_getElem.mp hv
    simp only [List.length_zipWith, List.length_map] at hi
    rw [List.getElem_zipWith, List.getElem_map]
    have := ex x[i] (List.getElem_mem _)
    have := ey y[i] (List.getElem_mem _)
    omega
  rw [← e1] at h ⊢
  constructor
  · intro c
    rcases Int.lt_or_le 0 (logE (addE y (negE x))) with d | d
    · exact d
    · exact absurd (log_gt hs hE (by omega)) (by omega)
  · intro c
    exact log_lt hs hE (by omega)
end TL
namespace TL
open PySem L2

def top (i : Nat) : Stmt := PySem.Challenge.pw_turnsleft_k38_ratios_near_one.main.body.getD i (.Pass ⟨0, 0, 0, 0⟩)
abbrev s_log_of : Stmt := top 9
abbrev N_log_of : List Str := ["powers", "power", "log"]
theorem sc_log_of : FnScope N_log_of ["powers"] (defScope s_log_of) := ⟨rfl, rfl, rfl, by decide +kernel, rfl, by decide +kernel, by decide +kernel⟩
abbrev s_is_number : Stmt := top 13
abbrev N_is_number : List Str := ["value"]
theorem sc_is_number : FnScope N_is_number ["value"] (defScope s_is_number) := ⟨rfl, rfl, rfl, by decide +kernel, rfl, by decide +kernel, by decide +kernel⟩
abbrev s_Ratio_init : Stmt := inClass (top 21) 0
abbrev N_Ratio_init : List Str := ["self", "over", "under", "shared"]
theorem sc_Ratio_init : FnScope N_Ratio_init ["self", "over", "under"] (defScope s_Ratio_init) := ⟨rfl, rfl, rfl, by decide +kernel, rfl, by decide +kernel, by decide +kernel⟩
abbrev s_Ratio_powers : Stmt := inClass (top 21) 3
abbrev N_Ratio_powers : List Str := ["self"]
theorem sc_Ratio_powers : FnScope N_Ratio_powers ["self"] (defScope s_Ratio_powers) := ⟨rfl, rfl, rfl, by decide +kernel, rfl, by decide +kernel, by decide +kernel⟩
abbrev s_Ratio_bits : Stmt := inClass (top 21) 4
abbrev N_Ratio_bits : List Str := ["self", "power"]
theorem sc_Ratio_bits : FnScope N_Ratio_bits ["self"] (defScope s_Ratio_bits) := ⟨rfl, rfl, rfl, by decide +kernel, rfl, by decide +kernel, by decide +kernel⟩
abbrev s_Ratio_below : Stmt := inClass (top 21) 6
abbrev N_Ratio_below : List Str := ["self", "other", "more"]
theorem sc_Ratio_below : FnScope N_Ratio_below ["self", "other"] (defScope s_Ratio_below) := ⟨rfl, rfl, rfl, by decide +kernel, rfl, by decide +kernel, by decide +kernel⟩
abbrev s__raised : Stmt := top 22
abbrev N__raised : List Str := ["base", "exponent", "raised"]
theorem sc__raised : FnScope N__raised ["base", "exponent"] (defScope s__raised) := ⟨rfl, rfl, rfl, by decide +kernel, rfl, by decide +kernel, by decide +kernel⟩
abbrev s__made_of : Stmt := top 23
abbrev N__made_of : List Str := ["powers", "number", "at", "prime", "power"]
theorem sc__made_of : FnScope N__made_of ["powers"] (defScope s__made_of) := ⟨rfl, rfl, rfl, by decide +kernel, rfl, by decide +kernel, by decide +kernel⟩
abbrev s__fraction_of : Stmt := top 24
abbrev N__fraction_of : List Str := ["powers", "over", "under", "prime", "power"]
theorem sc__fraction_of : FnScope N__fraction_of ["powers"] (defScope s__fraction_of) := ⟨rfl, rfl, rfl, by decide +kernel, rfl, by decide +kernel, by decide +kernel⟩
abbrev s_ratio_with : Stmt := top 25
abbrev N_ratio_with : List Str := ["powers", "over", "under", "ratio"]
theorem sc_ratio_with : FnScope N_ratio_with ["powers"] (defScope s_ratio_with) := ⟨rfl, rfl, rfl, by decide +kernel, rfl, by decide +kernel, by decide +kernel⟩
abbrev s__split : Stmt := top 26
abbrev N__split : List Str := ["number", "divisor", "many", "rest", "remainder"]
theorem sc__split : FnScope N__split ["number", "divisor"] (defScope s__split) := ⟨rfl, rfl, rfl, by decide +kernel, rfl, by decide +kernel, by decide +kernel⟩
abbrev s__powers_in : Stmt := top 27
abbrev N__powers_in : List Str := ["number", "powers", "at", "prime", "many", "few"]
theorem sc__powers_in : FnScope N__powers_in ["number"] (defScope s__powers_in) := ⟨rfl, rfl, rfl, by decide +kernel, rfl, by decide +kernel, by decide +kernel⟩
abbrev s__powers_of : Stmt := top 28
abbrev N__powers_of : List Str := ["over", "under", "up", "down"]
theorem sc__powers_of : FnScope N__powers_of ["over", "under"] (defScope s__powers_of) := ⟨rfl, rfl, rfl, by decide +kernel, rfl, by decide +kernel, by decide +kernel⟩
abbrev s_is_length : Stmt := top 29
abbrev N_is_length : List Str := ["value"]
theorem sc_is_length : FnScope N_is_length ["value"] (defScope s_is_length) := ⟨rfl, rfl, rfl, by decide +kernel, rfl, by decide +kernel, by decide +kernel⟩
abbrev s_key_of : Stmt := top 35
abbrev N_key_of : List Str := ["ratio", "powers", "packed", "power"]
theorem sc_key_of : FnScope N_key_of ["ratio"] (defScope s_key_of) := ⟨rfl, rfl, rfl, by decide +kernel, rfl, by decide +kernel, by decide +kernel⟩
abbrev s_ratio_at : Stmt := top 36
abbrev N_ratio_at : List Str := ["key", "powers", "_", "power"]
theorem sc_ratio_at : FnScope N_ratio_at ["key"] (defScope s_ratio_at) := ⟨rfl, rfl, rfl, by decide +kernel, rfl, by decide +kernel, by decide +kernel⟩
abbrev s_is_below : Stmt := top 37
abbrev N_is_below : List Str := ["one", "other", "far"]
theorem sc_is_below : FnScope N_is_below ["one", "other"] (defScope s_is_below) := ⟨rfl, rfl, rfl, by decide +kernel, rfl, by decide +kernel, by decide +kernel⟩
abbrev s__key_near : Stmt := top 39
abbrev N__key_near : List Str := ["bits", "room", "many", "key", "great", "small"]
theorem sc__key_near : FnScope N__key_near ["bits", "room", "many"] (defScope s__key_near) := ⟨rfl, rfl, rfl, by decide +kernel, rfl, by decide +kernel, by decide +kernel⟩
abbrev s_ratio_near : Stmt := top 40
abbrev N_ratio_near : List Str := ["bits", "most"]
theorem sc_ratio_near : FnScope N_ratio_near ["bits", "most"] (defScope s_ratio_near) := ⟨rfl, rfl, rfl, by decide +kernel, rfl, by decide +kernel, by decide +kernel⟩
abbrev s_l_bag : Stmt := top 42
abbrev N_l_bag : List Str := ["_law_script", "_law_seed", "_law_cell"]
theorem sc_l_bag : FnScope N_l_bag ["_law_script"] (defScope s_l_bag) := ⟨rfl, rfl, rfl, by decide +kernel, rfl, by decide +kernel, by decide +kernel⟩
abbrev s_l_draw : Stmt := top 43
abbrev N_l_draw : List Str := ["_law_bag_here", "_law_many", "_law_cell", "_law_digit", "_law_seed"]
theorem sc_l_draw : FnScope N_l_draw ["_law_bag_here", "_law_many"] (defScope s_l_draw) := ⟨rfl, rfl, rfl, by decide +kernel, rfl, by decide +kernel, by decide +kernel⟩
abbrev s_l_of : Stmt := top 44
abbrev N_l_of : List Str := ["_law_bag_here", "_law_things"]
theorem sc_l_of : FnScope N_l_of ["_law_bag_here", "_law_things"] (defScope s_l_of) := ⟨rfl, rfl, rfl, by decide +kernel, rfl, by decide +kernel, by decide +kernel⟩
abbrev s_l_like : Stmt := top 45
abbrev N_l_like : List Str := ["_law_found", "_law_due", "_law_a", "_law_b"]
theorem sc_l_like : FnScope N_l_like ["_law_found", "_law_due"] (defScope s_l_like) := ⟨rfl, rfl, rfl, by decide +kernel, rfl, by decide +kernel, by decide +kernel⟩
abbrev s_l_gcd : Stmt := top 46
abbrev N_l_gcd : List Str := ["_law_one", "_law_other"]
theorem sc_l_gcd : FnScope N_l_gcd ["_law_one", "_law_other"] (defScope s_l_gcd) := ⟨rfl, rfl, rfl, by decide +kernel, rfl, by decide +kernel, by decide +kernel⟩
abbrev s_l_low : Stmt := top 47
abbrev N_l_low : List Str := ["_law_over", "_law_under", "_law_many"]
theorem sc_l_low : FnScope N_l_low ["_law_over", "_law_under"] (defScope s_l_low) := ⟨rfl, rfl, rfl, by decide +kernel, rfl, by decide +kernel, by decide +kernel⟩
abbrev s_l_times : Stmt := top 48
abbrev N_l_times : List Str := ["_law_one", "_law_other"]
theorem sc_l_times : FnScope N_l_times ["_law_one", "_law_other"] (defScope s_l_times) := ⟨rfl, rfl, rfl, by decide +kernel, rfl, by decide +kernel, by decide +kernel⟩
abbrev s_l_below : Stmt := top 49
abbrev N_l_below : List Str := ["_law_one", "_law_other"]
theorem sc_l_below : FnScope N_l_below ["_law_one", "_law_other"] (defScope s_l_below) := ⟨rfl, rfl, rfl, by decide +kernel, rfl, by decide +kernel, by decide +kernel⟩
abbrev s_l_powers : Stmt := top 50
abbrev N_l_powers : List Str := ["_law_pair_here", "_law_over", "_law_under", "_law_found", "_law_prime", "_law_many"]
theorem sc_l_powers : FnScope N_l_powers ["_law_pair_here"] (defScope s_l_powers) := ⟨rfl, rfl, rfl, by decide +kernel, rfl, by decide +kernel, by decide +kernel⟩
abbrev s_l_menu : Stmt := top 51
abbrev N_l_menu : List Str := []
theorem sc_l_menu : FnScope N_l_menu [] (defScope s_l_menu) := ⟨rfl, rfl, rfl, by decide +kernel, rfl, by decide +kernel, by decide +kernel⟩
abbrev s_l_length : Stmt := top 52
abbrev N_l_length : List Str := ["_law_bag_here", "_law_found"]
theorem sc_l_length : FnScope N_l_length ["_law_bag_here"] (defScope s_l_length) := ⟨rfl, rfl, rfl, by decide +kernel, rfl, by decide +kernel, by decide +kernel⟩
abbrev s_l_ratio : Stmt := top 53
abbrev N_l_ratio : List Str := ["_law_pair_here"]
theorem sc_l_ratio : FnScope N_l_ratio ["_law_pair_here"] (defScope s_l_ratio) := ⟨rfl, rfl, rfl, by decide +kernel, rfl, by decide +kernel, by decide +kernel⟩
abbrev s_l_pair : Stmt := top 54
abbrev N_l_pair : List Str := ["_law_thing", "_law_pair_here"]
theorem sc_l_pair : FnScope N_l_pair ["_law_thing"] (defScope s_l_pair) := ⟨rfl, rfl, rfl, by decide +kernel, rfl, by decide +kernel, by decide +kernel⟩
abbrev s_l_huge : Stmt := top 55
abbrev N_l_huge : List Str := ["_law_pairs", "_law_one"]
theorem sc_l_huge : FnScope N_l_huge ["_law_pairs"] (defScope s_l_huge) := ⟨rfl, rfl, rfl, by decide +kernel, rfl, by decide +kernel, by decide +kernel⟩
abbrev s_l_bit_row : Stmt := top 56
abbrev N_l_bit_row : List Str := ["_law_bag_here", "_law_k"]
theorem sc_l_bit_row : FnScope N_l_bit_row ["_law_bag_here"] (defScope s_l_bit_row) := ⟨rfl, rfl, rfl, by decide +kernel, rfl, by decide +kernel, by decide +kernel⟩
abbrev s_law : Stmt := top 57
abbrev N_law : List Str := ["_law_script", "_law_bag_here", "_law_lap", "_law_row", "_law_limit", "_law_told", "_law_pair_here", "_law_powers_here", "_law_one"]
theorem sc_law : FnScope N_law ["_law_script"] (defScope s_law) := ⟨rfl, rfl, rfl, by decide +kernel, rfl, by decide +kernel, by decide +kernel⟩
structure InsOk (K : PySem.W.Frag) (C : Addr) : Prop where
  ca : PySem.W.findIn K (.ref C) "__class__" = some (some (.builtin "object.__class__"))
  cn : PySem.W.specialIn K (.builtin "object.__class__") "__get__" = some (some (.builtin "getset_descriptor.__get__"))
  ct : PySem.W.takesIn K (.builtin "object.__class__") = some true
  cm : PySem.W.mroIn K C (.type "object") = some true
  me : PySem.W.kitOne K (.ref C) (.ref C) = some true
def PR : List (Nat × Nat) := [(0, 1), (0, 2), (0, 3), (0, 4), (0, 5), (1, 2), (1, 3), (1, 4), (1, 5), (2, 3), (2, 4), (2, 5), (3, 4), (3, 5), (4, 5)]
set_option maxHeartbeats 0 in
structure Tx (K : PySem.W.Frag) (mg : Str → Option Value) : Type where
  z_len : mg "len" = none
  z_abs : mg "abs" = none
  z_int : mg "int" = none
  z_isinstance : mg "isinstance" = none
  z_list : mg "list" = none
  z_tuple : mg "tuple" = none
  z_bool : mg "bool" = none
  z_str : mg "str" = none
  z_all : mg "all" = none
  z_any : mg "any" = none
  z_zip : mg "zip" = none
  z_range : mg "range" = none
  z_enumerate : mg "enumerate" = none
  z_divmod : mg "divmod" = none
  z_max : mg "max" = none
  z_min : mg "min" = none
  z_reversed : mg "reversed" = none
  z_sum : mg "sum" = none
  C_Ratio : Addr
  c_Ratio : Cls K C_Ratio
  g_Ratio : mg "Ratio" = some (.ref C_Ratio)
  n_Ratio_over : NoAttr K C_Ratio "over"
  n_Ratio_under : NoAttr K C_Ratio "under"
  n_Ratio_powers : NoAttr K C_Ratio "_powers"
  i_Ratio : InsOk K C_Ratio
  e_PRIMES : Addr
  m_PRIMES : mg "PRIMES" = some (.ref e_PRIMES)
  q_PRIMES : ∀ H : Hp, SqT K H e_PRIMES [.int 2, .int 3, .int 5, .int 7, .int 11, .int 13]
  e_NO_POWERS : Addr
  m_NO_POWERS : mg "NO_POWERS" = some (.ref e_NO_POWERS)
  q_NO_POWERS : ∀ H : Hp, SqT K H e_NO_POWERS [.int 0, .int 0, .int 0, .int 0, .int 0, .int 0]
  e_LOGS : Addr
  m_LOGS : mg "LOGS" = some (.ref e_LOGS)
  q_LOGS : ∀ H : Hp, SqT K H e_LOGS [.int 69314718055994530941723212145817656807550013436025, .int 109861228866810969139524523692252570464749055782274, .int 160943791243410037460075933322618763952560135426851, .int 194591014905531330510535274344317972963708472958186, .int 239789527279837054406194357796512929982170685393741, .int 256494935746153673605348744156531860480526794476020]
  m_gcd : mg "gcd" = some (.builtin "math.gcd")
  t_SLACK : Tok
  m_SLACK : mg "SLACK" = some (.int 1000000000000 t_SLACK)
  t_MANY : Tok
  m_MANY : mg "MANY" = some (.int 500 t_MANY)
  t_BASE : Tok
  m_BASE : mg "BASE" = some (.int 18446744073709551616 t_BASE)
  t_HALF : Tok
  m_HALF : mg "HALF" = some (.int 9223372036854775808 t_HALF)
  t_BEHIND : Tok
  m_BEHIND : mg "BEHIND" = some (.int 400 t_BEHIND)
  t_CLOSE : Tok
  m_CLOSE : mg "CLOSE" = some (.int 470 t_CLOSE)
  f_log_of : Addr
  d_log_of : FuncData
  F_log_of : Fun K "log_of" "log_of" s_log_of f_log_of d_log_of
  b_log_of : Binds K d_log_of ["powers"] []
  m_log_of : mg "log_of" = some (.ref f_log_of)
  f_is_number : Addr
  d_is_number : FuncData
  F_is_number : Fun K "is_number" "is_number" s_is_number f_is_number d_is_number
  b_is_number : Binds K d_is_number ["value"] []
  m_is_number : mg "is_number" = some (.ref f_is_number)
  f_Ratio_init : Addr
  d_Ratio_init : FuncData
  F_Ratio_init : FunD K "__init__" "Ratio.__init__" (defArgs s_Ratio_init) (defBody s_Ratio_init) (defScope s_Ratio_init) [V.int 1] [] f_Ratio_init d_Ratio_init
  ds_Ratio_init : List Value
  v_Ratio_init : Vals [V.int 1] ds_Ratio_init
  b_Ratio_init : Binds K d_Ratio_init ["self", "over", "under"] []
  b1_Ratio_init : Binds K d_Ratio_init ["self", "over", "under"] ds_Ratio_init
  k_Ratio : Mk K C_Ratio f_Ratio_init
  f_Ratio_powers : Addr
  d_Ratio_powers : FuncData
  F_Ratio_powers : Fun K "powers" "Ratio.powers" s_Ratio_powers f_Ratio_powers d_Ratio_powers
  b_Ratio_powers : Binds K d_Ratio_powers ["self"] []
  a_Ratio_powers : Meth K C_Ratio "powers" f_Ratio_powers
  f_Ratio_bits : Addr
  d_Ratio_bits : FuncData
  F_Ratio_bits : Fun K "bits" "Ratio.bits" s_Ratio_bits f_Ratio_bits d_Ratio_bits
  b_Ratio_bits : Binds K d_Ratio_bits ["self"] []
  a_Ratio_bits : Meth K C_Ratio "bits" f_Ratio_bits
  f_Ratio_below : Addr
  d_Ratio_below : FuncData
  F_Ratio_below : Fun K "below" "Ratio.below" s_Ratio_below f_Ratio_below d_Ratio_below
  b_Ratio_below : Binds K d_Ratio_below ["self", "other"] []
  a_Ratio_below : Meth K C_Ratio "below" f_Ratio_below
  f__raised : Addr
  d__raised : FuncData
  F__raised : Fun K "_raised" "_raised" s__raised f__raised d__raised
  b__raised : Binds K d__raised ["base", "exponent"] []
  m__raised : mg "_raised" = some (.ref f__raised)
  f__made_of : Addr
  d__made_of : FuncData
  F__made_of : Fun K "_made_of" "_made_of" s__made_of f__made_of d__made_of
  b__made_of : Binds K d__made_of ["powers"] []
  m__made_of : mg "_made_of" = some (.ref f__made_of)
  f__fraction_of : Addr
  d__fraction_of : FuncData
  F__fraction_of : Fun K "_fraction_of" "_fraction_of" s__fraction_of f__fraction_of d__fraction_of
  b__fraction_of : Binds K d__fraction_of ["powers"] []
  m__fraction_of : mg "_fraction_of" = some (.ref f__fraction_of)
  f_ratio_with : Addr
  d_ratio_with : FuncData
  F_ratio_with : Fun K "ratio_with" "ratio_with" s_ratio_with f_ratio_with d_ratio_with
  b_ratio_with : Binds K d_ratio_with ["powers"] []
  m_ratio_with : mg "ratio_with" = some (.ref f_ratio_with)
  f__split : Addr
  d__split : FuncData
  F__split : Fun K "_split" "_split" s__split f__split d__split
  b__split : Binds K d__split ["number", "divisor"] []
  m__split : mg "_split" = some (.ref f__split)
  f__powers_in : Addr
  d__powers_in : FuncData
  F__powers_in : Fun K "_powers_in" "_powers_in" s__powers_in f__powers_in d__powers_in
  b__powers_in : Binds K d__powers_in ["number"] []
  m__powers_in : mg "_powers_in" = some (.ref f__powers_in)
  f__powers_of : Addr
  d__powers_of : FuncData
  F__powers_of : Fun K "_powers_of" "_powers_of" s__powers_of f__powers_of d__powers_of
  b__powers_of : Binds K d__powers_of ["over", "under"] []
  m__powers_of : mg "_powers_of" = some (.ref f__powers_of)
  f_is_length : Addr
  d_is_length : FuncData
  F_is_length : Fun K "is_length" "is_length" s_is_length f_is_length d_is_length
  b_is_length : Binds K d_is_length ["value"] []
  m_is_length : mg "is_length" = some (.ref f_is_length)
  f_key_of : Addr
  d_key_of : FuncData
  F_key_of : Fun K "key_of" "key_of" s_key_of f_key_of d_key_of
  b_key_of : Binds K d_key_of ["ratio"] []
  m_key_of : mg "key_of" = some (.ref f_key_of)
  f_ratio_at : Addr
  d_ratio_at : FuncData
  F_ratio_at : Fun K "ratio_at" "ratio_at" s_ratio_at f_ratio_at d_ratio_at
  b_ratio_at : Binds K d_ratio_at ["key"] []
  m_ratio_at : mg "ratio_at" = some (.ref f_ratio_at)
  f_is_below : Addr
  d_is_below : FuncData
  F_is_below : Fun K "is_below" "is_below" s_is_below f_is_below d_is_below
  b_is_below : Binds K d_is_below ["one", "other"] []
  m_is_below : mg "is_below" = some (.ref f_is_below)
  f__key_near : Addr
  d__key_near : FuncData
  F__key_near : Fun K "_key_near" "_key_near" s__key_near f__key_near d__key_near
  b__key_near : Binds K d__key_near ["bits", "room", "many"] []
  m__key_near : mg "_key_near" = some (.ref f__key_near)
  f_ratio_near : Addr
  d_ratio_near : FuncData
  F_ratio_near : Fun K "ratio_near" "ratio_near" s_ratio_near f_ratio_near d_ratio_near
  b_ratio_near : Binds K d_ratio_near ["bits", "most"] []
  m_ratio_near : mg "ratio_near" = some (.ref f_ratio_near)
  f_l_bag : Addr
  d_l_bag : FuncData
  F_l_bag : Fun K "_law_bag" "_law_bag" s_l_bag f_l_bag d_l_bag
  b_l_bag : Binds K d_l_bag ["_law_script"] []
  m_l_bag : mg "_law_bag" = some (.ref f_l_bag)
  f_l_draw : Addr
  d_l_draw : FuncData
  F_l_draw : Fun K "_law_draw" "_law_draw" s_l_draw f_l_draw d_l_draw
  b_l_draw : Binds K d_l_draw ["_law_bag_here", "_law_many"] []
  m_l_draw : mg "_law_draw" = some (.ref f_l_draw)
  f_l_of : Addr
  d_l_of : FuncData
  F_l_of : Fun K "_law_of" "_law_of" s_l_of f_l_of d_l_of
  b_l_of : Binds K d_l_of ["_law_bag_here", "_law_things"] []
  m_l_of : mg "_law_of" = some (.ref f_l_of)
  f_l_like : Addr
  d_l_like : FuncData
  F_l_like : Fun K "_law_like" "_law_like" s_l_like f_l_like d_l_like
  b_l_like : Binds K d_l_like ["_law_found", "_law_due"] []
  m_l_like : mg "_law_like" = some (.ref f_l_like)
  f_l_gcd : Addr
  d_l_gcd : FuncData
  F_l_gcd : Fun K "_law_gcd" "_law_gcd" s_l_gcd f_l_gcd d_l_gcd
  b_l_gcd : Binds K d_l_gcd ["_law_one", "_law_other"] []
  m_l_gcd : mg "_law_gcd" = some (.ref f_l_gcd)
  f_l_low : Addr
  d_l_low : FuncData
  F_l_low : Fun K "_law_low" "_law_low" s_l_low f_l_low d_l_low
  b_l_low : Binds K d_l_low ["_law_over", "_law_under"] []
  m_l_low : mg "_law_low" = some (.ref f_l_low)
  f_l_times : Addr
  d_l_times : FuncData
  F_l_times : Fun K "_law_times" "_law_times" s_l_times f_l_times d_l_times
  b_l_times : Binds K d_l_times ["_law_one", "_law_other"] []
  m_l_times : mg "_law_times" = some (.ref f_l_times)
  f_l_below : Addr
  d_l_below : FuncData
  F_l_below : Fun K "_law_below" "_law_below" s_l_below f_l_below d_l_below
  b_l_below : Binds K d_l_below ["_law_one", "_law_other"] []
  m_l_below : mg "_law_below" = some (.ref f_l_below)
  f_l_powers : Addr
  d_l_powers : FuncData
  F_l_powers : Fun K "_law_powers" "_law_powers" s_l_powers f_l_powers d_l_powers
  b_l_powers : Binds K d_l_powers ["_law_pair_here"] []
  m_l_powers : mg "_law_powers" = some (.ref f_l_powers)
  f_l_menu : Addr
  d_l_menu : FuncData
  F_l_menu : Fun K "_law_menu" "_law_menu" s_l_menu f_l_menu d_l_menu
  b_l_menu : Binds K d_l_menu [] []
  m_l_menu : mg "_law_menu" = some (.ref f_l_menu)
  f_l_length : Addr
  d_l_length : FuncData
  F_l_length : Fun K "_law_length" "_law_length" s_l_length f_l_length d_l_length
  b_l_length : Binds K d_l_length ["_law_bag_here"] []
  m_l_length : mg "_law_length" = some (.ref f_l_length)
  f_l_ratio : Addr
  d_l_ratio : FuncData
  F_l_ratio : Fun K "_law_ratio" "_law_ratio" s_l_ratio f_l_ratio d_l_ratio
  b_l_ratio : Binds K d_l_ratio ["_law_pair_here"] []
  m_l_ratio : mg "_law_ratio" = some (.ref f_l_ratio)
  f_l_pair : Addr
  d_l_pair : FuncData
  F_l_pair : Fun K "_law_pair" "_law_pair" s_l_pair f_l_pair d_l_pair
  b_l_pair : Binds K d_l_pair ["_law_thing"] []
  m_l_pair : mg "_law_pair" = some (.ref f_l_pair)
  f_l_huge : Addr
  d_l_huge : FuncData
  F_l_huge : Fun K "_law_huge" "_law_huge" s_l_huge f_l_huge d_l_huge
  b_l_huge : Binds K d_l_huge ["_law_pairs"] []
  m_l_huge : mg "_law_huge" = some (.ref f_l_huge)
  f_l_bit_row : Addr
  d_l_bit_row : FuncData
  F_l_bit_row : Fun K "_law_bit_row" "_law_bit_row" s_l_bit_row f_l_bit_row d_l_bit_row
  b_l_bit_row : Binds K d_l_bit_row ["_law_bag_here"] []
  m_l_bit_row : mg "_law_bit_row" = some (.ref f_l_bit_row)
  f_law : Addr
  d_law : FuncData
  F_law : Fun K "law" "law" s_law f_law d_law
  b_law : Binds K d_law ["_law_script"] []
  m_law : mg "law" = some (.ref f_law)
  kb_ratio_near : KBinds K d_ratio_near ["bits", "most"] ["most", "bits"] g02s g02s
  jInt : PySem.W.mroIn K C_Ratio (.type "int") = some false
  jBool : PySem.W.mroIn K C_Ratio (.type "bool") = some false
  jList : PySem.W.mroIn K C_Ratio (.type "list") = some false
  jStr : PySem.W.mroIn K C_Ratio (.type "str") = some false
  jTuple : PySem.W.mroIn K C_Ratio (.type "tuple") = some false
/-! ### steps of a reading -/
local macro_rules | `(tactic| walk_at "hp") => `(tactic| first | assumption | exact upd_same | (refine (upd_ne (by first | assumption | (exact Ne.symm (by assumption)))).trans ?_; walk_at "hp"))
local macro_rules | `(tactic| walk_at "ok") => `(tactic| first | (exact Or.inr ⟨by decide, by decide⟩) | (exact ⟨by decide, by decide⟩) | (exact ⟨by decide, by decide, by decide⟩) | (show _ ≠ _; omega) | (show _ ≠ _; decide) | (exact Or.inl ⟨by omega, by omega⟩) | decide)
local macro_rules | `(tactic| walk_at "sq") => `(tactic| first | assumption | exact SqL.of (by walk_at "hp") | exact SqT.of (by walk_at "hp"))
local macro_rules | `(tactic| walk_at "ty") => `(tactic| first | refine ⟨_, _, Value.type "int", Value.type "list", false, rfl, ClsV.ty _, TyX.base (TyOf.int _), kt_int_list, ?_⟩ | refine ⟨_, _, Value.type "bool", Value.type "list", false, rfl, ClsV.ty _, TyX.base (TyOf.bl _), kt_bool_list, ?_⟩ | refine ⟨_, _, Value.type "str", Value.type "list", false, rfl, ClsV.ty _, TyX.base (TyOf.str _), kt_str_list, ?_⟩ | refine ⟨_, _, Value.type "NoneType", Value.type "list", false, rfl, ClsV.ty _, TyX.base TyOf.non, kt_NoneType_list, ?_⟩ | refine ⟨_, _, Value.type "list", Value.type "list", true, rfl, ClsV.ty _, tyx_L (by walk_at "sq"), kt_list_list, ?_⟩ | refine ⟨_, _, Value.type "tuple", Value.type "list", false, rfl, ClsV.ty _, tyx_T (by walk_at "sq"), kt_tuple_list, ?_⟩ | refine ⟨_, _, Value.type "int", Value.type "tuple", false, rfl, ClsV.ty _, TyX.base (TyOf.int _), kt_int_tuple, ?_⟩ | refine ⟨_, _, Value.type "bool", Value.type "tuple", false, rfl, ClsV.ty _, TyX.base (TyOf.bl _), kt_bool_tuple, ?_⟩ | refine ⟨_, _, Value.type "str", Value.type "tuple", false, rfl, ClsV.ty _, TyX.base (TyOf.str _), kt_str_tuple, ?_⟩ | refine ⟨_, _, Value.type "NoneType", Value.type "tuple", false, rfl, ClsV.ty _, TyX.base TyOf.non, kt_NoneType_tuple, ?_⟩ | refine ⟨_, _, Value.type "list", Value.type "tuple", false, rfl, ClsV.ty _, tyx_L (by walk_at "sq"), kt_list_tuple, ?_⟩ | refine ⟨_, _, Value.type "tuple", Value.type "tuple", true, rfl, ClsV.ty _, tyx_T (by walk_at "sq"), kt_tuple_tuple, ?_⟩ | refine ⟨_, _, Value.type "int", Value.type "bool", false, rfl, ClsV.ty _, TyX.base (TyOf.int _), kt_int_bool, ?_⟩ | refine ⟨_, _, Value.type "bool", Value.type "bool", true, rfl, ClsV.ty _, TyX.base (TyOf.bl _), kt_bool_bool, ?_⟩ | refine ⟨_, _, Value.type "str", Value.type "bool", false, rfl, ClsV.ty _, TyX.base (TyOf.str _), kt_str_bool, ?_⟩ | refine ⟨_, _, Value.type "NoneType", Value.type "bool", false, rfl, ClsV.ty _, TyX.base TyOf.non, kt_NoneType_bool, ?_⟩ | refine ⟨_, _, Value.type "list", Value.type "bool", false, rfl, ClsV.ty _, tyx_L (by walk_at "sq"), kt_list_bool, ?_⟩ | refine ⟨_, _, Value.type "tuple", Value.type "bool", false, rfl, ClsV.ty _, tyx_T (by walk_at "sq"), kt_tuple_bool, ?_⟩ | refine ⟨_, _, Value.type "int", Value.type "int", true, rfl, ClsV.ty _, TyX.base (TyOf.int _), kt_int_int, ?_⟩ | refine ⟨_, _, Value.type "bool", Value.type "int", true, rfl, ClsV.ty _, TyX.base (TyOf.bl _), kt_bool_int, ?_⟩ | refine ⟨_, _, Value.type "str", Value.type "int", false, rfl, ClsV.ty _, TyX.base (TyOf.str _), kt_str_int, ?_⟩ | refine ⟨_, _, Value.type "NoneType", Value.type "int", false, rfl, ClsV.ty _, TyX.base TyOf.non, kt_NoneType_int, ?_⟩ | refine ⟨_, _, Value.type "list", Value.type "int", false, rfl, ClsV.ty _, tyx_L (by walk_at "sq"), kt_list_int, ?_⟩ | refine ⟨_, _, Value.type "tuple", Value.type "int", false, rfl, ClsV.ty _, tyx_T (by walk_at "sq"), kt_tuple_int, ?_⟩ | refine ⟨_, _, Value.type "int", Value.type "str", false, rfl, ClsV.ty _, TyX.base (TyOf.int _), kt_int_str, ?_⟩ | refine ⟨_, _, Value.type "bool", Value.type "str", false, rfl, ClsV.ty _, TyX.base (TyOf.bl _), kt_bool_str, ?_⟩ | refine ⟨_, _, Value.type "str", Value.type "str", true, rfl, ClsV.ty _, TyX.base (TyOf.str _), kt_str_str, ?_⟩ | refine ⟨_, _, Value.type "NoneType", Value.type "str", false, rfl, ClsV.ty _, TyX.base TyOf.non, kt_NoneType_str, ?_⟩ | refine ⟨_, _, Value.type "list", Value.type "str", false, rfl, ClsV.ty _, tyx_L (by walk_at "sq"), kt_list_str, ?_⟩ | refine ⟨_, _, Value.type "tuple", Value.type "str", false, rfl, ClsV.ty _, tyx_T (by walk_at "sq"), kt_tuple_str, ?_⟩)
local macro_rules | `(tactic| walk_at "go1") => `(tactic| first
  | (refine ⟨_, rfl, ?_⟩)
  | (refine ⟨_, _, rfl, rfl, ?_⟩)
  | (refine ⟨_, _, _, _, rfl, rfl, SqL.of (by walk_at "hp"), rfl, ?_⟩)
  | (refine Or.inl ⟨_, rfl, ?_⟩)
  | (refine ⟨rfl, ?_⟩)
  | (refine ⟨_, _, rfl, .inl (SqL.of (by walk_at "hp")), ?_⟩)
  | (refine ⟨_, _, rfl, Or.inl (by assumption), ?_⟩)
  | (refine ⟨_, _, rfl, Or.inr (by assumption), ?_⟩)
  | (refine ⟨(by walk_at "ok"), ?_⟩)
  | (refine ⟨_, _, _, _, rfl, rfl, (by walk_at "hp"), rfl, ?_⟩))
local macro_rules | `(tactic| walk_at "go") => `(tactic| repeat (walk_at "go1"))
local macro_rules | `(tactic| walk_at "gt") => `(tactic| repeat (first | walk_at "go1" | walk_at "ty"))

/-! ### the law's own helpers -/
section
variable {P : Program} {w : World} {K : PySem.W.Frag} {mg : Str → Option Value} {base : Heap}
def spDraw : Sp := fun vs H Q _ => ∃ (B : Bg) (n : Int), vs = [.ref B.b, .int n] ∧ 0 < n ∧ n.natAbs < 2 ^ 200 ∧ Bag B H ∧ ∀ (d : Int) (H' : Hp), 0 ≤ d → d < n → Bag B H' → Kb B.b H H' → Q (.int d) H'
theorem ok_draw (T : Tx K mg) : FnOk P w K mg base CX0 1 T.f_l_draw T.d_l_draw ["_law_bag_here", "_law_many"] spDraw := by
  refine T.F_l_draw.ok sc_l_draw (fun vs H Q E h => ?_) (fun cdv A outer s H vs Q E hr h => ?_)
  · obtain ⟨g, n, rfl, _⟩ := h
    rfl
  obtain ⟨⟨g, L, ns⟩, n, rfl, hn, hn2, ⟨⟨i, r, z, c, hg, hi, hrr, hz, hz2⟩, hL, hne⟩, q⟩ := h
  dsimp only at hg hL hne q
  have nd := sc_l_draw.nd
  refine ⟨_, (pss_cons (ps_asg (pe_op op_add (pe_ix (show IxR _ (rIxL K) from ix_list) (pv 0) pe_int (fun _ _ => rfl)) pe_int) (pg_sub (pv 0) pe_int set_list))
    (pss_cut (ps_if (PW.pt (pw_and (pt_cmpR op_eq (pe_ix (show IxR _ (rIxL K) from ix_list) (pv 0) pe_int (fun _ _ => rfl)) pe_int (nomark _)) (pw_and1 (pt_cmpR op_lt (pe_ix (show IxR _ (rIxL K) from ix_list) (pv 0) pe_int (fun _ _ => rfl)) (pe_callB (show CallR _ _ (rLenSq K) from call_len_seq) (by rfl) T.z_len (by decide +kernel) (pa_cons (pe_ix (show IxR _ (rIxL K) from ix_list) (pv 0) pe_int (fun _ _ => rfl)) pa_nil)) (nomark _))))) (pss_cons (ps_set (i := 2) nd rfl (Or.inl rfl) (pe_ix (show IxR _ (rIxL K) from ix_list) (pe_ix (show IxR _ (rIxL K) from ix_list) (pv 0) pe_int (fun _ _ => rfl)) (pe_ix (show IxR _ (rIxL K) from ix_list) (pv 0) pe_int (fun _ _ => rfl)) (fun _ _ => rfl)))
    (pss_cons (ps_asg (pe_op op_add (pe_ix (show IxR _ (rIxL K) from ix_list) (pv 0) pe_int (fun _ _ => rfl)) pe_int) (pg_sub (pv 0) pe_int set_list))
    (pss_one (ps_if (pt_cmpR op_ge (pv 2) (pe_op op_pow pe_int pe_int) (nomark _)) (pss_one (ps_asg (pv 2) (pg_sub (pv 0) pe_int set_list))) (pss_one (ps_asg (pe_op op_modN (pe_callTy call_int1 (by rfl) T.z_int (by decide +kernel) (pa_cons (pe_op op_add (pe_op op_add (pe_op op_mul (pe_ix (show IxR _ (rIxL K) from ix_list) (pv 0) pe_int (fun _ _ => rfl)) pe_int) (pe_op op_mul (pe_op op_modN (pe_callTy call_int1 (by rfl) T.z_int (by decide +kernel) (pa_cons (pv 2) pa_nil)) pe_int) pe_int)) pe_int) pa_nil)) pe_int) (pg_sub (pv 0) pe_int set_list))))))) pss_nil)
    (pss_cons (ps_if (pt_cmpR op_gt (pe_ix (show IxR _ (rIxL K) from ix_list) (pv 0) pe_int (fun _ _ => rfl)) pe_int (nomark _)) (pss_cons (ps_set (i := 3) nd rfl (Or.inl rfl) (pe_op op_modN (pe_callTy call_int1 (by rfl) T.z_int (by decide +kernel) (pa_cons (pe_ix (show IxR _ (rIxL K) from ix_list) (pv 0) pe_int (fun _ _ => rfl)) pa_nil)) (pv 1)))
    (pss_cons (ps_asg (pe_op op_fdivW (pe_ix (show IxR _ (rIxL K) from ix_list) (pv 0) pe_int (fun _ _ => rfl)) (pv 1)) (pg_sub (pv 0) pe_int set_list))
    (pss_one (ps_ret (pv 3))))) pss_nil)
    (pss_cons (ps_set (i := 4) nd rfl (Or.inl rfl) (pe_ix (show IxR _ (rIxL K) from ix_list) (pv 0) pe_int (fun _ _ => rfl)))
    (pss_cons (ps_asg (pe_op op_modN (pe_callTy call_int1 (by rfl) T.z_int (by decide +kernel) (pa_cons (pe_op op_add (pe_op op_add (pe_op op_add (pe_op op_mul (pe_op op_mul (pv 4) (pv 4)) pe_int) (pe_op op_mul (pv 4) pe_int)) (pe_op op_mul (pe_ix (show IxR _ (rIxL K) from ix_list) (pv 0) pe_int (fun _ _ => rfl)) pe_int)) pe_int) pa_nil)) pe_int) (pg_sub (pv 0) pe_int set_list))
    (pss_one (ps_ret (pe_op op_modN (pe_callTy call_int1 (by rfl) T.z_int (by decide +kernel) (pa_cons (pe_op op_add (pe_op op_fdivN (pe_ix (show IxR _ (rIxL K) from ix_list) (pv 0) pe_int (fun _ _ => rfl)) pe_int) (pe_op op_mul (pe_op op_modN (pe_callTy call_int1 (by rfl) T.z_int (by decide +kernel) (pa_cons (pe_ix (show IxR _ (rIxL K) from ix_list) (pv 0) pe_int (fun _ _ => rfl)) pa_nil)) pe_int) pe_int)) pa_nil)) (pv 1))))))))), ?_⟩
  walk_at "go"
  refine ⟨fun σ' H' => (∃ a b : Option V, σ' = [some (.ref g), some (.int n), a, b, none]) ∧ Bag ⟨g, L, ns⟩ H' ∧ Kb g H H', ?_, ?_⟩
  · walk_at "go"
    refine ite2 (fun c1 => ?_) (fun c1 => ?_)
    · walk_at "go"
      refine ite2 (fun c2 => ?_) (fun c2 => ?_)
      · have c2' : i < (((ns.map V.int).length : Nat) : Int) := of_decide_eq_true c2
        rw [List.length_map] at c2'
        have hk : i.toNat < ns.length := by omega
        walk_at "go"
        refine ⟨L, ns.map V.int, i, V.int ns[i.toNat], rfl, rfl, SqL.of (by rw [upd_ne hne]; exact hL), at_of (j := i.toNat) (by omega) (by rw [List.getElem?_map, List.getElem?_eq_getElem hk]; rfl), ?_⟩
        walk_at "go"
        refine ite2 (fun c3 => ?_) (fun c3 => ?_)
        · have c3' := of_decide_eq_true c3
          have p18 : (0 : Int) ≤ 10 ^ Int.toNat 18 := by decide
          walk_at "go"
          exact ⟨⟨_, _, rfl⟩, ⟨⟨i + 1, _, z, c + 1, upd_same, by omega, by omega, hz, hz2⟩, by rw [upd_ne hne, upd_ne hne, upd_ne hne]; exact hL, hne⟩, (Kb.at.trans Kb.at).trans Kb.at⟩
        · walk_at "go"
          have m1 := fm (i := z * 40014 + ns[i.toNat].fmod 2147483423 * 30011 + 79) (j := 2147483563) (by decide)
          exact ⟨⟨_, _, rfl⟩, ⟨⟨i + 1, r, _, c + 1, upd_same, by omega, hrr, m1.1, by omega⟩, by rw [upd_ne hne, upd_ne hne, upd_ne hne]; exact hL, hne⟩, (Kb.at.trans Kb.at).trans Kb.at⟩
      · exact ⟨⟨_, _, rfl⟩, ⟨⟨i, r, z, c + 1, upd_same, hi, hrr, hz, hz2⟩, by rw [upd_ne hne]; exact hL, hne⟩, Kb.at⟩
    · exact ⟨⟨_, _, rfl⟩, ⟨⟨i, r, z, c + 1, upd_same, hi, hrr, hz, hz2⟩, by rw [upd_ne hne]; exact hL, hne⟩, Kb.at⟩
  · clear hg hL hne hi hrr hz hz2
    rintro σ' H' ⟨⟨a, b, rfl⟩, ⟨⟨i, r, z, c, hg, hi, hrr, hz, hz2⟩, hL, hne⟩, kb⟩
    dsimp only at hg hL hne
    walk_at "go"
    refine ite2 (fun c1 => ?_) (fun c1 => ?_)
    · have m1 := fm (i := r) (j := n) hn
      walk_at "go"
      refine ⟨wide_div hn hn2 (by decide) (by decide), ?_⟩
      walk_at "go"
      exact q _ _ m1.1 m1.2 ⟨⟨i, _, z, c, upd_same, hi, Int.ediv_nonneg hrr (by omega), hz, hz2⟩, by rw [upd_ne hne]; exact hL, hne⟩ (kb.trans Kb.at)
    · walk_at "go"
      have m1 := fm (i := z * z * 13 + z * 42013 + c * 1299709 + 52711) (j := 2147483563) (by decide)
      have m2 := fm (i := ((z * z * 13 + z * 42013 + c * 1299709 + 52711).fmod 2147483563).fdiv 89 + ((z * z * 13 + z * 42013 + c * 1299709 + 52711).fmod 2147483563).fmod 7907 * 67) (j := n) hn
      exact q _ _ m2.1 m2.2 ⟨⟨i, r, _, _, upd_same, hi, hrr, m1.1, by omega⟩, by rw [upd_ne hne]; exact hL, hne⟩ (kb.trans Kb.at)
/-- the law's bag of a script -/
def spBag (K : PySem.W.Frag) : Sp := fun vs H Q _ => ∃ (a : Addr) (ns : List Int), vs = [.ref a] ∧ SqL K H a (ns.map V.int) ∧ ns.length ≤ 63 ∧ ∀ (B : Bg) (H' : Hp), Same H H' → Bag B H' → H B.b = none → Q (.ref B.b) H'
theorem cut63 {xs : List V} (h : xs.length ≤ 63) : cutV xs none (some 63) = xs := by
  unfold cutV
  have e1 : HT.sIx xs.length 0 none = 0 := rfl
  have e2 : HT.sIx xs.length xs.length (some 63) = xs.length := by
    unfold HT.sIx
    simp
    omega
  rw [e1, e2]
  simp
theorem ok_bag (T : Tx K mg) : FnOk P w K mg base CX0 1 T.f_l_bag T.d_l_bag ["_law_script"] (spBag K) := by
  refine T.F_l_bag.ok sc_l_bag (fun vs H Q E h => ?_) (fun cdv A outer s H vs Q E hr h => ?_)
  · obtain ⟨a, ns, rfl, _⟩ := h
    rfl
  obtain ⟨a, ns, rfl, hS, h63, q⟩ := h
  have nd := sc_l_bag.nd
  have hc : cutV (ns.map V.int) none (some 63) = ns.map V.int := cut63 (by rw [List.length_map]; exact h63)
  refine ⟨_, (pss_cons (ps_set (i := 1) nd rfl (Or.inl rfl) pe_int)
    (pss_cons (ps_for PassesOwn.never rfl (show PI _ _ _ (iList K _) from pi_list (pe_slice (show SlR _ (rSlL K) from sl_list) (pv 0) po_none (po_some pe_int))) (pg_name (i := 2) nd rfl (Or.inl rfl)) (pss_one (ps_set (i := 1) nd rfl (Or.inl rfl) (pe_op op_modN (pe_callTy call_int1 (by rfl) T.z_int (by decide +kernel) (pa_cons (pe_op op_add (pe_op op_add (pe_op op_mul (pv 1) pe_int) (pe_op op_modN (pe_callTy call_int1 (by rfl) T.z_int (by decide +kernel) (pa_cons (pv 2) pa_nil)) pe_int)) pe_int) pa_nil)) pe_int))))
    (pss_one (ps_ret (pe_lst (pa_cons (pe_callTy (show CallR _ _ (rListOf K) from call_list_of) (by rfl) T.z_list (by decide +kernel) (pa_cons (pe_slice (show SlR _ (rSlL K) from sl_list) (pv 0) po_none (po_some pe_int)) pa_nil)) (pa_cons pe_int (pa_cons pe_int (pa_cons (pv 1) (pa_cons pe_int pa_nil)))))))))), ?_⟩
  refine ⟨_, rfl, _, rfl, a, _, rfl, hS, fun p hp => ?_⟩
  rw [hc]
  refine ⟨p, rfl, ⟨_, SqL.of upd_same⟩, for_list (K := K) (a := p) (xs := ns.map V.int) (fun i σ' H' => (∃ (z : Int) (v : Option V), σ' = [some (.ref a), some (.int z), v] ∧ 0 ≤ z ∧ z < 2147483648) ∧ H' = upd H p (.lst (ns.map V.int)))
    ⟨⟨12044, none, rfl, by decide, by decide⟩, rfl⟩ (fun i σ' H' _ h => by rw [h.2]; exact SqL.of upd_same) ?_ ?_⟩
  · rintro i y σ' H' hi ⟨⟨z, v, rfl, h1, h2⟩, rfl⟩
    obtain ⟨k, rfl⟩ : ∃ k, y = V.int k := by
      rw [List.getElem?_map] at hi
      cases e : ns[i]? with
      | none => rw [e] at hi; cases hi
      | some k => rw [e] at hi; exact ⟨k, (Option.some.inj hi).symm⟩
    walk_at "go"
    have m1 := fm (i := z * 48271 + k.fmod 2147483629 + 97) (j := 2147483563) (by decide)
    exact ⟨⟨_, _, rfl, m1.1, by omega⟩, rfl⟩
  · rintro σ' H' ⟨⟨z, v, rfl, h1, h2⟩, rfl⟩
    have s1 : Same H (upd H p (.lst (ns.map V.int))) := Same.new hp
    refine ⟨_, rfl, _, rfl, a, _, rfl, s1.seq hS, fun p2 hp2 => ?_⟩
    rw [hc]
    have s2 := s1.trans (Same.new (o := .lst (ns.map V.int)) hp2)
    refine ⟨_, _, rfl, .inl (SqL.of upd_same), fun p3 hp3 => ?_⟩
    have s3 := s2.trans (Same.new (o := .lst (ns.map V.int)) hp3)
    walk_at "go"
    refine ⟨(by show 5 ≤ sizeLine; decide), fun p4 hp4 => ?_⟩
    have n4 : p3 ≠ p4 := ne_of_none upd_same hp4
    exact q ⟨p4, p3, ns⟩ _ (s3.trans (Same.new hp4)) ⟨⟨0, 0, z, 0, upd_same, by decide, by decide, h1, h2⟩, by rw [upd_ne n4]; exact upd_same, n4⟩ (s3.free hp4)
/-- one of some things -/
def spOf (K : PySem.W.Frag) : Sp := fun vs H Q _ => ∃ (B : Bg) (a : Addr) (xs : List V), vs = [.ref B.b, .ref a] ∧ SqL K H a xs ∧ a ≠ B.b ∧ 0 < xs.length ∧ xs.length ≤ 1000 ∧ Bag B H ∧ ∀ (i : Nat) (v : V) (H' : Hp), xs[i]? = some v → Bag B H' → Kb B.b H H' → Q v H'
theorem Kb.seq {g : Addr} {H H' : Hp} {a : Addr} {xs : List V} (e : Kb g H H') (n : a ≠ g) (h : SqL K H a xs) : SqL K H' a xs := by
  rcases h with (h | ⟨o, h⟩) | h
  · exact .inl (.inl (e _ _ h n))
  · exact .inl (.inr ⟨o, e _ _ h n⟩)
  · exact .inr h
theorem ok_of (T : Tx K mg) : FnOk P w K mg base CX0 2 T.f_l_of T.d_l_of ["_law_bag_here", "_law_things"] (spOf K) := by
  have G_l_draw := ok_draw (P := P) (w := w) (base := base) T
  refine T.F_l_of.ok sc_l_of (fun vs H Q E h => ?_) (fun cdv A outer s H vs Q E hr h => ?_)
  · obtain ⟨B, a, xs, rfl, _⟩ := h
    rfl
  obtain ⟨B, a, xs, rfl, hS, hne, h0, h1, hB, q⟩ := h
  have nd := sc_l_of.nd
  refine ⟨_, (pss_one (ps_ret (pe_ix (show IxR _ (rIxL K) from ix_list) (pv 1) (pe_call G_l_draw (hr.mono (by decide)) (by rfl) T.m_l_draw T.F_l_draw.kp T.b_l_draw .nil pass0 (pa_cons (pv 0) (pa_cons (pe_callB (show CallR _ _ (rLenSq K) from call_len_seq) (by rfl) T.z_len (by decide +kernel) (pa_cons (pv 1) pa_nil)) pa_nil))) (fun _ _ => rfl)))), ?_⟩
  refine ⟨_, rfl, _, rfl, _, rfl, _, _, rfl, .inl hS, B, _, rfl, by omega, Nat.lt_of_le_of_lt (by omega : ((xs.length : Int)).natAbs ≤ 1000) (by decide), hB, fun d H' d0 d1 hB' kb => ?_⟩
  have hk : d.toNat < xs.length := by omega
  refine ⟨_, _, _, xs[d.toNat], rfl, rfl, kb.seq hne hS, at_of (j := d.toNat) (by omega) (List.getElem?_eq_getElem hk), ?_⟩
  exact q d.toNat _ H' (List.getElem?_eq_getElem hk) hB' kb
/-! ### equal data -/
inductive DEq (K : PySem.W.Frag) (H : Hp) : Nat → V → V → Prop where
  | non {n : Nat} : DEq K H n .non .non
  | bl {n : Nat} (b : Bool) : DEq K H n (.bl b) (.bl b)
  | int {n : Nat} (i : Int) : DEq K H n (.int i) (.int i)
  | str {n : Nat} (x : Str) : DEq K H n (.str x) (.str x)
  | lst {n : Nat} {a b : Addr} {xs ys : List V} (h1 : SqL K H a xs) (h2 : SqL K H b ys) (hlen : xs.length ≤ 100000) (hl : xs.length = ys.length) (h : ∀ (i : Nat) (x y : V), xs[i]? = some x → ys[i]? = some y → DEq K H n x y) : DEq K H (n + 1) (.ref a) (.ref b)
  | tup {n : Nat} {a b : Addr} {xs ys : List V} (h1 : SqT K H a xs) (h2 : SqT K H b ys) (hlen : xs.length ≤ 100000) (hl : xs.length = ys.length) (h : ∀ (i : Nat) (x y : V), xs[i]? = some x → ys[i]? = some y → DEq K H n x y) : DEq K H (n + 1) (.ref a) (.ref b)
theorem DEq.same {n : Nat} {H H' : Hp} {x y : V} (h : DEq K H n x y) (s : Same H H') : DEq K H' n x y := by
  induction h with
  | non => exact .non
  | bl b => exact .bl b
  | int i => exact .int i
  | str x => exact .str x
  | lst h1 h2 hlen hl _ ih => exact .lst (s.seq h1) (s.seq h2) hlen hl ih
  | tup h1 h2 hlen hl _ ih => exact .tup (seqT s h1) (seqT s h2) hlen hl ih
end

end TL
namespace TL
open PySem PySem.Spec PyProof.Rows L2 PySem.W
/-! ### enumerate over a tuple -/
set_option maxHeartbeats 1000000 in
theorem enumT_new (t : Addr) (its : Array Value) : Meets (Builtin.«enumerate.__new__» ⟨[.type "enumerate", .ref t], []⟩) (fun _ R s => s.heap.IsTuple t its ∧
    R (.ok (.ret (.ref (s.heap.objs.size + 1)))) { s with heap := (s.heap.push { cls := .type "tuple_iterator", data := .fields #[.ref t, .int 0 0] }).push { cls := .type "enumerate", data := .fields #[.none, .bool false, .ref s.heap.objs.size, rawInt 0, .none, .none] } }) :=
  .of_wp fun prog w A R s h => by
    obtain ⟨h0, g, d, tk, os⟩ := s
    obtain ⟨hT, h⟩ := h
    have hz : (h0.push { cls := .type "tuple_iterator", data := .fields #[.ref t, .int 0 0] }).objs.size = h0.objs.size + 1 := Heap.size_push ..
    rw [← hz] at h
    have se := sub_enumerate
    have go : ∀ {A2 : Around} {E2 Q2 : Value → Shared → Prop}, Q2 (.ref h0.objs.size) ⟨h0.push { cls := .type "tuple_iterator", data := .fields #[.ref t, .int 0 0] }, g, d, tk, os⟩ → wpAny (model prog w) A2 (pyIter (.ref t)) Q2 E2 ⟨h0, g, d, tk, os⟩ :=
      fun k => wpAny_pyIter_tuple hT k
    wp_walk using go
    refine wpAny_stack_any fun _ => wpAny_pure ?_
    split
    · rename_i c _ _ _ _ _
      rcases hb : (c == Value.type "enumerate") <;> wp_walk using go <;> exact ⟨_, rfl, h⟩
    · wp_walk using go
      exact ⟨_, rfl, h⟩
theorem enumT_call {prog : Program} {w : World} {A : Around} {E Q : Value → Shared → Prop} {s : Shared} {t : Addr} {its : Array Value} (hT : s.heap.IsTuple t its)
    (k : ∀ h', IsEnum h' (s.heap.objs.size + 1) s.heap.objs.size 0 .none → h'.IsTupleIter s.heap.objs.size t 0 → (∀ b o, s.heap.get? b = some o → h'.get? b = some o) → Q (.ref (s.heap.objs.size + 1)) { s with heap := h' }) :
    wpAny (model prog w) A (call (.type "enumerate") [.ref t]) Q E s := by
  have hz : (s.heap.push { cls := .type "tuple_iterator", data := .fields #[.ref t, .int 0 0] }).objs.size = s.heap.objs.size + 1 := Heap.size_push ..
  have he := Heap.get?_push_size (s.heap.push { cls := .type "tuple_iterator", data := .fields #[.ref t, .int 0 0] }) (o := { cls := .type "enumerate", data := .fields #[.none, .bool false, .ref s.heap.objs.size, rawInt 0, .none, .none] }) rfl
  rw [hz] at he
  refine callType_new F.called_enumerate (by decide) (F.typeCall_enumerate_1 _) (F.newCall_enumerate_1 _) (fun o => F.args_object_init_2 o _) F.entry_enumerate_new (enumT_new t its) ⟨hT, ?_⟩
  exact ⟨⟨_, he, rfl⟩, k _ he ⟨_, Heap.get?_push_of_some _ (Heap.get?_push_size _ rfl), rfl, rfl⟩ fun b o z => Heap.get?_push_of_some _ (Heap.get?_push_of_some _ z)⟩
def IteT (K : PySem.W.Frag) (a : Addr) : It :=
  ⟨fun i H => ∃ xs x, SqT K H a xs ∧ xs[i]? = some x, fun i H v H' => ∃ T x, v = .ref T ∧ H T = none ∧ H' = upd H T (.tup [.int (i : Nat), x]) ∧ ∀ xs, SqT K H a xs → xs[i]? = some x, fun i H => ∃ xs, SqT K H a xs ∧ xs.length ≤ i⟩
theorem cls_ne {h : Heap} {a b : Addr} {S T : String} (p : ∃ o, h.get? a = some o ∧ o.cls = .type S) (q : ∃ o, h.get? b = some o ∧ o.cls = .type T) (n : S ≠ T) : a ≠ b := by
  rintro rfl
  obtain ⟨o, e1, e2⟩ := p
  obtain ⟨o', e3, e4⟩ := q
  rw [e1] at e3
  cases e3
  rw [e2] at e4
  cases e4
  exact n rfl
theorem turn_enumT {P : Program} {w : World} {K : PySem.W.Frag} {elts : List Expr} {kk : Nat} {tp : Pos} (a e it : Addr) :
    Turn P w K (.Tuple elts kk tp) (IteT K a) [e, it] e (fun i h => (∃ z, IsEnum h e it ((i : Nat) : Int) z) ∧ h.IsTupleIter it a i ∧ e ≠ it) where
  mem := List.mem_cons_self ..
  obj := fun i h st b hb => by
    obtain ⟨⟨z, he⟩, ⟨o, ho, _, hd⟩, _⟩ := st
    simp only [List.mem_cons, List.not_mem_nil, or_false] at hb
    rcases hb with rfl | rfl
    · exact ⟨_, he, fun v q => nomatch q⟩
    · refine ⟨o, ho, fun v q => ?_⟩
      rw [hd] at q
      cases q
  keep := fun i h h' st k => let ⟨⟨z, he⟩, hi, n⟩ := st; ⟨⟨z, k e (by simp) _ he⟩, hi.at fun o q => k it (by simp) o q, n⟩
  item := by
    intro X hP hw hK hc i pins s σ H E I hf st hg
    subst hP hw hK
    obtain ⟨⟨z, he⟩, hi, n⟩ := st
    obtain ⟨xs, x, hq, hx⟩ := hg
    obtain ⟨its, rv, p, hz⟩ := I.tuple hq
    obtain ⟨u, hu, ru⟩ := rv.get hx
    have hT : s.heap.IsTuple a its.toArray := p
    have cT : ∃ o, s.heap.get? a = some o ∧ o.cls = .type "tuple" := let ⟨o, e1, e2, _⟩ := hT; ⟨o, e1, e2⟩
    have cI : ∃ o, s.heap.get? it = some o ∧ o.cls = .type "tuple_iterator" := let ⟨o, e1, e2, _⟩ := hi; ⟨o, e1, e2⟩
    have ai : a ≠ it := cls_ne cT cI (by decide)
    have ea : e ≠ a := Ne.symm (cls_ne cT ⟨_, he, rfl⟩ (by decide))
    have le : e < s.heap.objs.size := Heap.lt_size he
    have li : it < s.heap.objs.size := let ⟨_, q, _⟩ := cI; Heap.lt_size q
    have hd1 : X.A.in1.handled = none := I.ok.hd hc
    refine wpAny_pyNext_enum_itemD (Draws.tuple hd1 it a ai its.toArray) he ⟨hi, hT⟩ (by
      have := (List.getElem?_eq_some_iff.mp hu).1
      simpa using this) n (by simp [n, ea]) fun y h' tk hy ho hst hT2 hsz hk => ?_
    obtain rfl : u = y := by
      have hy' : its[i]? = some y := by simpa using hy
      rw [hu] at hy'
      exact Option.some.inj hy'
    refine ⟨_, rfl, wpAny_letOwnedTupleGo_enum (s := { s with heap := h', toks := tk + 1 }) ho fun h2 he2 sb => ?_⟩
    have hT3 : h2.get? s.heap.objs.size = some { cls := .type "tuple", data := .seq #[.int i tk, u] } := (sb.2 _ (Nat.ne_of_gt le)).trans hT2
    have new : ObjOk X.prog X.w (upd H s.heap.objs.size (.tup [.int (i : Nat), x])) h2 s.heap.objs.size (.tup [.int (i : Nat), x]) :=
      ⟨(show 2 ≤ sizeLine by decide), [.int i tk, u], .cons ⟨_, rfl⟩ (.cons ru .nil), ⟨_, hT3, rfl, _, rfl⟩⟩
    have I1 : Inv X pins σ (upd H s.heap.objs.size (.tup [.int (i : Nat), x])) { s with heap := h2, toks := tk + 1 } :=
      I.turnedNew (ch := [e, it]) (fun b ob hb q => (sb.2 b fun c => hb (by simp [c])).trans (hk b ob (fun c => hb (by simp [c])) (fun c => hb (by simp [c])) q)) hf (Nat.le_refl _) new
    refine ⟨.ref s.heap.objs.size, _, I1, rfl, ⟨_, x, rfl, I.hok.fresh (Nat.le_refl _), rfl, fun ys hy => ?_⟩, ⟨⟨u, ?_⟩, hst.1.at fun o q => (sb.2 it (Ne.symm n)).trans q, n⟩, fun b hb => ?_⟩
    · rw [I.tuple_inj hy hq]
      exact hx
    · rw [show ((i + 1 : Nat) : Int) = (i : Int) + 1 by omega]
      exact he2
    · have lb : b < s.heap.objs.size := by
        simp only [List.mem_cons, List.not_mem_nil, or_false] at hb
        rcases hb with rfl | rfl <;> assumption
      rw [upd_ne (Nat.ne_of_lt lb)]
      exact (hf b hb).1
  done := by
    intro X hP hw hK hc i pins s σ H E I hf st hg
    subst hP hw hK
    obtain ⟨⟨z, he⟩, hi, n⟩ := st
    obtain ⟨xs, hq, hx⟩ := hg
    obtain ⟨its, rv, p, hz⟩ := I.tuple hq
    have hT : s.heap.IsTuple a its.toArray := p
    have cT : ∃ o, s.heap.get? a = some o ∧ o.cls = .type "tuple" := let ⟨o, e1, e2, _⟩ := hT; ⟨o, e1, e2⟩
    have cI : ∃ o, s.heap.get? it = some o ∧ o.cls = .type "tuple_iterator" := let ⟨o, e1, e2, _⟩ := hi; ⟨o, e1, e2⟩
    have ai : a ≠ it := cls_ne cT cI (by decide)
    obtain ⟨f0, f1, f2, f3, f4, f5⟩ := hf it (by simp)
    have hl := rv.length
    have hd1 : X.A.in1.handled = none := I.ok.hd hc
    have D0 : Draws X.prog X.w X.A.in1 it [it, a] i (fun _ _ => True) (fun j h => j = i ∧ h.IsTupleIter it a i ∧ h.IsTuple a its.toArray) := {
      live := fun _ _ st => let ⟨o, ho, _⟩ := st.2.1; ⟨o, ho⟩
      frame := fun _ _ _ st k => ⟨st.1, st.2.1.at fun o e => k it (by simp) o e, st.2.2.at fun o e => k a (by simp) o e⟩
      item := fun j s1 Q1 E1 hj st _ => absurd st.1 (Nat.ne_of_lt hj)
      done := fun s1 Q1 E1 st hE => wpAny_nextOf_tuple_end hd1 st.2.1 st.2.2 (by simp; omega) hE }
    exact wpAny_pyNext_enum_endD D0 he ⟨rfl, hi, hT⟩ fun h' eb => ⟨rfl, I.turned (t' := s.toks) (fun b o hb e => eb b o hb e) f0 f1 f3 f4 f5⟩
  self := fun A i s Q E st h => let ⟨⟨_, he⟩, _⟩ := st; wpAny_pyIter_enum he h
def iEnumT (K : PySem.W.Frag) (ta : TA) : TI := fun σ H R => ta σ H fun vs H1 => ∃ a, vs = [.ref a] ∧ (∃ xs, SqT K H1 a xs) ∧ R (IteT K a) H1
theorem pi_enumT {X : Cx} {e : Expr} {ta : TA} {p pos tp : Pos} {elts : List Expr} {kk : Nat} (hg : Gl X "enumerate") (hm : X.mg "enumerate" = none) (ha : PA X [e] ta) (hs : starEach [e] X.env = [(false, eval e X.env)] := by rfl) :
    PI X (.Tuple elts kk tp) (.Call (.Name "enumerate" p) [e] [] pos) (iEnumT X.K ta) := by
  refine ⟨fun pins s σ H R I h => Call_ (ld_blt I hg hm boot_enumerate (PyProof.Rows.callWith_type1 (thn (ha.run pos pins s σ H _ I h) fun us s1 ⟨vs, H1, I1, r1, q1⟩ => ?_) hs rfl))⟩
  obtain ⟨a, ex, ⟨xs, hq⟩, q⟩ := q1
  subst ex
  cases r1 with
  | cons r rr =>
    cases rr
    cases r
    obtain ⟨its, rv, pT, hz⟩ := I1.tuple hq
    refine enumT_call (show s1.heap.IsTuple a its.toArray from pT) fun h' he hi hk => wpAny_pyIter_enum he ?_
    refine ⟨s1.heap.objs.size + 1, [s1.heap.objs.size + 1, s1.heap.objs.size], _, _, H1, rfl, I1.kept (t' := s1.toks) hk, turn_enumT a (s1.heap.objs.size + 1) s1.heap.objs.size, ⟨⟨.none, he⟩, hi, Nat.succ_ne_self _⟩, fun b hb => ?_, q⟩
    have lb : s1.heap.objs.size ≤ b := by
      simp only [List.mem_cons, List.not_mem_nil, or_false] at hb
      rcases hb with z | z
      · exact z ▸ Nat.le_succ _
      · exact z ▸ Nat.le_refl _
    exact I1.fpOk lb (I1.hok.fresh lb)
theorem walk_enumT {K : PySem.W.Frag} {a : Addr} {xs : List V} : Walk (IteT K a) xs.length (fun H => SqT K H a xs) (YPair (fun i => some (.int (i : Nat))) (fun i => xs[i]?)) := by
  refine ⟨fun i _ hi q => ⟨xs, xs[i], q, by simp [hi]⟩, fun _ q => ⟨xs, q, Nat.le_refl _⟩, fun i H v H' _ q y => ?_⟩
  obtain ⟨T, x, e1, e2, e3, e4⟩ := y
  exact ⟨T, .int (i : Nat), x, e1, e2, e3, rfl, e4 xs q⟩
end TL
namespace TL
open PySem L2

/-! ### steps of a reading -/
local macro_rules | `(tactic| walk_at "hp") => `(tactic| first | assumption | exact upd_same | (refine (upd_ne (by first | assumption | (exact Ne.symm (by assumption)))).trans ?_; walk_at "hp"))
local macro_rules | `(tactic| walk_at "ok") => `(tactic| first | (exact Or.inr ⟨by decide, by decide⟩) | (exact ⟨by decide, by decide⟩) | (exact ⟨by decide, by decide, by decide⟩) | (show _ ≠ _; omega) | (show _ ≠ _; decide) | (exact Or.inl ⟨by omega, by omega⟩) | decide)
local macro_rules | `(tactic| walk_at "sq") => `(tactic| first | assumption | exact SqL.of (by walk_at "hp") | exact SqT.of (by walk_at "hp"))
local macro_rules | `(tactic| walk_at "ty") => `(tactic| first | refine ⟨_, _, Value.type "int", Value.type "list", false, rfl, ClsV.ty _, TyX.base (TyOf.int _), kt_int_list, ?_⟩ | refine ⟨_, _, Value.type "bool", Value.type "list", false, rfl, ClsV.ty _, TyX.base (TyOf.bl _), kt_bool_list, ?_⟩ | refine ⟨_, _, Value.type "str", Value.type "list", false, rfl, ClsV.ty _, TyX.base (TyOf.str _), kt_str_list, ?_⟩ | refine ⟨_, _, Value.type "NoneType", Value.type "list", false, rfl, ClsV.ty _, TyX.base TyOf.non, kt_NoneType_list, ?_⟩ | refine ⟨_, _, Value.type "list", Value.type "list", true, rfl, ClsV.ty _, tyx_L (by walk_at "sq"), kt_list_list, ?_⟩ | refine ⟨_, _, Value.type "tuple", Value.type "list", false, rfl, ClsV.ty _, tyx_T (by walk_at "sq"), kt_tuple_list, ?_⟩ | refine ⟨_, _, Value.type "int", Value.type "tuple", false, rfl, ClsV.ty _, TyX.base (TyOf.int _), kt_int_tuple, ?_⟩ | refine ⟨_, _, Value.type "bool", Value.type "tuple", false, rfl, ClsV.ty _, TyX.base (TyOf.bl _), kt_bool_tuple, ?_⟩ | refine ⟨_, _, Value.type "str", Value.type "tuple", false, rfl, ClsV.ty _, TyX.base (TyOf.str _), kt_str_tuple, ?_⟩ | refine ⟨_, _, Value.type "NoneType", Value.type "tuple", false, rfl, ClsV.ty _, TyX.base TyOf.non, kt_NoneType_tuple, ?_⟩ | refine ⟨_, _, Value.type "list", Value.type "tuple", false, rfl, ClsV.ty _, tyx_L (by walk_at "sq"), kt_list_tuple, ?_⟩ | refine ⟨_, _, Value.type "tuple", Value.type "tuple", true, rfl, ClsV.ty _, tyx_T (by walk_at "sq"), kt_tuple_tuple, ?_⟩ | refine ⟨_, _, Value.type "int", Value.type "bool", false, rfl, ClsV.ty _, TyX.base (TyOf.int _), kt_int_bool, ?_⟩ | refine ⟨_, _, Value.type "bool", Value.type "bool", true, rfl, ClsV.ty _, TyX.base (TyOf.bl _), kt_bool_bool, ?_⟩ | refine ⟨_, _, Value.type "str", Value.type "bool", false, rfl, ClsV.ty _, TyX.base (TyOf.str _), kt_str_bool, ?_⟩ | refine ⟨_, _, Value.type "NoneType", Value.type "bool", false, rfl, ClsV.ty _, TyX.base TyOf.non, kt_NoneType_bool, ?_⟩ | refine ⟨_, _, Value.type "list", Value.type "bool", false, rfl, ClsV.ty _, tyx_L (by walk_at "sq"), kt_list_bool, ?_⟩ | refine ⟨_, _, Value.type "tuple", Value.type "bool", false, rfl, ClsV.ty _, tyx_T (by walk_at "sq"), kt_tuple_bool, ?_⟩ | refine ⟨_, _, Value.type "int", Value.type "int", true, rfl, ClsV.ty _, TyX.base (TyOf.int _), kt_int_int, ?_⟩ | refine ⟨_, _, Value.type "bool", Value.type "int", true, rfl, ClsV.ty _, TyX.base (TyOf.bl _), kt_bool_int, ?_⟩ | refine ⟨_, _, Value.type "str", Value.type "int", false, rfl, ClsV.ty _, TyX.base (TyOf.str _), kt_str_int, ?_⟩ | refine ⟨_, _, Value.type "NoneType", Value.type "int", false, rfl, ClsV.ty _, TyX.base TyOf.non, kt_NoneType_int, ?_⟩ | refine ⟨_, _, Value.type "list", Value.type "int", false, rfl, ClsV.ty _, tyx_L (by walk_at "sq"), kt_list_int, ?_⟩ | refine ⟨_, _, Value.type "tuple", Value.type "int", false, rfl, ClsV.ty _, tyx_T (by walk_at "sq"), kt_tuple_int, ?_⟩ | refine ⟨_, _, Value.type "int", Value.type "str", false, rfl, ClsV.ty _, TyX.base (TyOf.int _), kt_int_str, ?_⟩ | refine ⟨_, _, Value.type "bool", Value.type "str", false, rfl, ClsV.ty _, TyX.base (TyOf.bl _), kt_bool_str, ?_⟩ | refine ⟨_, _, Value.type "str", Value.type "str", true, rfl, ClsV.ty _, TyX.base (TyOf.str _), kt_str_str, ?_⟩ | refine ⟨_, _, Value.type "NoneType", Value.type "str", false, rfl, ClsV.ty _, TyX.base TyOf.non, kt_NoneType_str, ?_⟩ | refine ⟨_, _, Value.type "list", Value.type "str", false, rfl, ClsV.ty _, tyx_L (by walk_at "sq"), kt_list_str, ?_⟩ | refine ⟨_, _, Value.type "tuple", Value.type "str", false, rfl, ClsV.ty _, tyx_T (by walk_at "sq"), kt_tuple_str, ?_⟩)
local macro_rules | `(tactic| walk_at "go1") => `(tactic| first
  | (refine ⟨_, rfl, ?_⟩)
  | (refine ⟨_, _, rfl, rfl, ?_⟩)
  | (refine ⟨_, _, _, _, rfl, rfl, SqL.of (by walk_at "hp"), rfl, ?_⟩)
  | (refine Or.inl ⟨_, rfl, ?_⟩)
  | (refine ⟨rfl, ?_⟩)
  | (refine ⟨_, _, rfl, .inl (SqL.of (by walk_at "hp")), ?_⟩)
  | (refine ⟨_, _, rfl, Or.inl (by assumption), ?_⟩)
  | (refine ⟨_, _, rfl, Or.inr (by assumption), ?_⟩)
  | (refine ⟨(by walk_at "ok"), ?_⟩)
  | (refine ⟨_, _, _, _, rfl, rfl, (by walk_at "hp"), rfl, ?_⟩))
local macro_rules | `(tactic| walk_at "go") => `(tactic| repeat (walk_at "go1"))
local macro_rules | `(tactic| walk_at "gt") => `(tactic| repeat (first | walk_at "go1" | walk_at "ty"))

section
variable {P : Program} {w : World} {K : PySem.W.Frag} {mg : Str → Option Value} {base : Heap}
-- [0=number, 1=divisor, 2=many, 3=rest, 4=remainder]
-- [0=number, 1=powers, 2=at, 3=prime, 4=many, 5=few]
theorem noPy {n : Int} {d : Nat} (h : d < 2 ^ 300) : Builtin.divisionGoesByPylong n (d : Int) = false :=
  PyProof.noPylong_of_log2 (Nat.lt_of_lt_of_le (PySem.Flt.log2_lt_of (by decide) (show ((d : Int)).natAbs < 2 ^ 300 from h)) (by decide))
theorem spl0 {d r : Nat} (h : ¬ d ∣ r) : ((d ^ 0 * r : Nat) : Int) % (d : Int) ≠ 0 := by
  rw [Nat.pow_zero, Nat.one_mul, ← Int.natCast_emod]
  intro e
  exact h (Nat.dvd_of_mod_eq_zero (by omega))
theorem spl1 {d m r : Nat} (h : 0 < d) : ((d ^ (m + 1) * r : Nat) : Int) % (d : Int) = 0 := by
  rw [← Int.natCast_emod, Nat.pow_succ, Nat.mul_comm (d ^ m) d, Nat.mul_assoc, Nat.mul_mod_right]
  rfl
theorem spl2 {d m r : Nat} (h : 0 < d) : ((d ^ (m + 1) * r : Nat) : Int) / (d : Int) = ((d ^ m * r : Nat) : Int) := by
  rw [← Int.natCast_ediv, Nat.pow_succ, Nat.mul_comm (d ^ m) d, Nat.mul_assoc, Nat.mul_div_cancel_left _ h]
def spSplit : Sp := fun vs H Q _ => ∃ (d k r : Nat), vs = [.int ((d ^ k * r : Nat) : Int), .int (d : Int)] ∧ 1 < d ∧ 0 < r ∧ ¬ d ∣ r ∧ d < 2 ^ 300 ∧ ∀ t H', Same H H' → H' t = some (.tup [.int (k : Int), .int (r : Int)]) → Q (.ref t) H'
theorem ok_split (T : Tx K mg) : FnOk P w K mg base CX0 1 T.f__split T.d__split ["number", "divisor"] spSplit := by
  refine T.F__split.ok sc__split (fun vs H Q E h => ?_) (fun cdv A outer s H vs Q E hr h => ?_)
  · obtain ⟨d, k, r, rfl, _⟩ := h
    rfl
  obtain ⟨d, k, r, rfl, h1, hr0, hd, hb, q⟩ := h
  have nd := sc__split.nd
  refine ⟨_, (pss_cons (ps_set (i := 2) nd rfl (Or.inl rfl) pe_int)
    (pss_cons (ps_asg (pe_callB call_divmodW (by rfl) T.z_divmod (by decide +kernel) (pa_cons (pv 0) (pa_cons (pv 1) pa_nil))) (pg_tup rfl (pgs_cons (pg_name (i := 3) nd rfl (Or.inl rfl)) (pgs_cons (pg_name (i := 4) nd rfl (Or.inl rfl)) pgs_nil))))
    (pss_cons (ps_while PassesOwn.never (pt_cmpR op_eq (pv 4) pe_int (nomark _)) (pss_cons (ps_set (i := 0) nd rfl (Or.inl rfl) (pv 3))
    (pss_cons (ps_aug (i := 2) nd rfl (Or.inl rfl) pe_int ip_add)
    (pss_one (ps_asg (pe_callB call_divmodW (by rfl) T.z_divmod (by decide +kernel) (pa_cons (pv 0) (pa_cons (pv 1) pa_nil))) (pg_tup rfl (pgs_cons (pg_name (i := 3) nd rfl (Or.inl rfl)) (pgs_cons (pg_name (i := 4) nd rfl (Or.inl rfl)) pgs_nil))))))))
    (pss_one (ps_ret (pe_tup (pa_cons (pv 2) (pa_cons (pv 0) pa_nil)))))))), ?_⟩
  have hD : ∀ n : Int, CDivP n (d : Int) := fun n => ⟨by omega, noPy hb⟩
  refine ⟨_, rfl, _, rfl, _, _, rfl, hD _, fun p hp => ?_⟩
  have s1 := Same.new (o := .tup [.int (((d ^ k * r : Nat) : Int) / (d : Int)), .int (((d ^ k * r : Nat) : Int) % (d : Int))]) hp
  refine ⟨p, _, rfl, SqT.of upd_same, rfl, ?_⟩
  refine ⟨_, _, rfl, _, _, rfl, rfl, ?_⟩
  refine ⟨fun m σ H' => ∃ i : Nat, i + m = k ∧ Same H H' ∧ σ = [some (.int ((d ^ m * r : Nat) : Int)), some (.int (d : Int)), some (.int (i : Int)), some (.int (((d ^ m * r : Nat) : Int) / (d : Int))), some (.int (((d ^ m * r : Nat) : Int) % (d : Int)))], ⟨k, 0, by omega, s1, rfl⟩, ?_⟩
  rintro m σ H2 ⟨i, hi, s2, rfl⟩
  cases m with
  | zero =>
    obtain rfl : i = k := by omega
    refine ⟨_, rfl, rfl, false, congrArg V.bl (by rw [dec_int]; exact beq_false_of_ne (spl0 hd)), ?_⟩
    refine ⟨_, rfl, _, rfl, (by show 2 ≤ sizeLine; decide), fun t ht => q t _ (s2.trans (Same.new ht)) ?_⟩
    rw [Nat.pow_zero, Nat.one_mul]
    exact upd_same
  | succ m =>
    refine ⟨_, rfl, rfl, true, congrArg V.bl (by rw [dec_int, spl1 (by omega)]; rfl), ?_⟩
    refine ⟨fun σ' H' => ∃ i : Nat, i + m = k ∧ Same H H' ∧ σ' = [some (.int ((d ^ m * r : Nat) : Int)), some (.int (d : Int)), some (.int (i : Int)), some (.int (((d ^ m * r : Nat) : Int) / (d : Int))), some (.int (((d ^ m * r : Nat) : Int) % (d : Int)))], fun σ' H' h => ⟨m, Nat.lt_succ_self _, h⟩, ?_⟩
    rw [spl2 (by omega)]
    refine ⟨_, rfl, ?_⟩
    refine ⟨_, rfl, _, _, rfl, rfl, ?_⟩
    refine ⟨_, rfl, _, rfl, _, _, rfl, hD _, fun p2 hp2 => ?_⟩
    have s3 := Same.new (o := .tup [.int (((d ^ m * r : Nat) : Int) / (d : Int)), .int (((d ^ m * r : Nat) : Int) % (d : Int))]) hp2
    refine ⟨p2, _, rfl, SqT.of upd_same, rfl, ?_⟩
    exact ⟨_, _, rfl, _, _, rfl, rfl, i + 1, by omega, s2.trans s3, rfl⟩
abbrev nL (as : List Nat) : List V := as.map fun n : Nat => V.int (n : Int)
theorem nL_set (as : List Nat) (i a : Nat) : (nL as).set i (V.int (a : Int)) = nL (as.set i a) := (List.map_set ..).symm
theorem ixN_at {n i : Nat} (h : i < n) : ixN n (i : Int) = some i := by
  unfold ixN
  rw [if_pos (Int.natCast_nonneg i), if_pos (by omega), Int.toNat_natCast]
theorem cm {a b : Int} (h : a.natAbs ≤ 1000) : CMul a b := .inl ⟨by omega, by omega⟩
theorem _root_.L2.Same.upd_new {H H' : Hp} {p : Addr} {o : HO} (s : Same H H') (h : H p = none) : Same H (L2.upd H' p o) := fun c x e => by
  rw [upd_ne (ne_of_none e h)]
  exact s c x e
def spPowers : Sp := fun vs H Q _ => ∃ (as : List Nat), vs = [.int ((pp prs as : Nat) : Int)] ∧ as.length = 6 ∧ ∀ t H', Same H H' → H' t = some (.lst (as.map fun n : Nat => V.int (n : Int))) → Q (.ref t) H'
theorem ok_powers_in (T : Tx K mg) : FnOk P w K mg base CX0 2 T.f__powers_in T.d__powers_in ["number"] spPowers := by
  have G__split := ok_split (P := P) (w := w) (base := base) T
  refine T.F__powers_in.ok sc__powers_in (fun vs H Q E h => ?_) (fun cdv A outer s H vs Q E hr h => ?_)
  · obtain ⟨as, rfl, _⟩ := h
    rfl
  obtain ⟨as, rfl, hl, q⟩ := h
  have nd := sc__powers_in.nd
  refine ⟨_, (pss_cons (ps_set (i := 1) nd rfl (Or.inl rfl) (pe_op op_rep (pe_lst (pa_cons pe_int pa_nil)) (pe_callB (show CallR _ _ (rLenSq K) from call_len_seq) (by rfl) T.z_len (by decide +kernel) (pa_cons (pe_glob (v := .ref T.e_PRIMES) (by rfl) T.m_PRIMES rfl) pa_nil))))
    (pss_cons (ps_for PassesOwn.never rfl (show PI _ _ _ (iEnumT K _) from pi_enumT (by rfl) T.z_enumerate (pa_cons (pe_glob (v := .ref T.e_PRIMES) (by rfl) T.m_PRIMES rfl) pa_nil)) (pg_tup rfl (pgs_cons (pg_name (i := 2) nd rfl (Or.inl rfl)) (pgs_cons (pg_name (i := 3) nd rfl (Or.inl rfl)) pgs_nil))) (pss_cons (ps_if (pt_cmpR op_eq (pv 0) pe_int (nomark _)) (pss_one (ps_ret (pv 1))) pss_nil)
    (pss_cons (ps_asg (pe_call G__split hr (by rfl) T.m__split T.F__split.kp T.b__split .nil pass0 (pa_cons (pv 0) (pa_cons (pe_op op_pow (pv 3) pe_int) pa_nil))) (pg_tup rfl (pgs_cons (pg_name (i := 4) nd rfl (Or.inl rfl)) (pgs_cons (pg_name (i := 0) nd rfl (Or.inl rfl)) pgs_nil))))
    (pss_cons (ps_asg (pe_call G__split hr (by rfl) T.m__split T.F__split.kp T.b__split .nil pass0 (pa_cons (pv 0) (pa_cons (pv 3) pa_nil))) (pg_tup rfl (pgs_cons (pg_name (i := 5) nd rfl (Or.inl rfl)) (pgs_cons (pg_name (i := 0) nd rfl (Or.inl rfl)) pgs_nil))))
    (pss_one (ps_asg (pe_op op_add (pe_op op_mul pe_int (pv 4)) (pv 5)) (pg_sub (pv 1) (pv 2) set_list)))))))
    (pss_cons (ps_if (pt_cmpR op_ne (pv 0) pe_int (nomark _)) (pss_one ps_never) pss_nil)
    (pss_one (ps_ret (pv 1)))))), ?_⟩
  refine ⟨(by show 1 ≤ sizeLine; decide), fun p1 hp1 => ⟨T.e_PRIMES, _, rfl, .inr (T.q_PRIMES _), p1, _, _, rfl, rfl, upd_same, by decide, by decide, by decide, fun p hp => ?_⟩⟩
  have s0 := (Same.new (o := .lst [V.int 0]) hp1).trans (Same.new (o := .lst (nL (fill as 0))) hp)
  have hf : H p = none := (Same.new (o := .lst [V.int 0]) hp1).free hp
  refine ⟨T.e_PRIMES, rfl, ⟨_, T.q_PRIMES _⟩, for_it (walk_enumT (K := K) (a := T.e_PRIMES) (xs := nL prs)) (fun i σ H' => Same H H' ∧ H' p = some (.lst (nL (fill as i))) ∧ ∃ a2 a3 a4 a5, σ = [some (.int ((pp (prs.drop i) (as.drop i) : Nat) : Int)), some (.ref p), a2, a3, a4, a5]) ⟨s0, upd_same, _, _, _, _, rfl⟩ (fun _ _ _ _ _ => T.q_PRIMES _) ?_ ?_⟩
  · rintro i v σ H1 H2 hi ⟨s1, hp1, a2, a3, a4, a5, rfl⟩ ⟨t, x, y, rfl, ht, rfl, hx, hy⟩
    replace hi : i < 6 := hi
    obtain ⟨pr, a, e1, e2, g1, g2, g3, g4, g5⟩ := pp_drop hi hl
    obtain rfl : x = .int (i : Nat) := (Option.some.inj hx).symm
    obtain rfl : y = .int (pr : Nat) := by
      have hy' : (nL prs)[i]? = some y := hy
      rw [List.getElem?_map, e1] at hy'
      exact (Option.some.inj hy').symm
    have st := Same.new (o := .tup [.int (i : Nat), .int (pr : Nat)]) ht
    refine ⟨t, _, rfl, SqT.of upd_same, rfl, _, _, rfl, _, _, rfl, rfl, ?_⟩
    refine ⟨_, rfl, rfl, _, rfl, ?_⟩
    refine ite2 (fun c => ?_) (fun c => ?_)
    · have c' := of_decide_eq_true c
      rw [V.int.injEq] at c'
      refine ⟨_, rfl, q p _ (s1.trans st) ?_⟩
      rw [st _ _ hp1, fill_one hi hl (by omega)]
    have hk := split_at (a := a) g1 g4 g5
    have b64 : pr ^ 64 < 2 ^ 300 := Nat.lt_of_le_of_lt (Nat.pow_le_pow_left g2 64) (by decide)
    refine ⟨_, rfl, _, rfl, _, _, rfl, rfl, ⟨by decide, by decide, by show pr < _; omega⟩, ?_⟩
    refine ⟨pr ^ 64, a / 64, pr ^ (a % 64) * pp (prs.drop (i + 1)) (as.drop (i + 1)), ?_, Nat.one_lt_pow (by decide) g1, Nat.mul_pos (Nat.pow_pos (by omega)) g5, hk.1, b64, fun t2 H3 s3 ht2 => ?_⟩
    · rw [g3, split_eq]
      simp
    refine ⟨t2, _, rfl, SqT.of ht2, rfl, _, _, rfl, _, _, rfl, rfl, ?_⟩
    refine ⟨_, rfl, _, rfl, ?_⟩
    refine ⟨pr, a % 64, pp (prs.drop (i + 1)) (as.drop (i + 1)), rfl, g1, g5, hk.2, by omega, fun t3 H4 s4 ht3 => ?_⟩
    refine ⟨t3, _, rfl, SqT.of ht3, rfl, _, _, rfl, _, _, rfl, rfl, ?_⟩
    have hpt := s4 _ _ (s3 _ _ (st _ _ hp1))
    refine ⟨_, rfl, _, _, rfl, rfl, cm (by decide), _, rfl, _, _, rfl, rfl, ?_⟩
    refine ⟨_, rfl, _, rfl, p, _, _, i, rfl, rfl, hpt, ixN_at (by rw [List.length_map, fill_len hl (by omega)]; exact hi), ?_⟩
    refine ⟨?_, ?_, _, _, _, _, rfl⟩
    · exact (((s1.trans st).trans s3).trans s4).upd_new hf
    · show _ = some (HO.lst (nL (fill as (i + 1))))
      rw [upd_same]
      show some (HO.lst ((nL (fill as i)).set i (V.int ((64 : Int) * ((a / 64 : Nat) : Int) + ((a % 64 : Nat) : Int))))) = _
      rw [show (64 : Int) * ((a / 64 : Nat) : Int) + ((a % 64 : Nat) : Int) = (a : Int) by omega, ← fill_set hi hl e2, nL_set]
  · rintro σ H1 ⟨s1, hp1, a2, a3, a4, a5, rfl⟩
    have z : as.drop 6 = [] := List.drop_of_length_le (Nat.le_of_eq hl)
    have y : pp (prs.drop 6) (as.drop 6) = 1 := rfl
    refine ⟨_, rfl, rfl, _, rfl, ?_⟩
    refine iteF ?_
    refine ⟨_, rfl, q p _ s1 ?_⟩
    rw [hp1, show (nL prs).length = 6 from rfl, fill_all hl]
end
end TL
namespace TL
open PySem L2

/-! ### steps of a reading -/
local macro_rules | `(tactic| walk_at "hp") => `(tactic| first | assumption | exact upd_same | (refine (upd_ne (by first | assumption | (exact Ne.symm (by assumption)))).trans ?_; walk_at "hp"))
local macro_rules | `(tactic| walk_at "ok") => `(tactic| first | (exact Or.inr ⟨by decide, by decide⟩) | (exact ⟨by decide, by decide⟩) | (exact ⟨by decide, by decide, by decide⟩) | (show _ ≠ _; omega) | (show _ ≠ _; decide) | (exact Or.inl ⟨by omega, by omega⟩) | decide)
local macro_rules | `(tactic| walk_at "sq") => `(tactic| first | assumption | exact SqL.of (by walk_at "hp") | exact SqT.of (by walk_at "hp"))
local macro_rules | `(tactic| walk_at "ty") => `(tactic| first | refine ⟨_, _, Value.type "int", Value.type "list", false, rfl, ClsV.ty _, TyX.base (TyOf.int _), kt_int_list, ?_⟩ | refine ⟨_, _, Value.type "bool", Value.type "list", false, rfl, ClsV.ty _, TyX.base (TyOf.bl _), kt_bool_list, ?_⟩ | refine ⟨_, _, Value.type "str", Value.type "list", false, rfl, ClsV.ty _, TyX.base (TyOf.str _), kt_str_list, ?_⟩ | refine ⟨_, _, Value.type "NoneType", Value.type "list", false, rfl, ClsV.ty _, TyX.base TyOf.non, kt_NoneType_list, ?_⟩ | refine ⟨_, _, Value.type "list", Value.type "list", true, rfl, ClsV.ty _, tyx_L (by walk_at "sq"), kt_list_list, ?_⟩ | refine ⟨_, _, Value.type "tuple", Value.type "list", false, rfl, ClsV.ty _, tyx_T (by walk_at "sq"), kt_tuple_list, ?_⟩ | refine ⟨_, _, Value.type "int", Value.type "tuple", false, rfl, ClsV.ty _, TyX.base (TyOf.int _), kt_int_tuple, ?_⟩ | refine ⟨_, _, Value.type "bool", Value.type "tuple", false, rfl, ClsV.ty _, TyX.base (TyOf.bl _), kt_bool_tuple, ?_⟩ | refine ⟨_, _, Value.type "str", Value.type "tuple", false, rfl, ClsV.ty _, TyX.base (TyOf.str _), kt_str_tuple, ?_⟩ | refine ⟨_, _, Value.type "NoneType", Value.type "tuple", false, rfl, ClsV.ty _, TyX.base TyOf.non, kt_NoneType_tuple, ?_⟩ | refine ⟨_, _, Value.type "list", Value.type "tuple", false, rfl, ClsV.ty _, tyx_L (by walk_at "sq"), kt_list_tuple, ?_⟩ | refine ⟨_, _, Value.type "tuple", Value.type "tuple", true, rfl, ClsV.ty _, tyx_T (by walk_at "sq"), kt_tuple_tuple, ?_⟩ | refine ⟨_, _, Value.type "int", Value.type "bool", false, rfl, ClsV.ty _, TyX.base (TyOf.int _), kt_int_bool, ?_⟩ | refine ⟨_, _, Value.type "bool", Value.type "bool", true, rfl, ClsV.ty _, TyX.base (TyOf.bl _), kt_bool_bool, ?_⟩ | refine ⟨_, _, Value.type "str", Value.type "bool", false, rfl, ClsV.ty _, TyX.base (TyOf.str _), kt_str_bool, ?_⟩ | refine ⟨_, _, Value.type "NoneType", Value.type "bool", false, rfl, ClsV.ty _, TyX.base TyOf.non, kt_NoneType_bool, ?_⟩ | refine ⟨_, _, Value.type "list", Value.type "bool", false, rfl, ClsV.ty _, tyx_L (by walk_at "sq"), kt_list_bool, ?_⟩ | refine ⟨_, _, Value.type "tuple", Value.type "bool", false, rfl, ClsV.ty _, tyx_T (by walk_at "sq"), kt_tuple_bool, ?_⟩ | refine ⟨_, _, Value.type "int", Value.type "int", true, rfl, ClsV.ty _, TyX.base (TyOf.int _), kt_int_int, ?_⟩ | refine ⟨_, _, Value.type "bool", Value.type "int", true, rfl, ClsV.ty _, TyX.base (TyOf.bl _), kt_bool_int, ?_⟩ | refine ⟨_, _, Value.type "str", Value.type "int", false, rfl, ClsV.ty _, TyX.base (TyOf.str _), kt_str_int, ?_⟩ | refine ⟨_, _, Value.type "NoneType", Value.type "int", false, rfl, ClsV.ty _, TyX.base TyOf.non, kt_NoneType_int, ?_⟩ | refine ⟨_, _, Value.type "list", Value.type "int", false, rfl, ClsV.ty _, tyx_L (by walk_at "sq"), kt_list_int, ?_⟩ | refine ⟨_, _, Value.type "tuple", Value.type "int", false, rfl, ClsV.ty _, tyx_T (by walk_at "sq"), kt_tuple_int, ?_⟩ | refine ⟨_, _, Value.type "int", Value.type "str", false, rfl, ClsV.ty _, TyX.base (TyOf.int _), kt_int_str, ?_⟩ | refine ⟨_, _, Value.type "bool", Value.type "str", false, rfl, ClsV.ty _, TyX.base (TyOf.bl _), kt_bool_str, ?_⟩ | refine ⟨_, _, Value.type "str", Value.type "str", true, rfl, ClsV.ty _, TyX.base (TyOf.str _), kt_str_str, ?_⟩ | refine ⟨_, _, Value.type "NoneType", Value.type "str", false, rfl, ClsV.ty _, TyX.base TyOf.non, kt_NoneType_str, ?_⟩ | refine ⟨_, _, Value.type "list", Value.type "str", false, rfl, ClsV.ty _, tyx_L (by walk_at "sq"), kt_list_str, ?_⟩ | refine ⟨_, _, Value.type "tuple", Value.type "str", false, rfl, ClsV.ty _, tyx_T (by walk_at "sq"), kt_tuple_str, ?_⟩)
local macro_rules | `(tactic| walk_at "go1") => `(tactic| first
  | (refine ⟨_, rfl, ?_⟩)
  | (refine ⟨_, _, rfl, rfl, ?_⟩)
  | (refine ⟨_, _, _, _, rfl, rfl, SqL.of (by walk_at "hp"), rfl, ?_⟩)
  | (refine Or.inl ⟨_, rfl, ?_⟩)
  | (refine ⟨rfl, ?_⟩)
  | (refine ⟨_, _, rfl, .inl (SqL.of (by walk_at "hp")), ?_⟩)
  | (refine ⟨_, _, rfl, Or.inl (by assumption), ?_⟩)
  | (refine ⟨_, _, rfl, Or.inr (by assumption), ?_⟩)
  | (refine ⟨(by walk_at "ok"), ?_⟩)
  | (refine ⟨_, _, _, _, rfl, rfl, (by walk_at "hp"), rfl, ?_⟩))
local macro_rules | `(tactic| walk_at "go") => `(tactic| repeat (walk_at "go1"))
local macro_rules | `(tactic| walk_at "gt") => `(tactic| repeat (first | walk_at "go1" | walk_at "ty"))

section
variable {P : Program} {w : World} {K : PySem.W.Frag} {mg : Str → Option Value} {base : Heap}
def spIsNum : Sp := fun vs H Q _ => ∃ n, vs = [.int n] ∧ Q (.bl true) H
theorem ok_is_number (T : Tx K mg) : FnOk P w K mg base CX0 1 T.f_is_number T.d_is_number ["value"] spIsNum := by
  refine T.F_is_number.ok sc_is_number (fun vs H Q E h => ?_) (fun cdv A outer s H vs Q E hr h => ?_)
  · obtain ⟨n, rfl, _⟩ := h
    rfl
  obtain ⟨n, rfl, q⟩ := h
  refine ⟨_, (pss_one (ps_ret (pe_and (pe_callB (show CallR _ _ (rIsi K) from call_isi) (by rfl) T.z_isinstance (by decide +kernel) (pa_cons (pv 0) (pa_cons (pe_bltn (v := .ty "int") (u := .type "int") (by rfl) T.z_int (by decide +kernel) rfl) pa_nil))) (pe_one (pe_not (pe_callB (show CallR _ _ (rIsi K) from call_isi) (by rfl) T.z_isinstance (by decide +kernel) (pa_cons (pv 0) (pa_cons (pe_bltn (v := .ty "bool") (u := .type "bool") (by rfl) T.z_bool (by decide +kernel) rfl) pa_nil)))))))), ?_⟩
  walk_at "gt"
  exact q
/-! ### a ratio as it stands in memory -/
def rf (u d : Nat) (t : Addr) : List (Str × V) := [("over", .int (u : Int)), ("under", .int (d : Int)), ("_powers", .ref t)]
structure RAt (K : PySem.W.Frag) (C : Addr) (H : Hp) (p : Addr) (e : List Int) : Prop where
  ex : ∃ dx t, H p = some (.ins C dx (rf (up e) (dn e) t)) ∧ SqT K H t (e.map V.int)
  len : e.length = 6
theorem RAt.same {C : Addr} {H H' : Hp} {p : Addr} {e : List Int} (h : RAt K C H p e) (s : Same H H') : RAt K C H' p e := by
  obtain ⟨dx, t, h1, h2⟩ := h.ex
  exact ⟨⟨dx, t, s _ _ h1, seqT s h2⟩, h.len⟩
theorem nov : ¬ (("over" : Str) = "under") := by decide +kernel
theorem nop : ¬ (("over" : Str) = "_powers") := by decide +kernel
theorem nup : ¬ (("under" : Str) = "_powers") := by decide +kernel
theorem rf_put (u d : Nat) (t : Addr) : putF "_powers" (V.ref t) (putF "under" (V.int (d : Int)) (putF "over" (V.int (u : Int)) [])) = rf u d t := by
  show putF "_powers" (V.ref t) (if ("over" : Str) = "under" then [(("over" : Str), V.int (d : Int))] else (("over" : Str), V.int (u : Int)) :: putF "under" (V.int (d : Int)) []) = _
  rw [if_neg nov]
  show (if ("over" : Str) = "_powers" then _ else (("over" : Str), V.int (u : Int)) :: (if ("under" : Str) = "_powers" then _ else (("under" : Str), V.int (d : Int)) :: putF "_powers" (V.ref t) [])) = _
  rw [if_neg nop, if_neg nup]
  rfl
theorem nL_int (as : List Nat) : nL as = (as.map fun n : Nat => (n : Int)).map V.int := by
  rw [List.map_map]
  rfl
theorem up_down (e : List Int) : List.zipWith (· - ·) ((upE e).map fun n : Nat => (n : Int)) ((dnE e).map fun n : Nat => (n : Int)) = e := by
  apply List.ext_getElem
  · simp [upE, dnE]
  · intro i h1 h2
    simp [upE, dnE]
    omega
def spPowersOf (K : PySem.W.Frag) : Sp := fun vs H Q _ => ∃ (e : List Int), vs = [.int ((up e : Nat) : Int), .int ((dn e : Nat) : Int)] ∧ e.length = 6 ∧ ∀ t H', Same H H' → SqT K H' t (e.map V.int) → Q (.ref t) H'
theorem one_zero {e : List Int} (hl : e.length = 6) (hu : up e = 1) (hd : dn e = 1) : e = List.replicate 6 0 := by
  have h1 := pp_one pc_prs (as := upE e) (by rw [upE, List.length_map, hl]; decide) hu
  have h2 := pp_one pc_prs (as := dnE e) (by rw [dnE, List.length_map, hl]; decide) hd
  refine List.eq_replicate_iff.mpr ⟨hl, fun x hx => ?_⟩
  have a1 := h1 x.toNat (List.mem_map.mpr ⟨x, hx, rfl⟩)
  have a2 := h2 (-x).toNat (List.mem_map.mpr ⟨x, hx, rfl⟩)
  omega
-- [0=over, 1=under, 2=up, 3=down]
theorem ok_powers_of (T : Tx K mg) : FnOk P w K mg base CX0 3 T.f__powers_of T.d__powers_of ["over", "under"] (spPowersOf K) := by
  have G__powers_in := ok_powers_in (P := P) (w := w) (base := base) T
  refine T.F__powers_of.ok sc__powers_of (fun vs H Q E h => ?_) (fun cdv A outer s H vs Q E hr h => ?_)
  · obtain ⟨e, rfl, _⟩ := h
    rfl
  obtain ⟨e, rfl, hl, q⟩ := h
  have nd := sc__powers_of.nd
  refine ⟨_, (pss_cut (ps_if (PW.pt (pw_and (pt_cmpR op_eq (pv 0) pe_int (nomark _)) (pw_and1 (pt_cmpR op_eq (pv 1) pe_int (nomark _))))) (pss_one (ps_ret (pe_glob (v := .ref T.e_NO_POWERS) (by rfl) T.m_NO_POWERS rfl))) pss_nil)
    (pss_one (ps_ret (pe_callTy (show CallR _ _ (rTup1 K) from call_tup1) (by rfl) T.z_tuple (by decide +kernel) (pa_cons (pe_lc (own := [("up", 2), ("down", 3)]) (g := (gTup K 2 (gCons (gName 2) (gCons (gName 3) gNil)))) rfl nd (show PI _ _ _ (RZ.iZipA K _) from RZ.pi_zipA (by rfl) T.z_zip (pa_cons (pe_call G__powers_in hr (by rfl) T.m__powers_in T.F__powers_in.kp T.b__powers_in .nil pass0 (pa_cons (pv 0) pa_nil)) (pa_cons (pe_call G__powers_in hr (by rfl) T.m__powers_in T.F__powers_in.kp T.b__powers_in .nil pass0 (pa_cons (pv 1) pa_nil)) pa_nil))) (blkOk_by (own := [("up", 2), ("down", 3)]) (N := N__powers_of) (sc := defScope s__powers_of) (by decide +kernel)) (fun _ _ _ _ _ => by exact (pg_tup rfl (pgs_cons (pg_name (i := 2) nd rfl (Or.inl rfl)) (pgs_cons (pg_name (i := 3) nd rfl (Or.inl rfl)) pgs_nil)))) (fun _ _ _ _ _ => by exact pts_nil) (fun _ _ _ _ _ => by exact (pe_op op_sub (pv 2) (pv 3)))) pa_nil))))), ?_⟩
  refine ⟨fun σ' H' => σ' = L2.start N__powers_of [.int ((up e : Nat) : Int), .int ((dn e : Nat) : Int)] ∧ H' = H, ?_, ?_⟩
  · refine ⟨_, rfl, rfl, _, rfl, ?_⟩
    refine ite2 (fun c => ?_) (fun c => ⟨rfl, rfl⟩)
    refine ⟨_, rfl, rfl, _, rfl, ?_⟩
    refine ite2 (fun c2 => ?_) (fun c2 => ⟨rfl, rfl⟩)
    have u1 : up e = 1 := by
      have := of_decide_eq_true c
      rw [V.int.injEq] at this
      omega
    have d1 : dn e = 1 := by
      have := of_decide_eq_true c2
      rw [V.int.injEq] at this
      omega
    refine q _ H (Same.refl _) ?_
    rw [one_zero hl u1 d1]
    exact T.q_NO_POWERS H
  · rintro σ' H' ⟨rfl, rfl⟩
    refine ⟨_, rfl, upE e, rfl, by simpa [upE] using hl, fun t1 H1 s1 ht1 => ?_⟩
    refine ⟨_, rfl, dnE e, rfl, by simpa [dnE] using hl, fun t2 H2 s2 ht2 => ?_⟩
    have g1 := s2 _ _ ht1
    rw [show (upE e).map (fun n : Nat => V.int (n : Int)) = _ from nL_int _] at g1
    rw [show (dnE e).map (fun n : Nat => V.int (n : Int)) = _ from nL_int _] at ht2
    refine ⟨t1, t2, _, _, rfl, .inl ⟨SqL.of g1, SqL.of ht2, fun D hD => ?_⟩⟩
    refine lc_zipL (f := fun a b => a - b) (SqL.of g1) (SqL.of ht2) (by simp [upE, dnE]) (by simp [upE, hl]) hD (fun u v => rfl) (fun u v H1 k _ _ hk => ⟨_, rfl, _, rfl, u, v, rfl, rfl, hk⟩) fun H3 s3 hD3 => ?_
    rw [up_down] at hD3
    exact ⟨D, _, rfl, .inl (SqL.of hD3), fun t4 H4 s4 ht4 => q t4 H4 (((s1.trans s2).trans s3).trans s4) ht4⟩
def spRInit (K : PySem.W.Frag) (C : Addr) : Sp := fun vs H Q _ => ∃ (p dx : Addr) (m : Nat) (e : List Int), vs = [.ref p, .int ((m * up e : Nat) : Int), .int ((m * dn e : Nat) : Int)] ∧ H p = some (.ins C dx []) ∧ 0 < m ∧ m < 2 ^ 300 ∧ e.length = 6 ∧
  ∀ H', RAt K C H' p e → (∀ c o, H c = some o → c ≠ p → H' c = some o) → Q .non H'
theorem ok_rinit (T : Tx K mg) : FnOk P w K mg base CX0 4 T.f_Ratio_init T.d_Ratio_init ["self", "over", "under"] (spRInit K T.C_Ratio) := by
  have G_is_number := ok_is_number (P := P) (w := w) (base := base) T
  have G__powers_of := ok_powers_of (P := P) (w := w) (base := base) T
  refine T.F_Ratio_init.ok sc_Ratio_init (fun vs H Q E h => ?_) (fun cdv A outer s H vs Q E hr h => ?_)
  · obtain ⟨p, dx, m, e, rfl, _⟩ := h
    rfl
  obtain ⟨p, dx, m, e, rfl, hp, hm, hm3, hl, q⟩ := h
  have nd := sc_Ratio_init.nd
  have u1 := up_pos e
  have d1 := dn_pos e
  have a1 : 0 < m * up e := Nat.mul_pos hm u1
  have b1 : 0 < m * dn e := Nat.mul_pos hm d1
  refine ⟨_, (pss_cons (ps_if (PW.pt (pw_or (pt_not (pt_val (pe_call G_is_number (hr.mono (by decide)) (by rfl) T.m_is_number T.F_is_number.kp T.b_is_number .nil pass0 (pa_cons (pv 1) pa_nil)))) (pw_or (pt_not (pt_val (pe_call G_is_number (hr.mono (by decide)) (by rfl) T.m_is_number T.F_is_number.kp T.b_is_number .nil pass0 (pa_cons (pv 2) pa_nil)))) (pw_or (pt_cmpR op_lt (pv 1) pe_int (nomark _)) (pw_or1 (pt_cmpR op_lt (pv 2) pe_int (nomark _))))))) (pss_one ps_never) pss_nil)
    (pss_cons (ps_set (i := 3) nd rfl (Or.inl rfl) (pe_callBfun cr_gcd (by rfl) T.m_gcd (pa_cons (pv 1) (pa_cons (pv 2) pa_nil))))
    (pss_cons (ps_fld (pv 0) (pe_op op_fdivW (pv 1) (pv 3)) rfl)
    (pss_cons (ps_fld (pv 0) (pe_op op_fdivW (pv 2) (pv 3)) rfl)
    (pss_one (ps_fld (pv 0) (pe_call G__powers_of hr (by rfl) T.m__powers_of T.F__powers_of.kp T.b__powers_of .nil pass0 (pa_cons (show PE _ _ (tFld K _ _) from pe_fld (pv 0) rfl) (pa_cons (show PE _ _ (tFld K _ _) from pe_fld (pv 0) rfl) pa_nil))) rfl)))))), ?_⟩
  refine ⟨_, rfl, _, rfl, true, rfl, ?_⟩
  refine ⟨_, rfl, _, rfl, true, rfl, ?_⟩
  refine ⟨_, rfl, _, _, rfl, rfl, false, congrArg V.bl (decide_eq_false (by omega)), ?_⟩
  refine ⟨_, rfl, _, _, rfl, rfl, false, congrArg V.bl (decide_eq_false (by omega)), ?_⟩
  refine ⟨_, rfl, _, rfl, _, _, rfl, ?_⟩
  have hg : ((Nat.gcd ((m * up e : Nat) : Int).natAbs ((m * dn e : Nat) : Int).natAbs : Nat) : Int) = (m : Int) := by
    rw [Int.natAbs_natCast, Int.natAbs_natCast, gcd_of (cop_e e)]
    exact m
  rw [hg]
  have hm0 : (0 : Int) < (m : Int) := by omega
  have hW : ∀ i : Int, CDivW i (m : Int) := fun i => wide_div hm0 (by simpa using hm3) (by decide) (by decide)
  have q1 : ((m * up e : Nat) : Int) / (m : Int) = ((up e : Nat) : Int) := by rw [← Int.natCast_ediv, Nat.mul_div_cancel_left _ hm]
  have q2 : ((m * dn e : Nat) : Int) / (m : Int) = ((dn e : Nat) : Int) := by rw [← Int.natCast_ediv, Nat.mul_div_cancel_left _ hm]
  refine ⟨_, rfl, _, rfl, _, _, rfl, rfl, hW _, ?_⟩
  dsimp only
  rw [q1]
  refine ⟨_, rfl, p, T.C_Ratio, dx, [], rfl, hp, T.c_Ratio, T.n_Ratio_over, (by show 0 < 1000; decide), ?_⟩
  refine ⟨_, rfl, _, rfl, _, _, rfl, rfl, hW _, ?_⟩
  dsimp only
  rw [q2]
  refine ⟨_, rfl, p, T.C_Ratio, dx, _, rfl, upd_same, T.c_Ratio, T.n_Ratio_under, (by show 1 < 1000; decide), ?_⟩
  refine ⟨_, rfl, p, T.C_Ratio, dx, _, _, rfl, upd_same, T.c_Ratio, T.n_Ratio_over, rfl, ?_⟩
  refine ⟨_, rfl, p, T.C_Ratio, dx, _, _, rfl, upd_same, T.c_Ratio, T.n_Ratio_under, rfl, ?_⟩
  refine ⟨e, rfl, hl, fun t4 H4 s4 ht4 => ?_⟩
  have hp4 := s4 _ _ (upd_same (H := upd H p _) (a := p))
  refine ⟨_, rfl, p, T.C_Ratio, dx, _, rfl, hp4, T.c_Ratio, T.n_Ratio_powers, (by show 2 < 1000; decide), ?_⟩
  rw [rf_put]
  refine q _ ⟨⟨dx, t4, upd_same, seqT_ins hp4 ht4⟩, hl⟩ fun c o x n => ?_
  rw [upd_ne n]
  refine s4 _ _ ?_
  rw [upd_ne n, upd_ne n]
  exact x
-- [0=base, 1=exponent, 2=raised]
def spRaised : Sp := fun vs H Q _ => ∃ (b n : Nat), vs = [.int (b : Int), .int (n : Int)] ∧ 0 < b ∧ b ^ n < 2 ^ 100000 ∧ ∀ H', Same H H' → Q (.int ((b ^ n : Nat) : Int)) H'
theorem raised_rest {b n c m y : Nat} {H : Hp} {σ : L2.St} {D : Ends} (hc : 0 < c) (hy : 0 < y) (hp : y * (c * c) ^ (m / 2) = b ^ n) (hB : b ^ n < 2 ^ 100000) (hσ : σ = [some (.int (c : Int)), some (.int (m : Int)), some (.int (y : Int))])
    (hD : D.nx = fun σ' H' => ∃ c' y' : Nat, H' = H ∧ 0 < c' ∧ 0 < y' ∧ y' * c' ^ (m / 2) = b ^ n ∧ σ' = [some (.int (c' : Int)), some (.int ((m / 2 : Nat) : Int)), some (.int (y' : Int))]) :
    tSeq (tAsg (tOp (rI CDivW fun i j => .int (i / j)) (tVar 1) (tC (.int 2))) (gName 1)) (tIfS (tTest (tOp (rI0 fun i j => .bl (decide (j < i))) (tVar 1) (tC (.int 0)))) (tAsg (tOp (rI CMulW fun i j => .int (i * j)) (tVar 0) (tVar 0)) (gName 0)) tNext) D σ H := by
  subst hσ
  refine ⟨_, rfl, _, _, rfl, rfl, wide_div (b := 2) (by decide) (by decide) (by decide) (by decide), ?_⟩
  have e : ((m : Int)) / 2 = ((m / 2 : Nat) : Int) := by omega
  by_cases h : 0 < m / 2
  · refine ⟨_, rfl, _, _, rfl, rfl, true, congrArg V.bl (decide_eq_true (show (0 : Int) < (m : Int) / 2 by omega)), ?_⟩
    have h1 : c * c ≤ (c * c) ^ (m / 2) := Nat.le_self_pow (by omega) _
    have h2 : (c * c) ^ (m / 2) ≤ b ^ n := by rw [← hp]; exact Nat.le_mul_of_pos_left _ hy
    have h3 : ((c : Int)).natAbs < 2 ^ 100000 := Nat.lt_of_le_of_lt (by rw [Int.natAbs_natCast]; exact Nat.le_trans (Nat.le_mul_of_pos_right c hc) (Nat.le_trans h1 h2)) hB
    refine ⟨_, rfl, _, rfl, _, _, rfl, rfl, wide_mul h3 h3 (by decide) (by decide) (by decide), ?_⟩
    show D.nx _ _
    rw [hD]
    exact ⟨c * c, y, rfl, Nat.mul_pos hc hc, hy, hp, congrArg (fun z => [some (V.int ((c * c : Nat) : Int)), some (V.int z), some (V.int (y : Int))]) e⟩
  · refine ⟨_, rfl, _, _, rfl, rfl, false, congrArg V.bl (decide_eq_false (show ¬ (0 : Int) < (m : Int) / 2 by omega)), ?_⟩
    show D.nx _ _
    rw [hD]
    have z : m / 2 = 0 := by omega
    rw [z, Nat.pow_zero, Nat.mul_one] at hp
    refine ⟨c, y, rfl, hc, hy, by rw [z, Nat.pow_zero, Nat.mul_one, hp], congrArg (fun z => [some (V.int (c : Int)), some (V.int z), some (V.int (y : Int))]) e⟩
theorem ok_raised (T : Tx K mg) : FnOk P w K mg base CX0 1 T.f__raised T.d__raised ["base", "exponent"] spRaised := by
  refine T.F__raised.ok sc__raised (fun vs H Q E h => ?_) (fun cdv A outer s H vs Q E hr h => ?_)
  · obtain ⟨b, n, rfl, _⟩ := h
    rfl
  obtain ⟨b, n, rfl, hb, hB, q⟩ := h
  have nd := sc__raised.nd
  refine ⟨_, (pss_cons (ps_set (i := 2) nd rfl (Or.inl rfl) pe_int)
    (pss_cons (ps_while PassesOwn.never (pt_cmpR op_gt (pv 1) pe_int (nomark _)) (pss_cons (ps_if (pt_cmpR op_eq (pe_op op_mod (pv 1) pe_int) pe_int (nomark _)) (pss_one (ps_set (i := 2) nd rfl (Or.inl rfl) (pe_op op_mulW (pv 2) (pv 0)))) pss_nil)
    (pss_cons (ps_set (i := 1) nd rfl (Or.inl rfl) (pe_op op_fdivW (pv 1) pe_int))
    (pss_one (ps_if (pt_cmpR op_gt (pv 1) pe_int (nomark _)) (pss_one (ps_set (i := 0) nd rfl (Or.inl rfl) (pe_op op_mulW (pv 0) (pv 0)))) pss_nil)))))
    (pss_one (ps_ret (pv 2))))), ?_⟩
  refine ⟨fun m σ H' => ∃ c x y : Nat, m = x ∧ H' = H ∧ 0 < c ∧ 0 < y ∧ y * c ^ x = b ^ n ∧ σ = [some (.int (c : Int)), some (.int (x : Int)), some (.int (y : Int))], ⟨n, b, n, 1, rfl, rfl, hb, Nat.one_pos, Nat.one_mul _, rfl⟩, ?_⟩
  rintro m σ H2 ⟨c, x, y, rfl, rfl, hc, hy, hp, rfl⟩
  by_cases hx : 0 < m
  · refine ⟨_, rfl, _, _, rfl, rfl, true, congrArg V.bl (decide_eq_true (by omega)), ?_⟩
    refine ⟨fun σ' H' => ∃ c' y' : Nat, H' = H2 ∧ 0 < c' ∧ 0 < y' ∧ y' * c' ^ (m / 2) = b ^ n ∧ σ' = [some (.int (c' : Int)), some (.int ((m / 2 : Nat) : Int)), some (.int (y' : Int))], fun σ' H' ⟨c', y', a1, a2, a3, a4, a5⟩ => ⟨m / 2, by omega, c', m / 2, y', rfl, a1, a2, a3, a4, a5⟩, ?_⟩
    have hcx : c ≤ c ^ m := Nat.le_self_pow (by omega) c
    have hyb : y * c ≤ b ^ n := by rw [← hp]; exact Nat.mul_le_mul_left y hcx
    refine ⟨_, rfl, _, _, rfl, rfl, (by show (0 : Int) < 2; decide), rfl, _, rfl, ?_⟩
    have hb2 : ∀ z : Nat, z ≤ b ^ n → ((z : Int)).natAbs < 2 ^ 100000 := fun z hz => Nat.lt_of_le_of_lt (by rw [Int.natAbs_natCast]; exact hz) hB
    have hyn : y ≤ b ^ n := Nat.le_trans (Nat.le_mul_of_pos_right y hc) hyb
    have hcn : c ≤ b ^ n := Nat.le_trans (Nat.le_mul_of_pos_left c hy) hyb
    have hm2 : c ^ m = (c * c) ^ (m / 2) * c ^ (m % 2) := by
      rw [← Nat.pow_two, ← Nat.pow_mul, ← Nat.pow_add, Nat.div_add_mod]
    refine ite2 (fun o => ?_) (fun o => ?_)
    · have o' : m % 2 = 1 := by
        have := of_decide_eq_true o
        rw [V.int.injEq] at this
        omega
      rw [o', Nat.pow_one] at hm2
      have hp2 : (y * c) * (c * c) ^ (m / 2) = b ^ n := by
        rw [← hp, hm2, Nat.mul_assoc, Nat.mul_comm c]
      refine ⟨_, rfl, _, rfl, _, _, rfl, rfl, wide_mul (hb2 y hyn) (hb2 c hcn) (by decide) (by decide) (by decide), ?_⟩
      exact raised_rest (y := y * c) hc (Nat.mul_pos hy hc) hp2 (hB := hB) rfl rfl
    · have o' : m % 2 = 0 := by
        have := of_decide_eq_false (Bool.eq_false_iff.mpr (by simpa using o))
        have t2 : ¬ ((m : Int)) % 2 = 1 := by simpa using this
        omega
      rw [o', Nat.pow_zero, Nat.mul_one] at hm2
      rw [hm2] at hp
      exact raised_rest (y := y) hc hy hp (hB := hB) rfl rfl
  · obtain rfl : m = 0 := by omega
    refine ⟨_, rfl, _, _, rfl, rfl, false, congrArg V.bl (decide_eq_false (by omega)), ?_⟩
    refine ⟨_, rfl, ?_⟩
    rw [Nat.pow_zero, Nat.mul_one] at hp
    rw [hp]
    exact q _ (Same.refl _)
end
end TL
namespace TL
open PySem PySem.Spec PyProof.Rows L2 PySem.W
/-! ### zip of a tuple and a list -/
theorem at_tuple {prog : Program} {w : World} {A : Around} (hh : A.handled = none) {it t : Addr} {h : Heap} {its : Array Value} {i : Nat} (hi : h.IsTupleIter it t i) (hT : h.IsTuple t its) (ne : t ≠ it) :
    ∃ n P St, Draws prog w A it [it, t] n P St ∧ St i h ∧ i ≤ n ∧ (its.size ≤ i → n = i) := by
  by_cases c : i ≤ its.size
  · exact ⟨_, _, _, Draws.tuple hh it t ne its, ⟨hi, hT⟩, c, fun z => Nat.le_antisymm z c⟩
  · refine ⟨i, fun _ _ => True, fun j g => j = i ∧ g.IsTupleIter it t i ∧ g.IsTuple t its, ⟨fun _ _ st => let ⟨o, ho, _⟩ := st.2.1; ⟨o, ho⟩, fun _ _ _ st k => ⟨st.1, st.2.1.at fun o e => k it (by simp) o e, st.2.2.at fun o e => k t (by simp) o e⟩, fun j _ _ _ hj st _ => absurd st.1 (Nat.ne_of_lt hj),
      fun _ _ _ st hE => wpAny_nextOf_tuple_end hh st.2.1 st.2.2 (Array.getElem?_eq_none (by omega)) hE⟩, ⟨rfl, hi, hT⟩, Nat.le_refl _, fun _ => rfl⟩
theorem at_list {prog : Program} {w : World} {A : Around} (hh : A.handled = none) {it t : Addr} {h : Heap} {its : Array Value} {i : Nat} (hi : h.IsListIter it t i) (hT : h.IsList t its) (ne : t ≠ it) :
    ∃ n P St, Draws prog w A it [it, t] n P St ∧ St i h ∧ i ≤ n ∧ (its.size ≤ i → n = i) := by
  by_cases c : i ≤ its.size
  · exact ⟨_, _, _, Draws.list hh it t ne its, ⟨hi, hT⟩, c, fun z => Nat.le_antisymm z c⟩
  · refine ⟨i, fun _ _ => True, fun j g => j = i ∧ g.IsListIter it t i ∧ g.IsList t its, ⟨fun _ _ st => let ⟨o, ho, _⟩ := st.2.1; ⟨o, ho⟩, fun _ _ _ st k => ⟨st.1, st.2.1.at fun o e => k it (by simp) o e, st.2.2.at fun o e => k t (by simp) o e⟩, fun j _ _ _ hj st _ => absurd st.1 (Nat.ne_of_lt hj),
      fun _ _ _ st hE => wpAny_nextOf_list_end hh st.2.1 st.2.2 (Array.getElem?_eq_none (by omega)) hE⟩, ⟨rfl, hi, hT⟩, Nat.le_refl _, fun _ => rfl⟩
def ItzM (K : PySem.W.Frag) (a b : Addr) : It :=
  ⟨fun i H => ∃ xs ys x y, SqT K H a xs ∧ SqL K H b ys ∧ xs[i]? = some x ∧ ys[i]? = some y,
    fun i H v H' => ∃ T x y, v = .ref T ∧ H T = none ∧ H' = upd H T (.tup [x, y]) ∧ (∀ xs, SqT K H a xs → xs[i]? = some x) ∧ ∀ ys, SqL K H b ys → ys[i]? = some y,
    fun i H => ∃ xs ys, SqT K H a xs ∧ SqL K H b ys ∧ (xs.length ≤ i ∨ ys.length ≤ i)⟩
theorem turn_zipM {P : Program} {w : World} {K : PySem.W.Frag} {elts : List Expr} {kk : Nat} {tp : Pos} {a b z TI TO i1 i2 : Addr} (S : ZipSep2 z TI TO i1 i2 [i1, a] [i2, b]) :
    Turn P w K (.Tuple elts kk tp) (ItzM K a b) [z, TI, TO, i1, i2] z (fun i h => IsZip h z TI TO .none ∧ IsPair h TI (.ref i1) (.ref i2) ∧ (∃ x y, IsPair h TO x y) ∧ h.IsTupleIter i1 a i ∧ h.IsListIter i2 b i) where
  mem := List.mem_cons_self ..
  obj := fun i h st c hc => by
    obtain ⟨hz, hTI, ⟨x, y, hTO⟩, ⟨o1, e1, _, d1⟩, ⟨o2, e2, _, d2⟩⟩ := st
    simp only [List.mem_cons, List.not_mem_nil, or_false] at hc
    rcases hc with rfl | rfl | rfl | rfl | rfl
    · exact ⟨_, hz, fun v q => nomatch q⟩
    · exact ⟨_, hTI, fun v q => nomatch q⟩
    · exact ⟨_, hTO, fun v q => nomatch q⟩
    · exact ⟨o1, e1, fun v q => by rw [d1] at q; cases q⟩
    · exact ⟨o2, e2, fun v q => by rw [d2] at q; cases q⟩
  keep := fun i h h' st k => by
    obtain ⟨hz, hTI, ⟨x, y, hTO⟩, e1, e2⟩ := st
    exact ⟨k z (by simp) _ hz, k TI (by simp) _ hTI, ⟨x, y, k TO (by simp) _ hTO⟩, e1.at fun o q => k i1 (by simp) o q, e2.at fun o q => k i2 (by simp) o q⟩
  item := by
    intro X hP hw hK hc i pins s σ H E I hf st hg
    subst hP hw hK
    obtain ⟨hz, hTI, ⟨x0, y0, hTO⟩, e1, e2⟩ := st
    obtain ⟨xs, ys, x, y, qx, qy, hx, hy⟩ := hg
    obtain ⟨t1, r1, p1, _⟩ := I.tuple qx
    obtain ⟨t2, r2, p2, _⟩ := I.list qy
    obtain ⟨u1, hu1, ru1⟩ := r1.get hx
    obtain ⟨u2, hu2, ru2⟩ := r2.get hy
    have hT : s.heap.IsTuple a t1.toArray := p1
    have hL : s.heap.IsList b t2.toArray := p2.isList
    have n1 : a ≠ i1 := cls_ne (let ⟨o, q1, q2, _⟩ := hT; ⟨o, q1, q2⟩) (let ⟨o, q1, q2, _⟩ := e1; ⟨o, q1, q2⟩) (by decide)
    have n2 : b ≠ i2 := cls_ne (let ⟨o, q1, q2, _⟩ := hL; ⟨o, q1, q2⟩) (let ⟨o, q1, q2, _⟩ := e2; ⟨o, q1, q2⟩) (by decide)
    have hh : X.A.in1.handled = none := I.ok.hd hc
    have lz : z < s.heap.objs.size := Heap.lt_size hz
    have l1 : i < t1.toArray.size := by simpa using (List.getElem?_eq_some_iff.mp hu1).1
    have l2 : i < t2.toArray.size := by simpa using (List.getElem?_eq_some_iff.mp hu2).1
    refine wpAny_pyNext_zipD2_item S (Draws.tuple hh i1 a n1 t1.toArray) (Draws.list hh i2 b n2 t2.toArray) hz hTI hTO ⟨e1, hT⟩ ⟨e2, hL⟩ l1 l2 fun v1 v2 h' tk g1 g2 z' TO' s1 s2 hT2 hsz hk => ?_
    obtain rfl : u1 = v1 := Option.some.inj (hu1.symm.trans (by simpa using g1))
    obtain rfl : u2 = v2 := Option.some.inj (hu2.symm.trans (by simpa using g2))
    refine ⟨_, rfl, wpAny_letOwnedTupleGo_zip (s := { s with heap := h', toks := tk }) z' fun h2 z2 sb => ?_⟩
    have hT3 : h2.get? s.heap.objs.size = some { cls := .type "tuple", data := .seq #[u1, u2] } := (sb.2 _ (Nat.ne_of_gt lz)).trans hT2
    have new : ObjOk X.prog X.w (upd H s.heap.objs.size (.tup [x, y])) h2 s.heap.objs.size (.tup [x, y]) := ⟨(show 2 ≤ sizeLine by decide), [u1, u2], .cons ru1 (.cons ru2 .nil), ⟨_, hT3, rfl, _, rfl⟩⟩
    have I1 : Inv X pins σ (upd H s.heap.objs.size (.tup [x, y])) { s with heap := h2, toks := tk } :=
      I.turnedNew (ch := [z, TI, TO, i1, i2]) (fun c o hb q => (sb.2 c fun q' => hb (by simp [q'])).trans (hk c o (fun q' => hb (by simp [q'])) (fun q' => hb (by simp [q'])) (fun q' => hb (by simp [q'])) (fun q' => hb (by simp [q'])) q)) hf (Nat.le_refl _) new
    have z1 : z ≠ i1 := S.zi1
    have z3 : z ≠ i2 := S.zi2
    refine ⟨.ref s.heap.objs.size, _, I1, rfl, ⟨_, x, y, rfl, I.hok.fresh (Nat.le_refl _), rfl, fun l hl => by rw [I.tuple_inj hl qx]; exact hx, fun l hl => by rw [I.list_inj hl qy]; exact hy⟩, ⟨z2, ?_, ⟨u1, u2, ?_⟩, ?_, ?_⟩, fun c hcm => ?_⟩
    · exact (sb.2 _ S.TIz).trans (hk _ _ S.TIz S.TITO S.TIi1 S.TIi2 hTI)
    · exact (sb.2 _ S.TOz).trans TO'
    · exact s1.1.at fun o q => (sb.2 _ (Ne.symm z1)).trans q
    · exact s2.1.at fun o q => (sb.2 _ (Ne.symm z3)).trans q
    · have lc : c < s.heap.objs.size := by
        simp only [List.mem_cons, List.not_mem_nil, or_false] at hcm
        rcases hcm with rfl | rfl | rfl | rfl | rfl
        · exact lz
        · exact Heap.lt_size hTI
        · exact Heap.lt_size hTO
        · obtain ⟨_, q, _⟩ := e1
          exact Heap.lt_size q
        · obtain ⟨_, q, _⟩ := e2
          exact Heap.lt_size q
      rw [upd_ne (Nat.ne_of_lt lc)]
      exact (hf c hcm).1
  done := by
    intro X hP hw hK hc i pins s σ H E I hf st hg
    subst hP hw hK
    obtain ⟨hz, hTI, ⟨x0, y0, hTO⟩, e1, e2⟩ := st
    obtain ⟨xs, ys, qx, qy, hend⟩ := hg
    obtain ⟨t1, r1, p1, _⟩ := I.tuple qx
    obtain ⟨t2, r2, p2, _⟩ := I.list qy
    have hT : s.heap.IsTuple a t1.toArray := p1
    have hL : s.heap.IsList b t2.toArray := p2.isList
    have n1 : a ≠ i1 := cls_ne (let ⟨o, q1, q2, _⟩ := hT; ⟨o, q1, q2⟩) (let ⟨o, q1, q2, _⟩ := e1; ⟨o, q1, q2⟩) (by decide)
    have n2 : b ≠ i2 := cls_ne (let ⟨o, q1, q2, _⟩ := hL; ⟨o, q1, q2⟩) (let ⟨o, q1, q2, _⟩ := e2; ⟨o, q1, q2⟩) (by decide)
    have hh : X.A.in1.handled = none := I.ok.hd hc
    have l1 := r1.length
    have l2 := r2.length
    obtain ⟨m1, P1, S1, D1, g1, k1, f1⟩ := at_tuple (prog := X.prog) (w := X.w) hh e1 hT n1
    obtain ⟨m2, P2, S2, D2, g2, k2, f2⟩ := at_list (prog := X.prog) (w := X.w) hh e2 hL n2
    refine wpAny_pyNext_zipD2_end S D1 D2 hz hTI hTO g1 g2 k1 k2 ?_ fun h' tk hk => ⟨rfl, I.turnedL (t' := tk) (ch := [z, TI, TO, i1, i2]) (fun c o hb q => hk c o (fun q' => hb (by simp [q'])) (fun q' => hb (by simp [q'])) (fun q' => hb (by simp [q'])) (fun q' => hb (by simp [q'])) q) hf⟩
    rcases hend with q | q
    · exact .inl (f1 (by simp; omega)).symm
    · exact .inr (f2 (by simp; omega)).symm
  self := fun A i s Q E st h => wpAny_pyIter_zip st.1 h
/-- zip of a tuple and a list or a tuple -/
def ZipOf (K : PySem.W.Frag) (H : Hp) (a b : Addr) (ys : List V) (J : It) : Prop := (SqL K H b ys ∧ J = ItzM K a b) ∨ (SqT K H b ys ∧ J = RZ.ItzT K a b)
def iZipP (K : PySem.W.Frag) (ta : TA) : TI := fun σ H R => ta σ H fun vs H1 => ∃ a b xs ys, vs = [.ref a, .ref b] ∧ SqT K H1 a xs ∧ Sq K H1 b ys ∧ ∀ J, ZipOf K H1 a b ys J → R J H1
theorem pi_zipP {X : Cx} {e e2 : Expr} {ta : TA} {p pos tp : Pos} {elts : List Expr} {kk : Nat} (hg : Gl X "zip") (hm : X.mg "zip" = none) (ha : PA X [e, e2] ta)
    (hs : starEach [e, e2] X.env = (false, eval e X.env) :: starEach [e2] X.env := by rfl) (hpl : (backTo pos (starEach [e2] X.env)).any (·.1) = false := by rfl) :
    PI X (.Tuple elts kk tp) (.Call (.Name "zip" p) [e, e2] [] pos) (iZipP X.K ta) := by
  refine ⟨fun pins s σ H R I h => Call_ (ld_blt I hg hm PyProof.Rows.boot_zip (PyProof.Rows.callWith_type1 (thn (ha.run pos pins s σ H _ I h) fun us s1 ⟨vs, H1, I1, r1, q1⟩ => ?_) hs hpl))⟩
  obtain ⟨a, b, xs, ys, ex, hqx, hqB, q1⟩ := q1
  subst ex
  cases r1 with
  | cons r rr =>
    cases rr with
    | cons r' rr =>
      cases rr
      cases r
      cases r'
      have fresh5 : ∀ c, c ∈ [s1.heap.objs.size + 4, s1.heap.objs.size + 2, s1.heap.objs.size + 3, s1.heap.objs.size, s1.heap.objs.size + 1] → FpOk X pins H1 c := fun c hcm => by
        simp only [List.mem_cons, List.not_mem_nil, or_false] at hcm
        have lc : s1.heap.objs.size ≤ c := by
          rcases hcm with z | z | z | z | z
          · exact z ▸ Nat.le_add_right _ _
          · exact z ▸ Nat.le_add_right _ _
          · exact z ▸ Nat.le_add_right _ _
          · exact z ▸ Nat.le_refl _
          · exact z ▸ Nat.le_add_right _ _
        exact I1.fpOk lc (I1.hok.fresh lc)
      obtain ⟨its, rv, p1, _⟩ := I1.tuple hqx
      obtain ⟨o1, ho1, _⟩ := id p1
      have hT : s1.heap.IsTuple a its.toArray := p1
      rcases hqB with hqy | hqy
      · obtain ⟨its2, rv2, p2, _⟩ := I1.list hqy
        have hL : s1.heap.IsList b its2.toArray := p2.isList
        obtain ⟨o2, ho2, _⟩ := id hL
        refine zip_begins2 (begins_tuple a its.toArray) (begins_list b its2.toArray) hT hL fun h' hz hTI hTO h1 h2 hsz hk => wpAny_pyIter_zip hz ?_
        have I2 : Inv X pins σ H1 { s1 with heap := h' } := I1.kept (t' := s1.toks) hk
        exact ⟨s1.heap.objs.size + 4, [s1.heap.objs.size + 4, s1.heap.objs.size + 2, s1.heap.objs.size + 3, s1.heap.objs.size, s1.heap.objs.size + 1], _, _, H1, rfl, I2,
          turn_zipM (zip_sep2 (fp1 := [a]) (fp2 := [b]) (fun c hc => by rw [List.mem_singleton.mp hc]; exact Heap.lt_size ho1) (fun c hc => by rw [List.mem_singleton.mp hc]; exact Heap.lt_size ho2)), ⟨hz, hTI, ⟨_, _, hTO⟩, ⟨_, h1, rfl, rfl⟩, ⟨_, h2, rfl, rfl⟩⟩, fresh5, q1 _ (.inl ⟨hqy, rfl⟩)⟩
      · obtain ⟨its2, rv2, p2, _⟩ := I1.tuple hqy
        obtain ⟨o2, ho2, _⟩ := id p2
        refine RZ.call_zipT hT (show s1.heap.IsTuple b its2.toArray from p2) fun h' hz hTI hTO h1 h2 hsz hk => wpAny_pyIter_zip hz ?_
        have I2 : Inv X pins σ H1 { s1 with heap := h' } := I1.kept (t' := s1.toks) hk
        exact ⟨s1.heap.objs.size + 4, [s1.heap.objs.size + 4, s1.heap.objs.size + 2, s1.heap.objs.size + 3, s1.heap.objs.size, s1.heap.objs.size + 1], _, _, H1, rfl, I2, RZ.turn_zipT (PySem.W.ktu_apart s1.heap.objs.size a b (Heap.lt_size ho1) (Heap.lt_size ho2)), ⟨hz, hTI, ⟨_, _, hTO⟩, h1, h2⟩, fresh5, q1 _ (.inr ⟨hqy, rfl⟩)⟩
theorem walk_zipM {K : PySem.W.Frag} {a b : Addr} {xs ys : List V} (h : xs.length = ys.length) : Walk (ItzM K a b) xs.length (fun H => SqT K H a xs ∧ SqL K H b ys) (YPair (fun i => xs[i]?) (fun i => ys[i]?)) := by
  refine ⟨fun i _ hi q => ⟨xs, ys, xs[i], ys[i]'(h ▸ hi), q.1, q.2, List.getElem?_eq_getElem hi, List.getElem?_eq_getElem (h ▸ hi)⟩, fun _ q => ⟨xs, ys, q.1, q.2, .inl (Nat.le_refl _)⟩, fun i H v H' _ q y => ?_⟩
  obtain ⟨T, x, y, e1, e2, e3, e4, e5⟩ := y
  exact ⟨T, x, y, e1, e2, e3, e4 xs q.1, e5 ys q.2⟩
theorem ZipOf.walk {K : PySem.W.Frag} {H : Hp} {a b : Addr} {xs ys : List V} {J : It} (z : ZipOf K H a b ys J) (hx : SqT K H a xs) (h : xs.length = ys.length) :
    ∃ G : Hp → Prop, Walk J xs.length G (YPair (fun i => xs[i]?) (fun i => ys[i]?)) ∧ ∀ H', Same H H' → G H' := by
  rcases z with ⟨hy, rfl⟩ | ⟨hy, rfl⟩
  · exact ⟨_, walk_zipM h, fun H' s => ⟨seqT s hx, s.seq hy⟩⟩
  · exact ⟨_, walk_zipT (by omega), fun H' s => ⟨seqT s hx, seqT s hy⟩⟩
end TL
namespace TL
open PySem L2

/-! ### steps of a reading -/
local macro_rules | `(tactic| walk_at "hp") => `(tactic| first | assumption | exact upd_same | (refine (upd_ne (by first | assumption | (exact Ne.symm (by assumption)))).trans ?_; walk_at "hp"))
local macro_rules | `(tactic| walk_at "ok") => `(tactic| first | (exact Or.inr ⟨by decide, by decide⟩) | (exact ⟨by decide, by decide⟩) | (exact ⟨by decide, by decide, by decide⟩) | (show _ ≠ _; omega) | (show _ ≠ _; decide) | (exact Or.inl ⟨by omega, by omega⟩) | decide)
local macro_rules | `(tactic| walk_at "sq") => `(tactic| first | assumption | exact SqL.of (by walk_at "hp") | exact SqT.of (by walk_at "hp"))
local macro_rules | `(tactic| walk_at "ty") => `(tactic| first | refine ⟨_, _, Value.type "int", Value.type "list", false, rfl, ClsV.ty _, TyX.base (TyOf.int _), kt_int_list, ?_⟩ | refine ⟨_, _, Value.type "bool", Value.type "list", false, rfl, ClsV.ty _, TyX.base (TyOf.bl _), kt_bool_list, ?_⟩ | refine ⟨_, _, Value.type "str", Value.type "list", false, rfl, ClsV.ty _, TyX.base (TyOf.str _), kt_str_list, ?_⟩ | refine ⟨_, _, Value.type "NoneType", Value.type "list", false, rfl, ClsV.ty _, TyX.base TyOf.non, kt_NoneType_list, ?_⟩ | refine ⟨_, _, Value.type "list", Value.type "list", true, rfl, ClsV.ty _, tyx_L (by walk_at "sq"), kt_list_list, ?_⟩ | refine ⟨_, _, Value.type "tuple", Value.type "list", false, rfl, ClsV.ty _, tyx_T (by walk_at "sq"), kt_tuple_list, ?_⟩ | refine ⟨_, _, Value.type "int", Value.type "tuple", false, rfl, ClsV.ty _, TyX.base (TyOf.int _), kt_int_tuple, ?_⟩ | refine ⟨_, _, Value.type "bool", Value.type "tuple", false, rfl, ClsV.ty _, TyX.base (TyOf.bl _), kt_bool_tuple, ?_⟩ | refine ⟨_, _, Value.type "str", Value.type "tuple", false, rfl, ClsV.ty _, TyX.base (TyOf.str _), kt_str_tuple, ?_⟩ | refine ⟨_, _, Value.type "NoneType", Value.type "tuple", false, rfl, ClsV.ty _, TyX.base TyOf.non, kt_NoneType_tuple, ?_⟩ | refine ⟨_, _, Value.type "list", Value.type "tuple", false, rfl, ClsV.ty _, tyx_L (by walk_at "sq"), kt_list_tuple, ?_⟩ | refine ⟨_, _, Value.type "tuple", Value.type "tuple", true, rfl, ClsV.ty _, tyx_T (by walk_at "sq"), kt_tuple_tuple, ?_⟩ | refine ⟨_, _, Value.type "int", Value.type "bool", false, rfl, ClsV.ty _, TyX.base (TyOf.int _), kt_int_bool, ?_⟩ | refine ⟨_, _, Value.type "bool", Value.type "bool", true, rfl, ClsV.ty _, TyX.base (TyOf.bl _), kt_bool_bool, ?_⟩ | refine ⟨_, _, Value.type "str", Value.type "bool", false, rfl, ClsV.ty _, TyX.base (TyOf.str _), kt_str_bool, ?_⟩ | refine ⟨_, _, Value.type "NoneType", Value.type "bool", false, rfl, ClsV.ty _, TyX.base TyOf.non, kt_NoneType_bool, ?_⟩ | refine ⟨_, _, Value.type "list", Value.type "bool", false, rfl, ClsV.ty _, tyx_L (by walk_at "sq"), kt_list_bool, ?_⟩ | refine ⟨_, _, Value.type "tuple", Value.type "bool", false, rfl, ClsV.ty _, tyx_T (by walk_at "sq"), kt_tuple_bool, ?_⟩ | refine ⟨_, _, Value.type "int", Value.type "int", true, rfl, ClsV.ty _, TyX.base (TyOf.int _), kt_int_int, ?_⟩ | refine ⟨_, _, Value.type "bool", Value.type "int", true, rfl, ClsV.ty _, TyX.base (TyOf.bl _), kt_bool_int, ?_⟩ | refine ⟨_, _, Value.type "str", Value.type "int", false, rfl, ClsV.ty _, TyX.base (TyOf.str _), kt_str_int, ?_⟩ | refine ⟨_, _, Value.type "NoneType", Value.type "int", false, rfl, ClsV.ty _, TyX.base TyOf.non, kt_NoneType_int, ?_⟩ | refine ⟨_, _, Value.type "list", Value.type "int", false, rfl, ClsV.ty _, tyx_L (by walk_at "sq"), kt_list_int, ?_⟩ | refine ⟨_, _, Value.type "tuple", Value.type "int", false, rfl, ClsV.ty _, tyx_T (by walk_at "sq"), kt_tuple_int, ?_⟩ | refine ⟨_, _, Value.type "int", Value.type "str", false, rfl, ClsV.ty _, TyX.base (TyOf.int _), kt_int_str, ?_⟩ | refine ⟨_, _, Value.type "bool", Value.type "str", false, rfl, ClsV.ty _, TyX.base (TyOf.bl _), kt_bool_str, ?_⟩ | refine ⟨_, _, Value.type "str", Value.type "str", true, rfl, ClsV.ty _, TyX.base (TyOf.str _), kt_str_str, ?_⟩ | refine ⟨_, _, Value.type "NoneType", Value.type "str", false, rfl, ClsV.ty _, TyX.base TyOf.non, kt_NoneType_str, ?_⟩ | refine ⟨_, _, Value.type "list", Value.type "str", false, rfl, ClsV.ty _, tyx_L (by walk_at "sq"), kt_list_str, ?_⟩ | refine ⟨_, _, Value.type "tuple", Value.type "str", false, rfl, ClsV.ty _, tyx_T (by walk_at "sq"), kt_tuple_str, ?_⟩)
local macro_rules | `(tactic| walk_at "go1") => `(tactic| first
  | (refine ⟨_, rfl, ?_⟩)
  | (refine ⟨_, _, rfl, rfl, ?_⟩)
  | (refine ⟨_, _, _, _, rfl, rfl, SqL.of (by walk_at "hp"), rfl, ?_⟩)
  | (refine Or.inl ⟨_, rfl, ?_⟩)
  | (refine ⟨rfl, ?_⟩)
  | (refine ⟨_, _, rfl, .inl (SqL.of (by walk_at "hp")), ?_⟩)
  | (refine ⟨_, _, rfl, Or.inl (by assumption), ?_⟩)
  | (refine ⟨_, _, rfl, Or.inr (by assumption), ?_⟩)
  | (refine ⟨(by walk_at "ok"), ?_⟩)
  | (refine ⟨_, _, _, _, rfl, rfl, (by walk_at "hp"), rfl, ?_⟩))
local macro_rules | `(tactic| walk_at "go") => `(tactic| repeat (walk_at "go1"))
local macro_rules | `(tactic| walk_at "gt") => `(tactic| repeat (first | walk_at "go1" | walk_at "ty"))

section
variable {P : Program} {w : World} {K : PySem.W.Frag} {mg : Str → Option Value} {base : Heap}
-- [0=powers, 1=number, 2=at, 3=prime, 4=power] [0=powers, 1=over, 2=under, 3=prime, 4=power]
theorem bits_gt (m : Int) : m.natAbs < 2 ^ Builtin.Int.intBits m := by
  unfold Builtin.Int.intBits
  by_cases h : m = 0
  · subst h
    decide
  · rw [if_neg (by simpa using h)]
    exact Nat.lt_log2_self
theorem bits_small {m : Int} {k : Nat} (h : m.natAbs < 2 ^ k) : Builtin.Int.intBits m ≤ k := PyProof.Rows.intBits_le h
theorem bit_val (a k : Nat) : ((a : Int) / 2 ^ k).fmod 2 = ((a / 2 ^ k % 2 : Nat) : Int) := by
  rw [Int.fmod_eq_emod_of_nonneg _ (by decide)]
  norm_cast
theorem cut1 (x : V) (xs : List V) : cutV (x :: xs) (some 1) none = xs := by
  unfold cutV
  have e1 : HT.sIx (x :: xs).length 0 (some 1) = 1 := by
    unfold HT.sIx
    simp
  have e2 : HT.sIx (x :: xs).length (x :: xs).length none = (x :: xs).length := rfl
  rw [e1, e2]
  simp
def ps5 : List Nat := [3, 5, 7, 11, 13]
theorem ps5_two : ∀ p ∈ ps5, 2 ≤ p := by decide
def spMade (K : PySem.W.Frag) : Sp := fun vs H Q _ => ∃ (a : Addr) (as : List Nat), vs = [.ref a] ∧ SqL K H a (nL as) ∧ as.length = 6 ∧ pp prs as < 2 ^ 100000 ∧ ∀ H', Same H H' → Q (.int ((pp prs as : Nat) : Int)) H'
theorem ok_made_of (T : Tx K mg) : FnOk P w K mg base CX0 1 T.f__made_of T.d__made_of ["powers"] (spMade K) := by
  refine T.F__made_of.ok sc__made_of (fun vs H Q E h => ?_) (fun cdv A outer s H vs Q E hr h => ?_)
  · obtain ⟨a, as, rfl, _⟩ := h
    rfl
  obtain ⟨a, as, rfl, ha, hl, hu, q⟩ := h
  have nd := sc__made_of.nd
  refine ⟨_, (pss_cons (ps_set (i := 1) nd rfl (Or.inl rfl) pe_int)
    (pss_cons (ps_for PassesOwn.never rfl (pi_revR (by rfl) T.z_reversed (prg_1 (by rfl) T.z_range (pe_bits (pe_callB (show CallR _ _ (rMaxS K) from cr_maxS rfl) (by rfl) T.z_max (by decide +kernel) (pa_cons (pv 0) pa_nil))))) (pg_name (i := 2) nd rfl (Or.inl rfl)) (pss_cons (ps_set (i := 1) nd rfl (Or.inl rfl) (pe_op op_mulW (pv 1) (pv 1)))
    (pss_one (ps_for PassesOwn.never rfl (show PI _ _ _ (iZipP K _) from pi_zipP (by rfl) T.z_zip (pa_cons (pe_slice (show SlR _ (rSlT K) from sl_tup) (pe_glob (v := .ref T.e_PRIMES) (by rfl) T.m_PRIMES rfl) (po_some pe_int) po_none) (pa_cons (pe_slice (show SlR _ (rSlL K) from sl_list) (pv 0) (po_some pe_int) po_none) pa_nil))) (pg_tup rfl (pgs_cons (pg_name (i := 3) nd rfl (Or.inl rfl)) (pgs_cons (pg_name (i := 4) nd rfl (Or.inl rfl)) pgs_nil))) (pss_one (ps_if (pt_cmpR op_eq (pe_op op_modN (pe_op op_shrN (pv 4) (pv 2)) pe_int) pe_int (nomark _)) (pss_one (ps_set (i := 1) nd rfl (Or.inl rfl) (pe_op op_mulW (pv 1) (pv 3)))) pss_nil))))))
    (pss_one (ps_ret (pe_op op_shlN (pv 1) (pe_ix (show IxR _ (rIxL K) from ix_list) (pv 0) pe_int (fun _ _ => rfl))))))), ?_⟩
  obtain ⟨a0, as5, rfl, hl5⟩ : ∃ a0 as5, as = a0 :: as5 ∧ as5.length = 5 := by
    match as, hl with
    | a0 :: as5, h => exact ⟨a0, as5, rfl, Nat.succ.inj h⟩
  have pe : pp prs (a0 :: as5) = 2 ^ a0 * pp ps5 as5 := rfl
  have hu5 : pp ps5 as5 ≤ pp prs (a0 :: as5) := by rw [pe]; exact Nat.le_mul_of_pos_left _ (Nat.pow_pos (by decide))
  have hb : ∀ {b : Nat}, b ≤ pp ps5 as5 → ((b : Int)).natAbs < 2 ^ 100000 := fun h => Nat.lt_of_le_of_lt (by rw [Int.natAbs_natCast]; exact Nat.le_trans h hu5) hu
  have hlt : ∀ x ∈ (a0 :: as5), x < 100000 := fun x hx => (Nat.pow_lt_pow_iff_right (by decide : 1 < 2)).mp (Nat.lt_of_le_of_lt (pp_ge (ps := prs) (by decide) (by rw [hl]; decide) x hx) hu)
  have hsh : CShl ((pp ps5 as5 : Nat) : Int) (a0 : Int) := shl_ok (hb (Nat.le_refl _)) (by
    have := hlt a0 (List.mem_cons_self ..)
    clear hu hb hlt
    omega)
  clear hu
  refine ⟨_, rfl, a, (a0 :: as5).map (fun n : Nat => (n : Int)), rfl, .inl (by rw [← nL_int]; exact ha), by rw [List.length_map, hl]; decide, fun m hm hle => ?_⟩
  have hm0 : 0 ≤ m := by
    obtain ⟨x, _, rfl⟩ := List.mem_map.mp hm
    omega
  have hm1 : m.natAbs < 2 ^ 17 := by
    obtain ⟨x, hx, rfl⟩ := List.mem_map.mp hm
    have := hlt x hx
    rw [Int.natAbs_natCast]
    exact Nat.lt_trans this (by decide)
  have hn := bits_small hm1
  have hmb := bits_gt m
  obtain ⟨n, en⟩ : ∃ n, n = Builtin.Int.intBits m := ⟨_, rfl⟩
  rw [← en] at hn hmb
  have hall : ∀ x ∈ as5, x < 2 ^ n := fun x hx => by
    have := hle x (List.mem_map.mpr ⟨x, List.mem_cons_of_mem _ hx, rfl⟩)
    have : x ≤ m.natAbs := by omega
    omega
  have shr_le : ∀ k, pp ps5 (shrE k as5) ≤ pp ps5 as5 := fun k => pp_shr_le k ps5_two
  refine ⟨m, rfl, (n : Int), by rw [en], by decide, by decide, (by clear hb hlt; omega), (by clear hb hlt; omega), for_rangeC (fun i σ H' => Same H H' ∧ ∃ a2 a3 a4, σ = [some (.ref a), some (.int ((pp ps5 (shrE (n - i) as5) : Nat) : Int)), a2, a3, a4]) ⟨Same.refl _, none, none, none, ?_⟩ ?_ ?_⟩
  · rw [Nat.sub_zero, shr_top hall]
    rfl
  · rintro i σ H1 hi ⟨s1, a2, a3, a4, rfl⟩
    replace hi : i < n := by omega
    have ek : (0 + ((((n : Int) - 0).toNat : Nat) : Int) - 1) + ((i : Nat) : Int) * (-1) = ((n - 1 - i : Nat) : Int) := by omega
    rw [ek]
    obtain ⟨k, hk⟩ : ∃ k, k = n - 1 - i := ⟨_, rfl⟩
    rw [← hk]
    have hk1 : n - i = k + 1 := by omega
    rw [hk1]
    have st := pp_step k ps5 as5
    have bpos : 0 < pp ps5 (bitE k as5) := pp_pos2 _ ps5_two
    have sq_le : pp ps5 (shrE (k + 1) as5) * pp ps5 (shrE (k + 1) as5) ≤ pp ps5 as5 := Nat.le_trans (Nat.le_mul_of_pos_right _ bpos) (by rw [← st]; exact shr_le k)
    refine ⟨_, rfl, _, rfl, _, _, rfl, rfl, wide_mul (hb (shr_le _)) (hb (shr_le _)) (by decide) (by decide) (by decide), ?_⟩
    have c1 : cutV (nL prs) (some 1) none = nL ps5 := cut1 (.int ((2 : Nat) : Int)) (nL ps5)
    have c2 : cutV (nL (a0 :: as5)) (some 1) none = nL as5 := cut1 (.int (a0 : Int)) (nL as5)
    refine ⟨1, rfl, T.e_PRIMES, nL prs, rfl, T.q_PRIMES _, by decide, fun pA hpA => ?_⟩
    have sA := s1.trans (Same.new (o := .tup (cutV (nL prs) (some 1) none)) hpA)
    refine ⟨_, rfl, 1, rfl, a, nL (a0 :: as5), rfl, sA.seq ha, fun pB hpB => ?_⟩
    have sB := sA.trans (Same.new (o := .lst (cutV (nL (a0 :: as5)) (some 1) none)) hpB)
    have hT := Same.new (o := .lst (cutV (nL (a0 :: as5)) (some 1) none)) hpB _ _ (upd_same (H := H1) (a := pA) (o := .tup (cutV (nL prs) (some 1) none)))
    have hL := upd_same (H := upd H1 pA (.tup (cutV (nL prs) (some 1) none))) (a := pB) (o := .lst (cutV (nL (a0 :: as5)) (some 1) none))
    generalize upd (upd H1 pA (.tup (cutV (nL prs) (some 1) none))) pB (.lst (cutV (nL (a0 :: as5)) (some 1) none)) = H2 at *
    rw [c1] at hT
    rw [c2] at hL
    clear sA hpA hpB c1 c2
    have l5 : (nL ps5).length = (nL as5).length := by rw [List.length_map, List.length_map, hl5]; rfl
    refine ⟨pA, pB, nL ps5, nL as5, rfl, SqT.of hT, .inl (SqL.of hL), fun J z => ?_⟩
    obtain ⟨G, wz, wG⟩ := z.walk (xs := nL ps5) (SqT.of hT) l5
    refine for_it wz (fun j σ H' => Same H2 H' ∧ ∃ a3 a4, σ = [some (.ref a), some (.int ((pp ps5 (shrE (k + 1) as5) * pp ps5 (shrE (k + 1) as5) * pp (ps5.take j) ((bitE k as5).take j) : Nat) : Int)), some (.int (k : Int)), a3, a4]) ⟨Same.refl _, a3, a4, ?_⟩ (fun j σ H' _ h => wG H' h.1) ?_ ?_
    · rw [show pp (ps5.take 0) ((bitE k as5).take 0) = 1 from rfl, Nat.mul_one]
      rfl
    · rintro j v σ H3 H4 hj ⟨s3, b3, b4, rfl⟩ ⟨t, x, y, rfl, ht, rfl, hx, hy⟩
      replace hj : j < 5 := hj
      have hx' : (ps5.map fun n : Nat => V.int (n : Int))[j]? = some x := hx
      have hy' : (as5.map fun n : Nat => V.int (n : Int))[j]? = some y := hy
      rw [List.getElem?_map] at hx' hy'
      obtain ⟨p, hp, rfl⟩ := Option.map_eq_some_iff.mp hx'
      obtain ⟨b, hb', rfl⟩ := Option.map_eq_some_iff.mp hy'
      have hbit : (bitE k as5)[j]? = some (b / 2 ^ k % 2) := by rw [bitE, List.getElem?_map, hb']; rfl
      have pt := pp_take (ps := ps5) hp hbit
      have p13 : p < 2 ^ 5 := by
        have : ∀ q ∈ ps5, q < 2 ^ 5 := by decide
        exact this p (List.mem_of_getElem? hp)
      have s4 := Same.new (o := .tup [.int (p : Int), .int (b : Int)]) ht
      refine ⟨t, _, rfl, SqT.of upd_same, rfl, _, _, rfl, _, _, rfl, rfl, ?_⟩
      refine ⟨_, rfl, _, rfl, (b : Int), k, rfl, rfl, _, _, rfl, rfl, (by show (2 : Int) ≠ 0; decide), rfl, _, rfl, ?_⟩
      have bv := bit_val b k
      have tk : pp (ps5.take j) ((bitE k as5).take j) ≤ pp ps5 (bitE k as5) := by
        rw [pp_split j ps5 (bitE k as5) (by rw [bitE, List.length_map, hl5]; rfl)]
        exact Nat.le_mul_of_pos_right _ (pp_pos2 _ fun q hq => ps5_two q (List.mem_of_mem_drop hq))
      have le2 : pp ps5 (shrE (k + 1) as5) * pp ps5 (shrE (k + 1) as5) * pp (ps5.take j) ((bitE k as5).take j) ≤ pp ps5 as5 := Nat.le_trans (Nat.mul_le_mul_left _ tk) (by rw [← st]; exact shr_le k)
      refine ite2 (fun c => ?_) (fun c => ?_)
      · have c' : b / 2 ^ k % 2 = 1 := by
          have h1 : V.int (((b : Int) / 2 ^ k).fmod 2) = V.int 1 := of_decide_eq_true c
          rw [V.int.injEq, bv] at h1
          omega
        rw [c', Nat.pow_one] at pt
        refine ⟨_, rfl, _, rfl, _, _, rfl, rfl, wide_mul (hb le2) (show ((p : Int)).natAbs < 2 ^ 5 by rw [Int.natAbs_natCast]; exact p13) (by decide) (by decide) (by decide), s3.trans s4, some (.int (p : Int)), some (.int (b : Int)), ?_⟩
        rw [pt, ← Nat.mul_assoc]
        rfl
      · have c' : b / 2 ^ k % 2 = 0 := by
          have : ¬ b / 2 ^ k % 2 = 1 := fun e => c (decide_eq_true (show V.int (((b : Int) / 2 ^ k).fmod 2) = V.int 1 by rw [bv, e]; rfl))
          exact (Nat.mod_two_eq_zero_or_one _).resolve_right this
        rw [c', Nat.pow_zero, Nat.mul_one] at pt
        refine ⟨s3.trans s4, some (.int (p : Int)), some (.int (b : Int)), ?_⟩
        rw [pt]
        rfl
    · rintro σ H3 ⟨s3, b3, b4, rfl⟩
      refine ⟨sB.trans s3, some (.int (k : Int)), b3, b4, ?_⟩
      have t5 : (bitE k as5).take 5 = bitE k as5 := List.take_of_length_le (by rw [bitE, List.length_map, hl5]; decide)
      rw [show (nL ps5).length = 5 from rfl, t5, show ps5.take 5 = ps5 from rfl, ← st, show n - (i + 1) = k by omega]
  · rintro σ H1 ⟨s1, a2, a3, a4, rfl⟩
    dsimp only
    rw [show n - ((n : Int) - 0).toNat = 0 by omega, shr_zero]
    refine ⟨_, rfl, _, rfl, _, _, _, .int (a0 : Int), rfl, rfl, s1.seq ha, at_of (j := 0) rfl rfl, _, a0, rfl, rfl, hsh, ?_⟩
    have e := q H1 s1
    rw [pe, Nat.mul_comm] at e
    rw [show ((pp ps5 as5 : Nat) : Int) * 2 ^ a0 = ((pp ps5 as5 * 2 ^ a0 : Nat) : Int) by rw [Int.natCast_mul, Int.natCast_pow]; rfl]
    exact e
def WF (H : Hp) (a : Addr) (e : List Int) (i : Nat) (σ : L2.St) (H' : Hp) : Prop := Same H H' ∧ ∃ a3 a4, σ = [some (.ref a), some (.int ((pp (prs.take i) ((upE e).take i) : Nat) : Int)), some (.int ((pp (prs.take i) ((dnE e).take i) : Nat) : Int)), a3, a4]
theorem map_pos (e : List Int) : (e.map fun x => if x > 0 then x else 0).map V.int = nL (upE e) := by
  rw [nL, upE, List.map_map, List.map_map]
  refine List.map_congr_left fun x _ => ?_
  show V.int (if x > 0 then x else 0) = V.int ((x.toNat : Nat) : Int)
  rw [V.int.injEq]
  split <;> omega
theorem map_neg (e : List Int) : (e.map fun x => if -x > 0 then -x else 0).map V.int = nL (dnE e) := by
  rw [nL, dnE, List.map_map, List.map_map]
  refine List.map_congr_left fun x _ => ?_
  show V.int (if -x > 0 then -x else 0) = V.int (((-x).toNat : Nat) : Int)
  rw [V.int.injEq]
  split <;> omega
def spFrac (K : PySem.W.Frag) : Sp := fun vs H Q _ => ∃ (a : Addr) (e : List Int), vs = [.ref a] ∧ Sq K H a (e.map V.int) ∧ e.length = 6 ∧ up e < 2 ^ 100000 ∧ dn e < 2 ^ 100000 ∧ ∀ t H', Same H H' → SqT K H' t [.int ((up e : Nat) : Int), .int ((dn e : Nat) : Int)] → Q (.ref t) H'
theorem take_pos (i : Nat) (as : List Nat) : 0 < pp (prs.take i) (as.take i) := pp_pos _ (pc_take i pc_prs)
theorem ok_fraction_of (T : Tx K mg) : FnOk P w K mg base CX0 2 T.f__fraction_of T.d__fraction_of ["powers"] (spFrac K) := by
  have G__raised := ok_raised (P := P) (w := w) (base := base) T
  have G__made_of := ok_made_of (P := P) (w := w) (base := base) T
  refine T.F__fraction_of.ok sc__fraction_of (fun vs H Q E h => ?_) (fun cdv A outer s H vs Q E hr h => ?_)
  · obtain ⟨a, e, rfl, _⟩ := h
    rfl
  obtain ⟨a, e, rfl, ha, hl, hu, hd, q⟩ := h
  have nd := sc__fraction_of.nd
  rcases ha with ha | ha
  · refine ⟨_, (pss_cut (ps_if (PW.pt (pw_or (pt_cmpR op_gt (pe_callB (show CallR _ _ (rMaxS K) from cr_maxS rfl) (by rfl) T.z_max (by decide +kernel) (pa_cons (pv 0) pa_nil)) (pe_glob (v := .int 500) (by rfl) T.m_MANY ⟨_, rfl⟩) (nomark _)) (pw_or1 (pt_cmpR op_lt (pe_callB (show CallR _ _ (rMinS K) from cr_minS rfl) (by rfl) T.z_min (by decide +kernel) (pa_cons (pv 0) pa_nil)) (pe_un un_neg (pe_glob (v := .int 500) (by rfl) T.m_MANY ⟨_, rfl⟩)) (nomark _))))) (pss_one (ps_ret (pe_tup (pa_cons (pe_call G__made_of hr (by rfl) T.m__made_of T.F__made_of.kp T.b__made_of .nil pass0 (pa_cons (pe_lc (own := [("power", 4)]) (g := (gName 4)) rfl nd (show PI _ _ _ (iList K _) from pi_list (pv 0)) (blkOk_by (own := [("power", 4)]) (N := N__fraction_of) (sc := defScope s__fraction_of) (by decide +kernel)) (fun _ _ _ _ _ => by exact (pg_name (i := 4) nd rfl (Or.inl rfl))) (fun _ _ _ _ _ => by exact pts_nil) (fun _ _ _ _ _ => by exact (pe_callB (call_max2 rfl) (by rfl) T.z_max (by decide +kernel) (pa_cons pe_int (pa_cons (pv 4) pa_nil))))) pa_nil)) (pa_cons (pe_call G__made_of hr (by rfl) T.m__made_of T.F__made_of.kp T.b__made_of .nil pass0 (pa_cons (pe_lc (own := [("power", 4)]) (g := (gName 4)) rfl nd (show PI _ _ _ (iList K _) from pi_list (pv 0)) (blkOk_by (own := [("power", 4)]) (N := N__fraction_of) (sc := defScope s__fraction_of) (by decide +kernel)) (fun _ _ _ _ _ => by exact (pg_name (i := 4) nd rfl (Or.inl rfl))) (fun _ _ _ _ _ => by exact pts_nil) (fun _ _ _ _ _ => by exact (pe_callB (call_max2 rfl) (by rfl) T.z_max (by decide +kernel) (pa_cons pe_int (pa_cons (pe_un un_neg (pv 4)) pa_nil))))) pa_nil)) pa_nil))))) pss_nil)
    (pss_cons (ps_set (i := 1) nd rfl (Or.inl rfl) pe_int)
    (pss_cons (ps_set (i := 2) nd rfl (Or.inl rfl) pe_int)
    (pss_cons (ps_for PassesOwn.never rfl (show PI _ _ _ (iZipP K _) from pi_zipP (by rfl) T.z_zip (pa_cons (pe_glob (v := .ref T.e_PRIMES) (by rfl) T.m_PRIMES rfl) (pa_cons (pv 0) pa_nil))) (pg_tup rfl (pgs_cons (pg_name (i := 3) nd rfl (Or.inl rfl)) (pgs_cons (pg_name (i := 4) nd rfl (Or.inl rfl)) pgs_nil))) (pss_one (ps_if (pt_cmpR op_gt (pv 4) pe_int (nomark _)) (pss_one (ps_set (i := 1) nd rfl (Or.inl rfl) (pe_op op_mulW (pv 1) (pe_call G__raised hr (by rfl) T.m__raised T.F__raised.kp T.b__raised .nil pass0 (pa_cons (pv 3) (pa_cons (pv 4) pa_nil)))))) (pss_one (ps_if (pt_cmpR op_lt (pv 4) pe_int (nomark _)) (pss_one (ps_set (i := 2) nd rfl (Or.inl rfl) (pe_op op_mulW (pv 2) (pe_call G__raised hr (by rfl) T.m__raised T.F__raised.kp T.b__raised .nil pass0 (pa_cons (pv 3) (pa_cons (pe_un un_neg (pv 4)) pa_nil)))))) pss_nil)))))
    (pss_one (ps_ret (pe_tup (pa_cons (pv 1) (pa_cons (pv 2) pa_nil))))))))), ?_⟩
    refine ⟨fun σ' H' => σ' = L2.start N__fraction_of [.ref a] ∧ H = H', ?_, ?_⟩
    · refine ⟨_, rfl, a, e, rfl, .inl ha, by rw [hl]; decide, fun m hm hle => ⟨_, _, rfl, rfl, _, rfl, ?_⟩⟩
      refine ite2 (fun c => ?_) (fun c => ?_)
      · refine ⟨_, rfl, a, rfl, ⟨_, ha⟩, fun D hD => ?_⟩
        refine lc_mapL (f := fun x => if x > 0 then x else 0) ha (by rw [hl]; decide) hD (fun u => rfl) (fun u H1 k hu hk => ⟨_, rfl, _, _, rfl, hk⟩) fun H1 s1 hD1 => ?_
        rw [map_pos] at hD1
        refine ⟨D, upE e, rfl, SqL.of hD1, by rw [upE, List.length_map, hl], hu, fun H2 s2 => ?_⟩
        have s12 := s1.trans s2
        refine ⟨_, rfl, a, rfl, ⟨_, s12.seq ha⟩, fun D2 hD2 => ?_⟩
        refine lc_mapL (f := fun x => if -x > 0 then -x else 0) (s12.seq ha) (by rw [hl]; decide) hD2 (fun u => rfl) (fun u H1 k hu hk => ⟨_, rfl, _, rfl, _, _, rfl, hk⟩) fun H3 s3 hD3 => ?_
        rw [map_neg] at hD3
        refine ⟨D2, dnE e, rfl, SqL.of hD3, by rw [dnE, List.length_map, hl], hd, fun H4 s4 => ?_⟩
        exact ⟨(by show 2 ≤ sizeLine; decide), fun t ht => q t _ (((s12.trans s3).trans s4).trans (Same.new ht)) (SqT.of upd_same)⟩
      · refine ⟨_, rfl, a, e, rfl, .inl ha, by rw [hl]; decide, fun m2 hm2 hle2 => ⟨500, rfl, m2, -500, rfl, rfl, _, rfl, ?_⟩⟩
        refine ite2 (fun c2 => ?_) (fun c2 => ⟨rfl, rfl⟩)
        refine ⟨_, rfl, a, rfl, ⟨_, ha⟩, fun D hD => ?_⟩
        refine lc_mapL (f := fun x => if x > 0 then x else 0) ha (by rw [hl]; decide) hD (fun u => rfl) (fun u H1 k hu hk => ⟨_, rfl, _, _, rfl, hk⟩) fun H1 s1 hD1 => ?_
        rw [map_pos] at hD1
        refine ⟨D, upE e, rfl, SqL.of hD1, by rw [upE, List.length_map, hl], hu, fun H2 s2 => ?_⟩
        have s12 := s1.trans s2
        refine ⟨_, rfl, a, rfl, ⟨_, s12.seq ha⟩, fun D2 hD2 => ?_⟩
        refine lc_mapL (f := fun x => if -x > 0 then -x else 0) (s12.seq ha) (by rw [hl]; decide) hD2 (fun u => rfl) (fun u H1 k hu hk => ⟨_, rfl, _, rfl, _, _, rfl, hk⟩) fun H3 s3 hD3 => ?_
        rw [map_neg] at hD3
        refine ⟨D2, dnE e, rfl, SqL.of hD3, by rw [dnE, List.length_map, hl], hd, fun H4 s4 => ?_⟩
        exact ⟨(by show 2 ≤ sizeLine; decide), fun t ht => q t _ (((s12.trans s3).trans s4).trans (Same.new ht)) (SqT.of upd_same)⟩
    · rintro σ' H' ⟨rfl, rfl⟩
      refine ⟨_, rfl, T.e_PRIMES, a, nL prs, e.map V.int, rfl, T.q_PRIMES _, .inl ha, fun J z => ?_⟩
      have hu6 : (upE e).length = 6 := by simpa [upE] using hl
      have hd6 : (dnE e).length = 6 := by simpa [dnE] using hl
      obtain ⟨G, wz, wG⟩ := z.walk (xs := nL prs) (T.q_PRIMES _) (by show 6 = _; rw [List.length_map, hl])
      refine for_it wz (WF H a e) ⟨Same.refl _, _, _, rfl⟩ (fun i σ H' _ h => wG H' h.1) ?_ ?_
      · rintro i v σ H1 H2 hi ⟨s1, a3, a4, rfl⟩ ⟨t, x, y, rfl, ht, rfl, hx, hy⟩
        replace hi : i < 6 := hi
        obtain ⟨pr, a, e1, e2, g1, g2, g3, g4, g5⟩ := pp_drop hi hu6
        obtain rfl : x = .int (pr : Nat) := by
          have hx' : (nL prs)[i]? = some x := hx
          rw [List.getElem?_map, e1] at hx'
          exact (Option.some.inj hx').symm
        have hy' : (e.map V.int)[i]? = some y := hy
        rw [List.getElem?_map] at hy'
        obtain ⟨k, hk, rfl⟩ := Option.map_eq_some_iff.mp hy'
        obtain rfl : k.toNat = a := by
          rw [upE, List.getElem?_map, hk] at e2
          exact Option.some.inj e2
        have e3 : (dnE e)[i]? = some (-k).toNat := by rw [dnE, List.getElem?_map, hk]; rfl
        have pu := pp_take (ps := prs) e1 e2
        have pd := pp_take (ps := prs) e1 e3
        have bu := pp_take_le (i := i + 1) hu6
        have bd := pp_take_le (i := i + 1) hd6
        rw [pu] at bu
        rw [pd] at bd
        have st := Same.new (o := .tup [.int (pr : Nat), .int k]) ht
        refine ⟨t, _, rfl, SqT.of upd_same, rfl, _, _, rfl, _, _, rfl, rfl, ?_⟩
        have pos1 : 0 < pp (prs.take i) ((upE e).take i) := Nat.pos_of_mul_pos_right (by rw [← pu]; exact take_pos _ _)
        have pos2 : 0 < pp (prs.take i) ((dnE e).take i) := Nat.pos_of_mul_pos_right (by rw [← pd]; exact take_pos _ _)
        have hpr : 0 < pr := by omega
        have nb : ∀ {u v : Nat}, u ≤ v → v < 2 ^ 100000 → ((u : Int)).natAbs < 2 ^ 100000 := fun h1 h2 => Nat.lt_of_le_of_lt (by rw [Int.natAbs_natCast]; exact h1) h2
        have u1 : pp (prs.take i) ((upE e).take i) ≤ up e := Nat.le_trans (Nat.le_mul_of_pos_right _ (Nat.pow_pos hpr)) bu
        have u2 : pr ^ k.toNat ≤ up e := Nat.le_trans (Nat.le_mul_of_pos_left _ pos1) bu
        have d1 : pp (prs.take i) ((dnE e).take i) ≤ dn e := Nat.le_trans (Nat.le_mul_of_pos_right _ (Nat.pow_pos hpr)) bd
        have d2 : pr ^ (-k).toNat ≤ dn e := Nat.le_trans (Nat.le_mul_of_pos_left _ pos2) bd
        by_cases c1 : 0 < k
        · refine ⟨_, rfl, _, _, rfl, rfl, true, congrArg V.bl (decide_eq_true c1), ?_⟩
          refine ⟨_, rfl, _, rfl, _, rfl, pr, k.toNat, by rw [Int.toNat_of_nonneg (by omega)]; rfl, hpr, Nat.lt_of_le_of_lt u2 hu, fun H3 s3 => ?_⟩
          refine ⟨_, _, rfl, rfl, wide_mul (nb u1 hu) (nb u2 hu) (by decide) (by decide) (by decide), ?_⟩
          refine ⟨(s1.trans st).trans s3, some (.int (pr : Nat)), some (.int k), ?_⟩
          rw [pu, pd, show (-k).toNat = 0 by omega, Nat.pow_zero, Nat.mul_one]
          rfl
        · refine ⟨_, rfl, _, _, rfl, rfl, false, congrArg V.bl (decide_eq_false c1), ?_⟩
          by_cases c2 : k < 0
          · refine ⟨_, rfl, _, _, rfl, rfl, true, congrArg V.bl (decide_eq_true c2), ?_⟩
            refine ⟨_, rfl, _, rfl, _, rfl, _, rfl, pr, (-k).toNat, by rw [Int.toNat_of_nonneg (by omega)]; rfl, hpr, Nat.lt_of_le_of_lt d2 hd, fun H3 s3 => ?_⟩
            refine ⟨_, _, rfl, rfl, wide_mul (nb d1 hd) (nb d2 hd) (by decide) (by decide) (by decide), ?_⟩
            refine ⟨(s1.trans st).trans s3, some (.int (pr : Nat)), some (.int k), ?_⟩
            rw [pu, pd, show k.toNat = 0 by omega, Nat.pow_zero, Nat.mul_one]
            rfl
          · refine ⟨_, rfl, _, _, rfl, rfl, false, congrArg V.bl (decide_eq_false c2), ?_⟩
            refine ⟨s1.trans st, some (.int (pr : Nat)), some (.int k), ?_⟩
            rw [pu, pd, show k.toNat = 0 by omega, show (-k).toNat = 0 by omega, Nat.pow_zero, Nat.mul_one, Nat.mul_one]
            rfl
      · rintro σ H1 ⟨s1, a3, a4, rfl⟩
        have tu : pp (prs.take (nL prs).length) ((upE e).take (nL prs).length) = up e := by
          rw [show (nL prs).length = 6 from rfl, List.take_of_length_le (Nat.le_of_eq hu6)]
          rfl
        have td : pp (prs.take (nL prs).length) ((dnE e).take (nL prs).length) = dn e := by
          rw [show (nL prs).length = 6 from rfl, List.take_of_length_le (Nat.le_of_eq hd6)]
          rfl
        rw [tu, td]
        exact ⟨_, rfl, _, rfl, (by show 2 ≤ sizeLine; decide), fun t ht => q t _ (s1.trans (Same.new ht)) (SqT.of upd_same)⟩
  · refine ⟨_, (pss_cut (ps_if (PW.pt (pw_or (pt_cmpR op_gt (pe_callB (show CallR _ _ (rMaxS K) from cr_maxS rfl) (by rfl) T.z_max (by decide +kernel) (pa_cons (pv 0) pa_nil)) (pe_glob (v := .int 500) (by rfl) T.m_MANY ⟨_, rfl⟩) (nomark _)) (pw_or1 (pt_cmpR op_lt (pe_callB (show CallR _ _ (rMinS K) from cr_minS rfl) (by rfl) T.z_min (by decide +kernel) (pa_cons (pv 0) pa_nil)) (pe_un un_neg (pe_glob (v := .int 500) (by rfl) T.m_MANY ⟨_, rfl⟩)) (nomark _))))) (pss_one (ps_ret (pe_tup (pa_cons (pe_call G__made_of hr (by rfl) T.m__made_of T.F__made_of.kp T.b__made_of .nil pass0 (pa_cons (pe_lc (own := [("power", 4)]) (g := (gName 4)) rfl nd (show PI _ _ _ (iTup K _) from pi_tup (pv 0)) (blkOk_by (own := [("power", 4)]) (N := N__fraction_of) (sc := defScope s__fraction_of) (by decide +kernel)) (fun _ _ _ _ _ => by exact (pg_name (i := 4) nd rfl (Or.inl rfl))) (fun _ _ _ _ _ => by exact pts_nil) (fun _ _ _ _ _ => by exact (pe_callB (call_max2 rfl) (by rfl) T.z_max (by decide +kernel) (pa_cons pe_int (pa_cons (pv 4) pa_nil))))) pa_nil)) (pa_cons (pe_call G__made_of hr (by rfl) T.m__made_of T.F__made_of.kp T.b__made_of .nil pass0 (pa_cons (pe_lc (own := [("power", 4)]) (g := (gName 4)) rfl nd (show PI _ _ _ (iTup K _) from pi_tup (pv 0)) (blkOk_by (own := [("power", 4)]) (N := N__fraction_of) (sc := defScope s__fraction_of) (by decide +kernel)) (fun _ _ _ _ _ => by exact (pg_name (i := 4) nd rfl (Or.inl rfl))) (fun _ _ _ _ _ => by exact pts_nil) (fun _ _ _ _ _ => by exact (pe_callB (call_max2 rfl) (by rfl) T.z_max (by decide +kernel) (pa_cons pe_int (pa_cons (pe_un un_neg (pv 4)) pa_nil))))) pa_nil)) pa_nil))))) pss_nil)
    (pss_cons (ps_set (i := 1) nd rfl (Or.inl rfl) pe_int)
    (pss_cons (ps_set (i := 2) nd rfl (Or.inl rfl) pe_int)
    (pss_cons (ps_for PassesOwn.never rfl (show PI _ _ _ (iZipP K _) from pi_zipP (by rfl) T.z_zip (pa_cons (pe_glob (v := .ref T.e_PRIMES) (by rfl) T.m_PRIMES rfl) (pa_cons (pv 0) pa_nil))) (pg_tup rfl (pgs_cons (pg_name (i := 3) nd rfl (Or.inl rfl)) (pgs_cons (pg_name (i := 4) nd rfl (Or.inl rfl)) pgs_nil))) (pss_one (ps_if (pt_cmpR op_gt (pv 4) pe_int (nomark _)) (pss_one (ps_set (i := 1) nd rfl (Or.inl rfl) (pe_op op_mulW (pv 1) (pe_call G__raised hr (by rfl) T.m__raised T.F__raised.kp T.b__raised .nil pass0 (pa_cons (pv 3) (pa_cons (pv 4) pa_nil)))))) (pss_one (ps_if (pt_cmpR op_lt (pv 4) pe_int (nomark _)) (pss_one (ps_set (i := 2) nd rfl (Or.inl rfl) (pe_op op_mulW (pv 2) (pe_call G__raised hr (by rfl) T.m__raised T.F__raised.kp T.b__raised .nil pass0 (pa_cons (pv 3) (pa_cons (pe_un un_neg (pv 4)) pa_nil)))))) pss_nil)))))
    (pss_one (ps_ret (pe_tup (pa_cons (pv 1) (pa_cons (pv 2) pa_nil))))))))), ?_⟩
    refine ⟨fun σ' H' => σ' = L2.start N__fraction_of [.ref a] ∧ H = H', ?_, ?_⟩
    · refine ⟨_, rfl, a, e, rfl, .inr ha, by rw [hl]; decide, fun m hm hle => ⟨_, _, rfl, rfl, _, rfl, ?_⟩⟩
      refine ite2 (fun c => ?_) (fun c => ?_)
      · refine ⟨_, rfl, a, rfl, ⟨_, ha⟩, fun D hD => ?_⟩
        refine lc_mapT (f := fun x => if x > 0 then x else 0) ha (by rw [hl]; decide) hD (fun u => rfl) (fun u H1 k hu hk => ⟨_, rfl, _, _, rfl, hk⟩) fun H1 s1 hD1 => ?_
        rw [map_pos] at hD1
        refine ⟨D, upE e, rfl, SqL.of hD1, by rw [upE, List.length_map, hl], hu, fun H2 s2 => ?_⟩
        have s12 := s1.trans s2
        refine ⟨_, rfl, a, rfl, ⟨_, seqT s12 ha⟩, fun D2 hD2 => ?_⟩
        refine lc_mapT (f := fun x => if -x > 0 then -x else 0) (seqT s12 ha) (by rw [hl]; decide) hD2 (fun u => rfl) (fun u H1 k hu hk => ⟨_, rfl, _, rfl, _, _, rfl, hk⟩) fun H3 s3 hD3 => ?_
        rw [map_neg] at hD3
        refine ⟨D2, dnE e, rfl, SqL.of hD3, by rw [dnE, List.length_map, hl], hd, fun H4 s4 => ?_⟩
        exact ⟨(by show 2 ≤ sizeLine; decide), fun t ht => q t _ (((s12.trans s3).trans s4).trans (Same.new ht)) (SqT.of upd_same)⟩
      · refine ⟨_, rfl, a, e, rfl, .inr ha, by rw [hl]; decide, fun m2 hm2 hle2 => ⟨500, rfl, m2, -500, rfl, rfl, _, rfl, ?_⟩⟩
        refine ite2 (fun c2 => ?_) (fun c2 => ⟨rfl, rfl⟩)
        refine ⟨_, rfl, a, rfl, ⟨_, ha⟩, fun D hD => ?_⟩
        refine lc_mapT (f := fun x => if x > 0 then x else 0) ha (by rw [hl]; decide) hD (fun u => rfl) (fun u H1 k hu hk => ⟨_, rfl, _, _, rfl, hk⟩) fun H1 s1 hD1 => ?_
        rw [map_pos] at hD1
        refine ⟨D, upE e, rfl, SqL.of hD1, by rw [upE, List.length_map, hl], hu, fun H2 s2 => ?_⟩
        have s12 := s1.trans s2
        refine ⟨_, rfl, a, rfl, ⟨_, seqT s12 ha⟩, fun D2 hD2 => ?_⟩
        refine lc_mapT (f := fun x => if -x > 0 then -x else 0) (seqT s12 ha) (by rw [hl]; decide) hD2 (fun u => rfl) (fun u H1 k hu hk => ⟨_, rfl, _, rfl, _, _, rfl, hk⟩) fun H3 s3 hD3 => ?_
        rw [map_neg] at hD3
        refine ⟨D2, dnE e, rfl, SqL.of hD3, by rw [dnE, List.length_map, hl], hd, fun H4 s4 => ?_⟩
        exact ⟨(by show 2 ≤ sizeLine; decide), fun t ht => q t _ (((s12.trans s3).trans s4).trans (Same.new ht)) (SqT.of upd_same)⟩
    · rintro σ' H' ⟨rfl, rfl⟩
      refine ⟨_, rfl, T.e_PRIMES, a, nL prs, e.map V.int, rfl, T.q_PRIMES _, .inr ha, fun J z => ?_⟩
      have hu6 : (upE e).length = 6 := by simpa [upE] using hl
      have hd6 : (dnE e).length = 6 := by simpa [dnE] using hl
      obtain ⟨G, wz, wG⟩ := z.walk (xs := nL prs) (T.q_PRIMES _) (by show 6 = _; rw [List.length_map, hl])
      refine for_it wz (WF H a e) ⟨Same.refl _, _, _, rfl⟩ (fun i σ H' _ h => wG H' h.1) ?_ ?_
      · rintro i v σ H1 H2 hi ⟨s1, a3, a4, rfl⟩ ⟨t, x, y, rfl, ht, rfl, hx, hy⟩
        replace hi : i < 6 := hi
        obtain ⟨pr, a, e1, e2, g1, g2, g3, g4, g5⟩ := pp_drop hi hu6
        obtain rfl : x = .int (pr : Nat) := by
          have hx' : (nL prs)[i]? = some x := hx
          rw [List.getElem?_map, e1] at hx'
          exact (Option.some.inj hx').symm
        have hy' : (e.map V.int)[i]? = some y := hy
        rw [List.getElem?_map] at hy'
        obtain ⟨k, hk, rfl⟩ := Option.map_eq_some_iff.mp hy'
        obtain rfl : k.toNat = a := by
          rw [upE, List.getElem?_map, hk] at e2
          exact Option.some.inj e2
        have e3 : (dnE e)[i]? = some (-k).toNat := by rw [dnE, List.getElem?_map, hk]; rfl
        have pu := pp_take (ps := prs) e1 e2
        have pd := pp_take (ps := prs) e1 e3
        have bu := pp_take_le (i := i + 1) hu6
        have bd := pp_take_le (i := i + 1) hd6
        rw [pu] at bu
        rw [pd] at bd
        have st := Same.new (o := .tup [.int (pr : Nat), .int k]) ht
        refine ⟨t, _, rfl, SqT.of upd_same, rfl, _, _, rfl, _, _, rfl, rfl, ?_⟩
        have pos1 : 0 < pp (prs.take i) ((upE e).take i) := Nat.pos_of_mul_pos_right (by rw [← pu]; exact take_pos _ _)
        have pos2 : 0 < pp (prs.take i) ((dnE e).take i) := Nat.pos_of_mul_pos_right (by rw [← pd]; exact take_pos _ _)
        have hpr : 0 < pr := by omega
        have nb : ∀ {u v : Nat}, u ≤ v → v < 2 ^ 100000 → ((u : Int)).natAbs < 2 ^ 100000 := fun h1 h2 => Nat.lt_of_le_of_lt (by rw [Int.natAbs_natCast]; exact h1) h2
        have u1 : pp (prs.take i) ((upE e).take i) ≤ up e := Nat.le_trans (Nat.le_mul_of_pos_right _ (Nat.pow_pos hpr)) bu
        have u2 : pr ^ k.toNat ≤ up e := Nat.le_trans (Nat.le_mul_of_pos_left _ pos1) bu
        have d1 : pp (prs.take i) ((dnE e).take i) ≤ dn e := Nat.le_trans (Nat.le_mul_of_pos_right _ (Nat.pow_pos hpr)) bd
        have d2 : pr ^ (-k).toNat ≤ dn e := Nat.le_trans (Nat.le_mul_of_pos_left _ pos2) bd
        by_cases c1 : 0 < k
        · refine ⟨_, rfl, _, _, rfl, rfl, true, congrArg V.bl (decide_eq_true c1), ?_⟩
          refine ⟨_, rfl, _, rfl, _, rfl, pr, k.toNat, by rw [Int.toNat_of_nonneg (by omega)]; rfl, hpr, Nat.lt_of_le_of_lt u2 hu, fun H3 s3 => ?_⟩
          refine ⟨_, _, rfl, rfl, wide_mul (nb u1 hu) (nb u2 hu) (by decide) (by decide) (by decide), ?_⟩
          refine ⟨(s1.trans st).trans s3, some (.int (pr : Nat)), some (.int k), ?_⟩
          rw [pu, pd, show (-k).toNat = 0 by omega, Nat.pow_zero, Nat.mul_one]
          rfl
        · refine ⟨_, rfl, _, _, rfl, rfl, false, congrArg V.bl (decide_eq_false c1), ?_⟩
          by_cases c2 : k < 0
          · refine ⟨_, rfl, _, _, rfl, rfl, true, congrArg V.bl (decide_eq_true c2), ?_⟩
            refine ⟨_, rfl, _, rfl, _, rfl, _, rfl, pr, (-k).toNat, by rw [Int.toNat_of_nonneg (by omega)]; rfl, hpr, Nat.lt_of_le_of_lt d2 hd, fun H3 s3 => ?_⟩
            refine ⟨_, _, rfl, rfl, wide_mul (nb d1 hd) (nb d2 hd) (by decide) (by decide) (by decide), ?_⟩
            refine ⟨(s1.trans st).trans s3, some (.int (pr : Nat)), some (.int k), ?_⟩
            rw [pu, pd, show k.toNat = 0 by omega, Nat.pow_zero, Nat.mul_one]
            rfl
          · refine ⟨_, rfl, _, _, rfl, rfl, false, congrArg V.bl (decide_eq_false c2), ?_⟩
            refine ⟨s1.trans st, some (.int (pr : Nat)), some (.int k), ?_⟩
            rw [pu, pd, show k.toNat = 0 by omega, show (-k).toNat = 0 by omega, Nat.pow_zero, Nat.mul_one, Nat.mul_one]
            rfl
      · rintro σ H1 ⟨s1, a3, a4, rfl⟩
        have tu : pp (prs.take (nL prs).length) ((upE e).take (nL prs).length) = up e := by
          rw [show (nL prs).length = 6 from rfl, List.take_of_length_le (Nat.le_of_eq hu6)]
          rfl
        have td : pp (prs.take (nL prs).length) ((dnE e).take (nL prs).length) = dn e := by
          rw [show (nL prs).length = 6 from rfl, List.take_of_length_le (Nat.le_of_eq hd6)]
          rfl
        rw [tu, td]
        exact ⟨_, rfl, _, rfl, (by show 2 ≤ sizeLine; decide), fun t ht => q t _ (s1.trans (Same.new ht)) (SqT.of upd_same)⟩
def spWith (K : PySem.W.Frag) (C : Addr) : Sp := fun vs H Q _ => ∃ (a : Addr) (e : List Int), vs = [.ref a] ∧ Sq K H a (e.map V.int) ∧ e.length = 6 ∧ up e < 2 ^ 100000 ∧ dn e < 2 ^ 100000 ∧ ∀ t H', Same H H' → RAt K C H' t e → Q (.ref t) H'
theorem rf3 (a b u d : Nat) (s t : Addr) : putF "_powers" (V.ref t) (putF "under" (V.int (d : Int)) (putF "over" (V.int (u : Int)) (rf a b s))) = rf u d t := by
  show putF "_powers" (V.ref t) (putF "under" (V.int (d : Int)) (if ("over" : Str) = "over" then (("over" : Str), V.int (u : Int)) :: [("under", V.int (b : Int)), ("_powers", V.ref s)] else _)) = _
  rw [if_pos rfl]
  show putF "_powers" (V.ref t) (if ("over" : Str) = "under" then _ else (("over" : Str), V.int (u : Int)) :: (if ("under" : Str) = "under" then (("under" : Str), V.int (d : Int)) :: [("_powers", V.ref s)] else _)) = _
  rw [if_neg nov, if_pos rfl]
  show (if ("over" : Str) = "_powers" then _ else (("over" : Str), V.int (u : Int)) :: (if ("under" : Str) = "_powers" then _ else (("under" : Str), V.int (d : Int)) :: (if ("_powers" : Str) = "_powers" then [(("_powers" : Str), V.ref t)] else _))) = _
  rw [if_neg nop, if_neg nup, if_pos rfl]
  rfl
theorem ok_with (T : Tx K mg) : FnOk P w K mg base CX0 6 T.f_ratio_with T.d_ratio_with ["powers"] (spWith K T.C_Ratio) := by
  have G__fraction_of := ok_fraction_of (P := P) (w := w) (base := base) T
  have G_Ratio_init := ok_rinit (P := P) (w := w) (base := base) T
  refine T.F_ratio_with.ok sc_ratio_with (fun vs H Q E h => ?_) (fun cdv A outer s H vs Q E hr h => ?_)
  · obtain ⟨a, e, rfl, _⟩ := h
    rfl
  obtain ⟨a, e, rfl, ha, hl, hu, hd, q⟩ := h
  have nd := sc_ratio_with.nd
  refine ⟨_, (pss_cons (ps_asg (pe_call G__fraction_of (hr.mono (by decide)) (by rfl) T.m__fraction_of T.F__fraction_of.kp T.b__fraction_of .nil pass0 (pa_cons (pv 0) pa_nil)) (pg_tup rfl (pgs_cons (pg_name (i := 1) nd rfl (Or.inl rfl)) (pgs_cons (pg_name (i := 2) nd rfl (Or.inl rfl)) pgs_nil))))
    (pss_cons (ps_set (i := 3) nd rfl (Or.inl rfl) (pe_make T.k_Ratio G_Ratio_init hr (by rfl) T.g_Ratio T.b1_Ratio_init T.v_Ratio_init pass0 (pa_cons pe_int pa_nil)))
    (pss_cons (ps_fld (pv 3) (pv 1) rfl)
    (pss_cons (ps_fld (pv 3) (pv 2) rfl)
    (pss_cons (ps_fld (pv 3) (pe_callTy (show CallR _ _ (rTup1 K) from call_tup1) (by rfl) T.z_tuple (by decide +kernel) (pa_cons (pv 0) pa_nil)) rfl)
    (pss_one (ps_ret (pv 3)))))))), ?_⟩
  refine ⟨_, rfl, a, e, rfl, ha, hl, hu, hd, fun tf H1 s1 htf => ⟨tf, _, rfl, htf, rfl, _, _, rfl, _, _, rfl, rfl, ?_⟩⟩
  refine fun x dx nx ndx nex => ⟨x, dx, 1, List.replicate 6 0, rfl, upd_same, by decide, by decide, rfl, fun H2 r2 kp => ⟨rfl, ?_⟩⟩
  have s0 : Same H1 (upd (upd H1 dx (.own x)) x (.ins T.C_Ratio dx [])) := fun b o e => by
    rw [upd_ne (ne_of_none e nx), upd_ne (ne_of_none e ndx)]
    exact e
  have s2 : Same H1 H2 := fun b o e => kp b o (s0 b o e) (ne_of_none e nx)
  obtain ⟨dy, t, h1, h2⟩ := r2.ex
  refine ⟨_, rfl, _, rfl, x, T.C_Ratio, dy, _, rfl, h1, T.c_Ratio, T.n_Ratio_over, (by show 3 < 1000; decide), ?_⟩
  refine ⟨_, rfl, _, rfl, x, T.C_Ratio, dy, _, rfl, upd_same, T.c_Ratio, T.n_Ratio_under, (by show 3 < 1000; decide), ?_⟩
  refine ⟨_, rfl, a, e.map V.int, rfl, ((ha.same (s1.trans s2)).ins h1).ins upd_same, fun t2 H3 s3 ht2 => ?_⟩
  have hx3 := s3 _ _ (upd_same (H := upd H2 x _) (a := x))
  refine ⟨_, rfl, x, T.C_Ratio, dy, _, rfl, hx3, T.c_Ratio, T.n_Ratio_powers, (by show 3 < 1000; decide), ?_⟩
  rw [rf3]
  refine ⟨_, rfl, q x _ (fun b o e => ?_) ⟨⟨dy, t2, upd_same, seqT_ins hx3 ht2⟩, hl⟩⟩
  have nb := ne_of_none (s1 _ _ e) nx
  rw [upd_ne nb]
  refine s3 _ _ ?_
  rw [upd_ne nb, upd_ne nb]
  exact s2 _ _ (s1 _ _ e)
end
end TL
namespace TL
open PySem L2

/-! ### steps of a reading -/
local macro_rules | `(tactic| walk_at "hp") => `(tactic| first | assumption | exact upd_same | (refine (upd_ne (by first | assumption | (exact Ne.symm (by assumption)))).trans ?_; walk_at "hp"))
local macro_rules | `(tactic| walk_at "ok") => `(tactic| first | (exact Or.inr ⟨by decide, by decide⟩) | (exact ⟨by decide, by decide⟩) | (exact ⟨by decide, by decide, by decide⟩) | (show _ ≠ _; omega) | (show _ ≠ _; decide) | (exact Or.inl ⟨by omega, by omega⟩) | decide)
local macro_rules | `(tactic| walk_at "sq") => `(tactic| first | assumption | exact SqL.of (by walk_at "hp") | exact SqT.of (by walk_at "hp"))
local macro_rules | `(tactic| walk_at "ty") => `(tactic| first | refine ⟨_, _, Value.type "int", Value.type "list", false, rfl, ClsV.ty _, TyX.base (TyOf.int _), kt_int_list, ?_⟩ | refine ⟨_, _, Value.type "bool", Value.type "list", false, rfl, ClsV.ty _, TyX.base (TyOf.bl _), kt_bool_list, ?_⟩ | refine ⟨_, _, Value.type "str", Value.type "list", false, rfl, ClsV.ty _, TyX.base (TyOf.str _), kt_str_list, ?_⟩ | refine ⟨_, _, Value.type "NoneType", Value.type "list", false, rfl, ClsV.ty _, TyX.base TyOf.non, kt_NoneType_list, ?_⟩ | refine ⟨_, _, Value.type "list", Value.type "list", true, rfl, ClsV.ty _, tyx_L (by walk_at "sq"), kt_list_list, ?_⟩ | refine ⟨_, _, Value.type "tuple", Value.type "list", false, rfl, ClsV.ty _, tyx_T (by walk_at "sq"), kt_tuple_list, ?_⟩ | refine ⟨_, _, Value.type "int", Value.type "tuple", false, rfl, ClsV.ty _, TyX.base (TyOf.int _), kt_int_tuple, ?_⟩ | refine ⟨_, _, Value.type "bool", Value.type "tuple", false, rfl, ClsV.ty _, TyX.base (TyOf.bl _), kt_bool_tuple, ?_⟩ | refine ⟨_, _, Value.type "str", Value.type "tuple", false, rfl, ClsV.ty _, TyX.base (TyOf.str _), kt_str_tuple, ?_⟩ | refine ⟨_, _, Value.type "NoneType", Value.type "tuple", false, rfl, ClsV.ty _, TyX.base TyOf.non, kt_NoneType_tuple, ?_⟩ | refine ⟨_, _, Value.type "list", Value.type "tuple", false, rfl, ClsV.ty _, tyx_L (by walk_at "sq"), kt_list_tuple, ?_⟩ | refine ⟨_, _, Value.type "tuple", Value.type "tuple", true, rfl, ClsV.ty _, tyx_T (by walk_at "sq"), kt_tuple_tuple, ?_⟩ | refine ⟨_, _, Value.type "int", Value.type "bool", false, rfl, ClsV.ty _, TyX.base (TyOf.int _), kt_int_bool, ?_⟩ | refine ⟨_, _, Value.type "bool", Value.type "bool", true, rfl, ClsV.ty _, TyX.base (TyOf.bl _), kt_bool_bool, ?_⟩ | refine ⟨_, _, Value.type "str", Value.type "bool", false, rfl, ClsV.ty _, TyX.base (TyOf.str _), kt_str_bool, ?_⟩ | refine ⟨_, _, Value.type "NoneType", Value.type "bool", false, rfl, ClsV.ty _, TyX.base TyOf.non, kt_NoneType_bool, ?_⟩ | refine ⟨_, _, Value.type "list", Value.type "bool", false, rfl, ClsV.ty _, tyx_L (by walk_at "sq"), kt_list_bool, ?_⟩ | refine ⟨_, _, Value.type "tuple", Value.type "bool", false, rfl, ClsV.ty _, tyx_T (by walk_at "sq"), kt_tuple_bool, ?_⟩ | refine ⟨_, _, Value.type "int", Value.type "int", true, rfl, ClsV.ty _, TyX.base (TyOf.int _), kt_int_int, ?_⟩ | refine ⟨_, _, Value.type "bool", Value.type "int", true, rfl, ClsV.ty _, TyX.base (TyOf.bl _), kt_bool_int, ?_⟩ | refine ⟨_, _, Value.type "str", Value.type "int", false, rfl, ClsV.ty _, TyX.base (TyOf.str _), kt_str_int, ?_⟩ | refine ⟨_, _, Value.type "NoneType", Value.type "int", false, rfl, ClsV.ty _, TyX.base TyOf.non, kt_NoneType_int, ?_⟩ | refine ⟨_, _, Value.type "list", Value.type "int", false, rfl, ClsV.ty _, tyx_L (by walk_at "sq"), kt_list_int, ?_⟩ | refine ⟨_, _, Value.type "tuple", Value.type "int", false, rfl, ClsV.ty _, tyx_T (by walk_at "sq"), kt_tuple_int, ?_⟩ | refine ⟨_, _, Value.type "int", Value.type "str", false, rfl, ClsV.ty _, TyX.base (TyOf.int _), kt_int_str, ?_⟩ | refine ⟨_, _, Value.type "bool", Value.type "str", false, rfl, ClsV.ty _, TyX.base (TyOf.bl _), kt_bool_str, ?_⟩ | refine ⟨_, _, Value.type "str", Value.type "str", true, rfl, ClsV.ty _, TyX.base (TyOf.str _), kt_str_str, ?_⟩ | refine ⟨_, _, Value.type "NoneType", Value.type "str", false, rfl, ClsV.ty _, TyX.base TyOf.non, kt_NoneType_str, ?_⟩ | refine ⟨_, _, Value.type "list", Value.type "str", false, rfl, ClsV.ty _, tyx_L (by walk_at "sq"), kt_list_str, ?_⟩ | refine ⟨_, _, Value.type "tuple", Value.type "str", false, rfl, ClsV.ty _, tyx_T (by walk_at "sq"), kt_tuple_str, ?_⟩)
local macro_rules | `(tactic| walk_at "go1") => `(tactic| first
  | (refine ⟨_, rfl, ?_⟩)
  | (refine ⟨_, _, rfl, rfl, ?_⟩)
  | (refine ⟨_, _, _, _, rfl, rfl, SqL.of (by walk_at "hp"), rfl, ?_⟩)
  | (refine Or.inl ⟨_, rfl, ?_⟩)
  | (refine ⟨rfl, ?_⟩)
  | (refine ⟨_, _, rfl, .inl (SqL.of (by walk_at "hp")), ?_⟩)
  | (refine ⟨_, _, rfl, Or.inl (by assumption), ?_⟩)
  | (refine ⟨_, _, rfl, Or.inr (by assumption), ?_⟩)
  | (refine ⟨(by walk_at "ok"), ?_⟩)
  | (refine ⟨_, _, _, _, rfl, rfl, (by walk_at "hp"), rfl, ?_⟩))
local macro_rules | `(tactic| walk_at "go") => `(tactic| repeat (walk_at "go1"))
local macro_rules | `(tactic| walk_at "gt") => `(tactic| repeat (first | walk_at "go1" | walk_at "ty"))

section
variable {P : Program} {w : World} {K : PySem.W.Frag} {mg : Str → Option Value} {base : Heap}
theorem rf_o (u d : Nat) (t : Addr) : (rf u d t).lookup ("over" : Str) = some (.int (u : Int)) := rfl
theorem rf_u (u d : Nat) (t : Addr) : (rf u d t).lookup ("under" : Str) = some (.int (d : Int)) := rfl
theorem rf_p (u d : Nat) (t : Addr) : (rf u d t).lookup ("_powers" : Str) = some (.ref t) := rfl
theorem rf_no {u d : Nat} {t : Addr} {m : Str} (h1 : ¬ m = "over") (h2 : ¬ m = "under") (h3 : ¬ m = "_powers") : (rf u d t).lookup m = none := by
  have e1 : (m == ("over" : Str)) = false := by simpa using h1
  have e2 : (m == ("under" : Str)) = false := by simpa using h2
  have e3 : (m == ("_powers" : Str)) = false := by simpa using h3
  simp [rf, List.lookup, e1, e2, e3]
def spPows (K : PySem.W.Frag) (C : Addr) : Sp := fun vs H Q _ => ∃ (p : Addr) (e : List Int), vs = [.ref p] ∧ RAt K C H p e ∧ ∀ t, SqT K H t (e.map V.int) → Q (.ref t) H
theorem ok_powers (T : Tx K mg) : FnOk P w K mg base CX0 1 T.f_Ratio_powers T.d_Ratio_powers ["self"] (spPows K T.C_Ratio) := by
  refine T.F_Ratio_powers.ok sc_Ratio_powers (fun vs H Q E h => ?_) (fun cdv A outer s H vs Q E hr h => ?_)
  · obtain ⟨p, e, rfl, _⟩ := h
    rfl
  obtain ⟨p, e, rfl, he, q⟩ := h
  obtain ⟨dx, t, h1, h2⟩ := he.ex
  refine ⟨_, (pss_one (ps_ret (show PE _ _ (tFld K _ _) from pe_fld (pv 0) rfl))), ?_⟩
  exact ⟨_, rfl, p, _, _, _, _, rfl, h1, T.c_Ratio, T.n_Ratio_powers, rf_p _ _ _, q t h2⟩
def bitsE (e : List Int) : List Int := e.map (·.fmod 2)
def spBitsE (K : PySem.W.Frag) (C : Addr) : Sp := fun vs H Q _ => ∃ (p : Addr) (e : List Int), vs = [.ref p] ∧ RAt K C H p e ∧ ∀ t H', Same H H' → SqT K H' t ((bitsE e).map V.int) → Q (.ref t) H'
theorem ok_bits (T : Tx K mg) : FnOk P w K mg base CX0 1 T.f_Ratio_bits T.d_Ratio_bits ["self"] (spBitsE K T.C_Ratio) := by
  refine T.F_Ratio_bits.ok sc_Ratio_bits (fun vs H Q E h => ?_) (fun cdv A outer s H vs Q E hr h => ?_)
  · obtain ⟨p, e, rfl, _⟩ := h
    rfl
  obtain ⟨p, e, rfl, he, q⟩ := h
  obtain ⟨dx, t, h1, h2⟩ := he.ex
  have nd := sc_Ratio_bits.nd
  refine ⟨_, (pss_one (ps_ret (pe_callTy (show CallR _ _ (rTup1 K) from call_tup1) (by rfl) T.z_tuple (by decide +kernel) (pa_cons (pe_lc (own := [("power", 1)]) (g := (gName 1)) rfl nd (show PI _ _ _ (iTup K _) from pi_tup (show PE _ _ (tFld K _ _) from pe_fld (pv 0) rfl)) (blkOk_by (own := [("power", 1)]) (N := N_Ratio_bits) (sc := defScope s_Ratio_bits) (by decide +kernel)) (fun _ _ _ _ _ => by exact (pg_name (i := 1) nd rfl (Or.inl rfl))) (fun _ _ _ _ _ => by exact pts_nil) (fun _ _ _ _ _ => by exact (pe_op op_modN (pv 1) pe_int))) pa_nil)))), ?_⟩
  refine ⟨_, rfl, p, _, _, _, _, rfl, h1, T.c_Ratio, T.n_Ratio_powers, rf_p _ _ _, t, rfl, ⟨_, h2⟩, fun D hD => ?_⟩
  refine lc_mapT (f := fun a => a.fmod 2) h2 (by rw [he.len]; decide) hD (fun u => rfl) (fun u H1 k _ hk => ⟨_, rfl, u, _, rfl, rfl, (by show (2 : Int) ≠ 0; decide), hk⟩) fun H1 s1 hD1 => ?_
  exact ⟨D, _, rfl, .inl (SqL.of hD1), fun t4 H4 s4 ht4 => q t4 H4 (s1.trans s4) ht4⟩
def spPower (K : PySem.W.Frag) (C : Addr) : Sp := fun vs H Q _ => ∃ (p : Addr) (k : Int) (e : List Int), vs = [.ref p, .int k] ∧ RAt K C H p e ∧ (∀ x ∈ e, CMulW k x) ∧ up (mulE k e) < 2 ^ 100000 ∧ dn (mulE k e) < 2 ^ 100000 ∧ ∀ t H', Same H H' → RAt K C H' t (mulE k e) → Q (.ref t) H'
def spR2 (K : PySem.W.Frag) (C : Addr) (f : List Int → List Int → List Int) : Sp := fun vs H Q _ => ∃ (p r : Addr) (x y : List Int), vs = [.ref p, .ref r] ∧ RAt K C H p x ∧ RAt K C H r y ∧ up (f x y) < 2 ^ 100000 ∧ dn (f x y) < 2 ^ 100000 ∧ ∀ t H', Same H H' → RAt K C H' t (f x y) → Q (.ref t) H'
def Fits (x : List Int) : Prop := up x < 2 ^ 100000 ∧ dn x < 2 ^ 100000
def spLogOf (K : PySem.W.Frag) : Sp := fun vs H Q _ => ∃ (t : Addr) (x : List Int), vs = [.ref t] ∧ SqT K H t (x.map V.int) ∧ x.length = 6 ∧ Ex (10 ^ 7) x ∧ ∀ H', Same H H' → Q (.int (logE x)) H'
theorem ifT {A B : Prop} (h : A) : if (true = true) then A else B := h
theorem ln_small : ∀ v ∈ LN, v.natAbs < 2 ^ 200 := by decide +kernel
theorem ok_log_of (T : Tx K mg) : FnOk P w K mg base CX0 1 T.f_log_of T.d_log_of ["powers"] (spLogOf K) := by
  refine T.F_log_of.ok sc_log_of (fun vs H Q E h => ?_) (fun cdv A outer s H vs Q E hr h => ?_)
  · obtain ⟨t, x, rfl, _⟩ := h
    rfl
  obtain ⟨t, x, rfl, ht, h6, hE, q⟩ := h
  have nd := sc_log_of.nd
  refine ⟨_, (pss_one (ps_ret (pe_callB (show CallR _ _ (rSum K) from cr_sum rfl) (by rfl) T.z_sum (by decide +kernel) (pa_cons (pe_lc (own := [("power", 1), ("log", 2)]) (g := (gTup K 2 (gCons (gName 1) (gCons (gName 2) gNil)))) rfl nd (show PI _ _ _ (RZ.iZipA K _) from RZ.pi_zipA (by rfl) T.z_zip (pa_cons (pv 0) (pa_cons (pe_glob (v := .ref T.e_LOGS) (by rfl) T.m_LOGS rfl) pa_nil))) (blkOk_by (own := [("power", 1), ("log", 2)]) (N := N_log_of) (sc := defScope s_log_of) (by decide +kernel)) (fun _ _ _ _ _ => by exact (pg_tup rfl (pgs_cons (pg_name (i := 1) nd rfl (Or.inl rfl)) (pgs_cons (pg_name (i := 2) nd rfl (Or.inl rfl)) pgs_nil)))) (fun _ _ _ _ _ => by exact pts_nil) (fun _ _ _ _ _ => by exact (pe_op op_mulW (pv 1) (pv 2)))) pa_nil)))), ?_⟩
  refine ⟨_, rfl, t, T.e_LOGS, _, _, rfl, .inr ⟨ht, T.q_LOGS H, fun D hD => ?_⟩⟩
  refine lc_zipT (xs := x) (ys := LN) (f := fun a b => a * b) ht (T.q_LOGS H) (by rw [h6]; rfl) (by rw [h6]; decide) hD (fun u v => rfl) (fun u v H1 k hu hv hk => ⟨_, rfl, _, rfl, u, v, rfl, rfl, wide_mul (a := 24) (b := 200) (Nat.lt_of_le_of_lt (hE u hu) (by decide)) (ln_small v hv) (by decide) (by decide) (by decide), hk⟩) fun H1 s1 hD1 => ?_
  exact ⟨D, _, rfl, SqL.of hD1, q H1 s1⟩
def spBelow (K : PySem.W.Frag) (C : Addr) : Sp := fun vs H Q _ => ∃ (p r : Addr) (x y : List Int), vs = [.ref p, .ref r] ∧ RAt K C H p x ∧ RAt K C H r y ∧ Fits x ∧ Fits y ∧ ∀ H', Same H H' → Q (.bl (decide (up x * dn y < up y * dn x))) H'
theorem fits_ex {x : List Int} (h6 : x.length = 6) (h : Fits x) : Ex (10 ^ 7) x := fun v hv => Nat.le_trans (ex_of_up h6 h.1 h.2 v hv) (by decide)
theorem ok_below (T : Tx K mg) : FnOk P w K mg base CX0 2 T.f_Ratio_below T.d_Ratio_below ["self", "other"] (spBelow K T.C_Ratio) := by
  have G_log_of := ok_log_of (P := P) (w := w) (base := base) T
  refine T.F_Ratio_below.ok sc_Ratio_below (fun vs H Q E h => ?_) (fun cdv A outer s H vs Q E hr h => ?_)
  · obtain ⟨p, r, x, y, rfl, _⟩ := h
    rfl
  obtain ⟨p, r, x, y, rfl, hx, hy, fx, fy, q⟩ := h
  obtain ⟨dx, t, e1, e2⟩ := hx.ex
  obtain ⟨dy, t', g1, g2⟩ := hy.ex
  have nd := sc_Ratio_below.nd
  refine ⟨_, (pss_cut (ps_if (pt_cmpR op_gt (pe_op op_add (pe_bits (show PE _ _ (tFld K _ _) from pe_fld (pv 0) rfl)) (pe_bits (show PE _ _ (tFld K _ _) from pe_fld (pv 1) rfl))) (pe_glob (v := .int 500) (by rfl) T.m_MANY ⟨_, rfl⟩) (nomark _)) (pss_cons (ps_set (i := 2) nd rfl (Or.inl rfl) (pe_op op_sub (pe_call G_log_of hr (by rfl) T.m_log_of T.F_log_of.kp T.b_log_of .nil pass0 (pa_cons (show PE _ _ (tFld K _ _) from pe_fld (pv 1) rfl) pa_nil)) (pe_call G_log_of hr (by rfl) T.m_log_of T.F_log_of.kp T.b_log_of .nil pass0 (pa_cons (show PE _ _ (tFld K _ _) from pe_fld (pv 0) rfl) pa_nil))))
    (pss_one (ps_if (PW.pt (pw_or (pt_cmpR op_gt (pe_callB call_abs (by rfl) T.z_abs (by decide +kernel) (pa_cons (pv 2) pa_nil)) (pe_glob (v := .int 1000000000000) (by rfl) T.m_SLACK ⟨_, rfl⟩) (nomark _)) (pw_or1 (pt_cmpR (show OpR _ _ (rEqD K) from op_eqD hr.units) (show PE _ _ (tFld K _ _) from pe_fld (pv 0) rfl) (show PE _ _ (tFld K _ _) from pe_fld (pv 1) rfl) (nomark _))))) (pss_one (ps_ret (pe_cmpR op_gt (pv 2) pe_int (nomark _)))) pss_nil))) pss_nil)
    (pss_one (ps_ret (pe_cmpR op_lt (pe_op op_mulW (show PE _ _ (tFld K _ _) from pe_fld (pv 0) rfl) (show PE _ _ (tFld K _ _) from pe_fld (pv 1) rfl)) (pe_op op_mulW (show PE _ _ (tFld K _ _) from pe_fld (pv 1) rfl) (show PE _ _ (tFld K _ _) from pe_fld (pv 0) rfl)) (nomark _))))), ?_⟩
  have nb : ∀ {u : Nat}, u < 2 ^ 100000 → ((u : Int)).natAbs < 2 ^ 100000 := fun h => by rw [Int.natAbs_natCast]; exact h
  have key : 10 ^ 12 < (logE y - logE x).natAbs → (decide (up x * dn y < up y * dn x)) = decide (0 < logE y - logE x) := fun h => decide_eq_decide.mpr (below_log hx.len hy.len (fits_ex hx.len fx) (fits_ex hy.len fy) h)
  have key2 : x = y → (decide (up x * dn y < up y * dn x)) = decide (0 < logE y - logE x) := fun h => by
    subst h
    rw [Int.sub_self, decide_eq_false (Nat.lt_irrefl _)]
    rfl
  have xx := fits_ex hx.len fx
  have xy := fits_ex hy.len fy
  obtain ⟨xu, xd⟩ := fx
  obtain ⟨yu, yd⟩ := fy
  refine ⟨fun σ' H' => Same H H' ∧ ∃ a, σ' = [some (.ref p), some (.ref r), a], ?_, ?_⟩
  · refine ⟨_, rfl, p, _, _, _, _, rfl, e1, T.c_Ratio, T.n_Ratio_over, rf_o _ _ _, _, rfl, _, rfl, r, _, _, _, _, rfl, g1, T.c_Ratio, T.n_Ratio_over, rf_o _ _ _, _, rfl, _, _, rfl, rfl, _, _, rfl, rfl, _, rfl, ?_⟩
    refine ite2 (fun _ => ?_) (fun _ => ⟨Same.refl _, _, rfl⟩)
    refine ⟨_, rfl, r, _, _, _, _, rfl, g1, T.c_Ratio, T.n_Ratio_powers, rf_p _ _ _, t', y, rfl, g2, hy.len, xy, fun H1 s1 => ?_⟩
    refine ⟨_, rfl, p, _, _, _, _, rfl, s1 _ _ e1, T.c_Ratio, T.n_Ratio_powers, rf_p _ _ _, t, x, rfl, seqT s1 e2, hx.len, xx, fun H2 s2 => ?_⟩
    have s3 := s1.trans s2
    refine ⟨_, _, rfl, rfl, ?_⟩
    have ret : 10 ^ 12 < (logE y - logE x).natAbs ∨ x = y → Q (.bl (decide (0 < logE y - logE x))) H2 := fun c => by
      rw [← c.elim key key2]
      exact q H2 s3
    refine ⟨_, rfl, _, rfl, _, _, rfl, rfl, _, rfl, ?_⟩
    refine ite2 (fun c => ?_) (fun c => ?_)
    · refine ifT ?_
      refine ⟨_, rfl, _, _, rfl, rfl, ret (.inl ?_)⟩
      have c' := of_decide_eq_true c
      split at c' <;> omega
    · refine ⟨_, rfl, p, _, _, _, _, rfl, s3 _ _ e1, T.c_Ratio, T.n_Ratio_powers, rf_p _ _ _, _, rfl, r, _, _, _, _, rfl, s3 _ _ g1, T.c_Ratio, T.n_Ratio_powers, rf_p _ _ _, _, _, .tup (seqT s3 e2) (dpAll_ints x), .tup (seqT s3 g2) (dpAll_ints y), shaped_tupI _, shaped_tupI _, _, rfl, ?_⟩
      rw [eqv_tupI]
      refine ite2 (fun c => ?_) (fun c => ?_)
      · exact ⟨_, rfl, _, _, rfl, rfl, ret (.inr (of_decide_eq_true c))⟩
      · exact ⟨s3, _, rfl⟩
  · rintro σ' H' ⟨s1, a, rfl⟩
    have e1' := s1 _ _ e1
    have g1' := s1 _ _ g1
    refine ⟨_, rfl, p, _, _, _, _, rfl, e1', T.c_Ratio, T.n_Ratio_over, rf_o _ _ _, _, rfl, r, _, _, _, _, rfl, g1', T.c_Ratio, T.n_Ratio_under, rf_u _ _ _, _, _, rfl, rfl, wide_mul (nb xu) (nb yd) (by decide) (by decide) (by decide), ?_⟩
    refine ⟨_, rfl, r, _, _, _, _, rfl, g1', T.c_Ratio, T.n_Ratio_over, rf_o _ _ _, _, rfl, p, _, _, _, _, rfl, e1', T.c_Ratio, T.n_Ratio_under, rf_u _ _ _, _, _, rfl, rfl, wide_mul (nb yu) (nb xd) (by decide) (by decide) (by decide), ?_⟩
    refine ⟨_, _, rfl, rfl, ?_⟩
    have e : decide (((up x : Nat) : Int) * ((dn y : Nat) : Int) < ((up y : Nat) : Int) * ((dn x : Nat) : Int)) = decide (up x * dn y < up y * dn x) := by
      rw [← Int.natCast_mul, ← Int.natCast_mul]
      exact decide_eq_decide.mpr Int.ofNat_lt
    show Q (.bl (decide (((up x : Nat) : Int) * ((dn y : Nat) : Int) < ((up y : Nat) : Int) * ((dn x : Nat) : Int)))) H'
    rw [e]
    exact q H' s1
def spAsTone (K : PySem.W.Frag) (C : Addr) : Sp := fun vs H Q _ => ∃ (p : Addr) (e : List Int), vs = [.ref p] ∧ RAt K C H p e ∧ ∀ t H', Same H H' → H' t = some (.tup [.int ((up e : Nat) : Int), .int ((dn e : Nat) : Int)]) → Q (.ref t) H'
/-- the text of a tone -/
def numS (n : Int) : Str := Str.ofString (toString n)
def told (u d : Nat) : Str := if d = 1 then numS u else numS u ++ Str.ofString "/" ++ numS d
def Short (u : Nat) : Prop := u.log2 < 1920
def spToneText (K : PySem.W.Frag) : Sp := fun vs H Q _ => ∃ (t : Addr) (u d : Nat), vs = [.ref t] ∧ SqT K H t [.int (u : Int), .int (d : Int)] ∧ Short u ∧ Short d ∧ Q (.str (told u d)) H
theorem told_len {u d : Nat} (hu : Short u) (hd : Short d) : (told u d).length ≤ 4000 := by
  have lu : (numS u).length ≤ 1921 := PyProof.Rows.int_text_len_1921 (by rw [Int.natAbs_natCast]; exact hu)
  have ld : (numS d).length ≤ 1921 := PyProof.Rows.int_text_len_1921 (by rw [Int.natAbs_natCast]; exact hd)
  unfold told
  split
  · omega
  · rw [Str.length_append, Str.length_append, show (Str.ofString "/").length = 1 from rfl]
    omega
def toldE (e : List Int) : Str := told (up e) (dn e)
def ShortE (e : List Int) : Prop := Short (up e) ∧ Short (dn e)
def spText (K : PySem.W.Frag) (C : Addr) (f : Str → Str) : Sp := fun vs H Q _ => ∃ (p : Addr) (e : List Int), vs = [.ref p] ∧ RAt K C H p e ∧ ShortE e ∧ ∀ H', Same H H' → Q (.str (f (toldE e))) H'
def spREq (K : PySem.W.Frag) (C : Addr) : Sp := fun vs H Q _ => ∃ (p r : Addr) (x y : List Int), vs = [.ref p, .ref r] ∧ RAt K C H p x ∧ RAt K C H r y ∧ Q (.bl (decide (x = y))) H
-- [0=self, 1=other]
end
end TL
namespace TL
def KB : Int := 18446744073709551616
def KH : Int := 9223372036854775808
def pk : List Int → Int
  | [] => 0
  | x :: xs => pk xs * KB + x
def un : Nat → Int → List Int
  | 0, _ => []
  | n + 1, k => ((k + KH) % KB - KH) :: un n ((k - ((k + KH) % KB - KH)) / KB)
def keyE (e : List Int) : Int := logE e * 2 ^ 400 + pk e
theorem sub_addE' (x y : List Int) : subE x y = addE x (negE y) := by
  unfold subE addE negE
  rw [List.zipWith_map_right]
  congr 1
theorem len_sub {x y : List Int} (hx : x.length = 6) (hy : y.length = 6) : (subE x y).length = 6 := by simp [subE, hx, hy]
theorem un_step {L x M : Int} (n : Nat) (hx : x.natAbs ≤ 10 ^ 8) {A : Int} (hA : A = L * KB ^ (n + 1) + (M * KB + x)) : (A + KH) % KB - KH = x ∧ (A - x) / KB = L * KB ^ n + M := by
  have e0 : L * KB ^ (n + 1) + M * KB = KB * (L * KB ^ n + M) := by
    rw [Int.pow_succ, Int.mul_add, Int.mul_comm M KB, Int.mul_comm (KB ^ n) KB, ← Int.mul_assoc, ← Int.mul_assoc, Int.mul_comm KB L]
  refine ⟨?_, ?_⟩
  · have e1 : A + KH = x + KH + KB * (L * KB ^ n + M) := by rw [hA, ← e0]; omega
    rw [e1, Int.add_mul_emod_self_left, Int.emod_eq_of_lt (by simp only [KH]; omega) (by simp only [KH, KB]; omega)]
    omega
  · have e1 : A - x = KB * (L * KB ^ n + M) := by rw [hA, ← e0]; omega
    rw [e1]
    exact Int.mul_ediv_cancel_left _ (by decide)
theorem sum_bound {A B : Nat} : ∀ e l : List Int, (∀ x ∈ e, x.natAbs ≤ A) → (∀ v ∈ l, v.natAbs ≤ B) → (List.zipWith (· * ·) e l).sum.natAbs ≤ e.length * (A * B)
  | [], _, _, _ => by simp
  | _ :: _, [], _, _ => by simp
  | x :: e, v :: l, h1, h2 => by
    have ih := sum_bound e l (fun y hy => h1 y (List.mem_cons_of_mem _ hy)) (fun y hy => h2 y (List.mem_cons_of_mem _ hy))
    rw [List.zipWith_cons_cons, List.sum_cons, List.length_cons, Nat.succ_mul]
    have a := Int.natAbs_add_le (x * v) (List.zipWith (· * ·) e l).sum
    have b : (x * v).natAbs ≤ A * B := by
      rw [Int.natAbs_mul]
      exact Nat.mul_le_mul (h1 x (List.mem_cons_self ..)) (h2 v (List.mem_cons_self ..))
    omega
theorem ln_le : ∀ v ∈ LN, v.natAbs ≤ 2 ^ 180 := by decide +kernel
theorem log_bound {e : List Int} (h6 : e.length = 6) (h : Ex (10 ^ 8) e) : (logE e).natAbs < 2 ^ 300 := by
  have h1 := sum_bound (A := 10 ^ 8) (B := 2 ^ 180) e LN h ln_le
  rw [h6] at h1
  exact Nat.lt_of_le_of_lt h1 (by decide +kernel)
theorem un_pk : ∀ (e : List Int) (L : Int), Ex (10 ^ 8) e → un e.length (L * KB ^ e.length + pk e) = e
  | [], L, _ => rfl
  | x :: xs, L, h => by
    have hx := h x (List.mem_cons_self ..)
    have h1 : (L * KB ^ (xs.length + 1) + (pk xs * KB + x) + KH) % KB = x + KH := by
      have e1 : L * KB ^ (xs.length + 1) + (pk xs * KB + x) + KH = x + KH + KB * (L * KB ^ xs.length + pk xs) := by
        rw [Int.pow_succ, Int.mul_add, Int.mul_comm (pk xs) KB, Int.mul_comm (KB ^ xs.length) KB, ← Int.mul_assoc, ← Int.mul_assoc, Int.mul_comm KB L]
        omega
      rw [e1, Int.add_mul_emod_self_left]
      refine Int.emod_eq_of_lt ?_ ?_ <;> simp only [KH, KB] <;> omega
    have e2 : x + KH - KH = x := by omega
    have e3 : (L * KB ^ (xs.length + 1) + (pk xs * KB + x) - x) / KB = L * KB ^ xs.length + pk xs := by
      have e1 : L * KB ^ (xs.length + 1) + (pk xs * KB + x) - x = KB * (L * KB ^ xs.length + pk xs) := by
        rw [Int.pow_succ, Int.mul_add, Int.mul_comm (pk xs) KB, Int.mul_comm (KB ^ xs.length) KB, ← Int.mul_assoc, ← Int.mul_assoc, Int.mul_comm KB L]
        omega
      rw [e1]
      exact Int.mul_ediv_cancel_left _ (by decide)
    have key : ∀ A : Int, (A + KH) % KB = x + KH → (A - x) / KB = L * KB ^ xs.length + pk xs → un (xs.length + 1) A = x :: xs := fun A h1 h3 => by
      show ((A + KH) % KB - KH) :: un xs.length ((A - ((A + KH) % KB - KH)) / KB) = _
      rw [h1, e2, h3, un_pk xs L fun y hy => h y (List.mem_cons_of_mem _ hy)]
    exact key _ h1 e3
theorem key_form {e : List Int} (h6 : e.length = 6) : keyE e = (logE e * 2 ^ 16) * KB ^ e.length + pk e := by
  rw [h6]
  unfold keyE
  rw [Int.mul_assoc]
  rfl
theorem un_key {e : List Int} (h6 : e.length = 6) (h : Ex (10 ^ 8) e) : un 6 (keyE e) = e := by
  rw [key_form h6]
  have := un_pk e (logE e * 2 ^ 16) h
  rw [h6] at this
  rw [h6]
  exact this
theorem pk_add : ∀ x y : List Int, x.length = y.length → pk (addE x y) = pk x + pk y
  | [], [], _ => rfl
  | a :: x, b :: y, h => by
    show pk (addE x y) * KB + (a + b) = (pk x * KB + a) + (pk y * KB + b)
    rw [pk_add x y (by simpa using h), Int.add_mul]
    omega
theorem pk_neg : ∀ x : List Int, pk (negE x) = - pk x
  | [] => rfl
  | a :: x => by
    show pk (negE x) * KB + (-a) = -(pk x * KB + a)
    rw [pk_neg x, Int.neg_mul]
    omega
theorem key_sub {x y : List Int} (hx : x.length = 6) (hy : y.length = 6) : keyE (subE y x) = keyE y - keyE x := by
  have hn : (negE x).length = 6 := by simp [negE, hx]
  have h1 : logE (addE y (negE x)) = logE y - logE x := by
    unfold logE
    rw [log_add y (negE x) LN (by rw [hn, hy]), log_neg]
    omega
  rw [sub_addE']
  unfold keyE
  rw [h1, pk_add y (negE x) (by rw [hn, hy]), pk_neg, Int.sub_mul]
  omega
theorem key_inj {x y : List Int} (hx : x.length = 6) (hy : y.length = 6) (ex : Ex (10 ^ 8) x) (ey : Ex (10 ^ 8) y) (h : keyE x = keyE y) : x = y := by
  rw [← un_key hx ex, ← un_key hy ey, h]
theorem pk_lt : ∀ e : List Int, Ex (10 ^ 8) e → 2 * (pk e).natAbs < 18446744073709551616 ^ e.length
  | [], _ => by decide
  | x :: xs, h => by
    have h1 := pk_lt xs fun y hy => h y (List.mem_cons_of_mem _ hy)
    have hx := h x (List.mem_cons_self ..)
    show 2 * (pk xs * KB + x).natAbs < 18446744073709551616 ^ (xs.length + 1)
    rw [Nat.pow_succ]
    generalize 18446744073709551616 ^ xs.length = M at h1 ⊢
    simp only [KB]
    omega
theorem key_far {e : List Int} (h6 : e.length = 6) (h : Ex (10 ^ 7) e) : (0 < keyE e / 2 ^ 470 → dn e < up e) ∧ (keyE e / 2 ^ 470 < -1 → up e < dn e) := by
  have h8 : Ex (10 ^ 8) e := fun x hx => Nat.le_trans (h x hx) (by decide)
  have hp := pk_lt e h8
  rw [h6] at hp
  have e1 : (18446744073709551616 ^ 6 : Nat) = 2 ^ 384 := by decide +kernel
  rw [e1] at hp
  have k1 : (2:Int) ^ 470 = 2 ^ 70 * 2 ^ 400 := by decide +kernel
  have k2 : (2:Int) ^ 400 = 2 ^ 16 * 2 ^ 384 := by decide +kernel
  have k3 : (0:Int) < 2 ^ 384 := by decide +kernel
  have hpp : -(2 ^ 384 : Int) < pk e ∧ pk e < 2 ^ 384 := by
    have : ((2 ^ 384 : Nat) : Int) = (2:Int) ^ 384 := by decide +kernel
    generalize (2 : Nat) ^ 384 = A at *
    rw [← this]
    omega
  constructor
  · intro hf
    refine log_lt h6 h8 ?_
    have h2 : 2 ^ 470 ≤ keyE e := by
      have := (Int.le_ediv_iff_mul_le (a := 1) (b := keyE e) (c := 2 ^ 470) (by decide +kernel)).mp (by omega)
      rw [Int.one_mul] at this
      exact this
    unfold keyE at h2
    have h3 : 2 ^ 70 * 2 ^ 400 < (logE e + 1) * 2 ^ 400 := by
      rw [Int.add_mul, Int.one_mul, ← k1]
      have : (2:Int) ^ 384 < 2 ^ 400 := by decide +kernel
      generalize (2 : Int) ^ 384 = A at *
      generalize (2 : Int) ^ 470 = C at *
      generalize (2 : Int) ^ 400 = D at *
      omega
    have h4 : (2:Int) ^ 70 < logE e + 1 := Int.lt_of_mul_lt_mul_right h3 (by decide +kernel)
    have : (10:Int) ^ 12 + 1 < 2 ^ 70 := by decide +kernel
    omega
  · intro hf
    refine log_gt h6 h8 ?_
    have h2 : keyE e < -1 * 2 ^ 470 := (Int.ediv_lt_iff_lt_mul (by decide +kernel)).mp hf
    unfold keyE at h2
    have h3 : (logE e - 1) * 2 ^ 400 < - 2 ^ 70 * 2 ^ 400 := by
      rw [Int.sub_mul, Int.one_mul, Int.neg_mul, ← k1]
      have : (2:Int) ^ 384 < 2 ^ 400 := by decide +kernel
      generalize (2 : Int) ^ 384 = A at *
      generalize (2 : Int) ^ 470 = C at *
      generalize (2 : Int) ^ 400 = D at *
      omega
    have h4 : logE e - 1 < - 2 ^ 70 := Int.lt_of_mul_lt_mul_right h3 (by decide +kernel)
    have : (10:Int) ^ 12 + 1 < 2 ^ 70 := by decide +kernel
    omega
theorem pk_bound {e : List Int} (h6 : e.length ≤ 6) (h : Ex (10 ^ 8) e) : (pk e).natAbs < 2 ^ 384 := by
  have h1 := pk_lt e h
  have h2 : 18446744073709551616 ^ e.length ≤ 18446744073709551616 ^ 6 := Nat.pow_le_pow_right (by decide) h6
  have e1 : (18446744073709551616 ^ 6 : Nat) = 2 ^ 384 := by decide +kernel
  rw [e1] at h2
  omega
theorem key_bound {e : List Int} (h6 : e.length = 6) (h : Ex (10 ^ 8) e) : (keyE e).natAbs < 2 ^ 701 := by
  have h1 := log_bound h6 h
  have h2 := pk_bound (by omega) h
  have h3 : (logE e * 2 ^ 400).natAbs < 2 ^ 700 := by
    rw [Int.natAbs_mul, show ((2 : Int) ^ 400).natAbs = 2 ^ 400 from by decide +kernel, show 700 = 300 + 400 from rfl, Nat.pow_add]
    exact Nat.mul_lt_mul_of_pos_right h1 (by decide +kernel)
  have h4 := Int.natAbs_add_le (logE e * 2 ^ 400) (pk e)
  have h5 : (2 : Nat) ^ 384 + 2 ^ 700 ≤ 2 ^ 701 := by decide +kernel
  show (logE e * 2 ^ 400 + pk e).natAbs < _
  generalize (2 : Nat) ^ 384 = a at *
  generalize (2 : Nat) ^ 700 = b at *
  generalize (2 : Nat) ^ 701 = c at *
  omega
theorem pk_drop {e : List Int} {i : Nat} {x : Int} (h : e[i]? = some x) : pk (e.drop i) = pk (e.drop (i + 1)) * KB + x := by
  obtain ⟨hi, rfl⟩ := List.getElem?_eq_some_iff.mp h
  rw [List.drop_eq_getElem_cons hi]
  rfl
/-! ### the way down -/
def lt1 (d : List Int) : Bool := decide (dn d < up d)
def bnd (e : List Int) : Bool := decide (e.length = 6) && (decide (up e < 2 ^ 50000) && decide (dn e < 2 ^ 50000))
theorem bnd_of {e : List Int} (h : bnd e = true) : e.length = 6 ∧ up e < 2 ^ 50000 ∧ dn e < 2 ^ 50000 := by
  unfold bnd at h
  rw [Bool.and_eq_true, Bool.and_eq_true] at h
  exact ⟨of_decide_eq_true h.1, of_decide_eq_true h.2.1, of_decide_eq_true h.2.2⟩
def redOk : Nat → List Int → List Int → Bool
  | 0, _, _ => false
  | k + 1, s, e => bnd e && (if lt1 (subE e s) then redOk k s (subE e s) else true)
def red : Nat → List Int → List Int → List Int
  | 0, _, e => e
  | k + 1, s, e => if lt1 (subE e s) then red k s (subE e s) else e
def okE (row e : List Int) : Bool := bnd e && (lt1 e && decide (e.map (·.fmod 2) = row))
def good (row : List Int) : Nat → List Int → List Int → List Int → Bool
  | 0, e, g, s => okE row e && decide (up e * 1000 ≤ 1001 * dn e)
  | n + 1, e, g, s => okE row e && ((bnd g && bnd s) && ((redOk 40 s e && redOk 40 s (subE g s)) && good row n (red 40 s e) s (red 40 s (subE g s))))
def near (r : List Int) : Nat → List Int → List Int → List Int → List Int
  | 0, e, _, _ => e
  | n + 1, e, g, s => if lt1 (subE e r) then near r n (red 40 s e) s (red 40 s (subE g s)) else e
def rowsN : Nat → List (List Int)
  | 0 => [[]]
  | n + 1 => (rowsN n).map (0 :: ·) ++ (rowsN n).map (1 :: ·)
theorem mem_rows : ∀ (n : Nat) (e : List Int), e.length = n → (∀ x ∈ e, x = 0 ∨ x = 1) → e ∈ rowsN n
  | 0, [], _, _ => List.mem_cons_self ..
  | n + 1, x :: xs, hl, h => by
    have hm := mem_rows n xs (by simpa using hl) fun y hy => h y (List.mem_cons_of_mem _ hy)
    refine List.mem_append.mpr ?_
    rcases h x (List.mem_cons_self ..) with rfl | rfl
    · exact .inl (List.mem_map.mpr ⟨xs, hm, rfl⟩)
    · exact .inr (List.mem_map.mpr ⟨xs, hm, rfl⟩)
def e4 : List Int := [2, 0, 0, 0, 0, 0]
def e9 : List Int := [0, 2, 0, 0, 0, 0]
def start (row : List Int) : List Int := if row.any (· != 0) then row else e4
theorem all_good : ∀ row ∈ rowsN 6, good row 10 (start row) e9 e4 = true := by decide +kernel
theorem up_sub_le {x y : List Int} (h : x.length = y.length) : up (subE y x) ≤ up y * dn x := by
  rw [sub_addE', ← up_neg x, up_mul y (negE x) (by simp [negE, h])]
  exact Nat.le_mul_of_pos_left _ (pp_pos _ pc_prs)
theorem dn_sub_le {x y : List Int} (h : x.length = y.length) : dn (subE y x) ≤ dn y * up x := by
  rw [sub_addE', ← dn_neg x, dn_mul y (negE x) (by simp [negE, h])]
  exact Nat.le_mul_of_pos_left _ (pp_pos _ pc_prs)
theorem mul_lt_pow {a b : Nat} (ha : a < 2 ^ 50000) (hb : b < 2 ^ 50000) : a * b < 2 ^ 100000 := by
  rw [show 100000 = 50000 + 50000 from rfl, Nat.pow_add]
  exact Nat.mul_lt_mul'' ha hb
theorem bnd_ex {e : List Int} (h : bnd e = true) : Ex (10 ^ 6) e := fun x hx => Nat.le_trans (ex_of_up (bnd_of h).1 (bnd_of h).2.1 (bnd_of h).2.2 x hx) (by decide)
theorem bnd_sub {x y : List Int} (hx : bnd x = true) (hy : bnd y = true) : (subE y x).length = 6 ∧ up (subE y x) < 2 ^ 100000 ∧ dn (subE y x) < 2 ^ 100000 := by
  have h1 := bnd_of hx
  have h2 := bnd_of hy
  exact ⟨len_sub h2.1 h1.1, Nat.lt_of_le_of_lt (up_sub_le (by rw [h1.1, h2.1])) (mul_lt_pow h2.2.1 h1.2.2), Nat.lt_of_le_of_lt (dn_sub_le (by rw [h1.1, h2.1])) (mul_lt_pow h2.2.2 h1.2.1)⟩
theorem lt1_sub {x y : List Int} (hx : x.length = 6) (hy : y.length = 6) : lt1 (subE y x) = decide (up x * dn y < up y * dn x) := by
  unfold lt1
  rw [sub_addE']
  exact decide_eq_decide.mpr (below_iff hx hy).symm
theorem redOk_bnd : ∀ {k : Nat} {s e : List Int}, redOk k s e = true → bnd e = true
  | k + 1, s, e, h => by
    unfold redOk at h
    exact (Bool.and_eq_true_iff.mp h).1
theorem redOk_next {k : Nat} {s e : List Int} (h : redOk k s e = true) : ∃ j, k = j + 1 ∧ (lt1 (subE e s) = true → redOk j s (subE e s) = true ∧ red k s e = red j s (subE e s)) ∧ (lt1 (subE e s) = false → red k s e = e) := by
  cases k with
  | zero => cases h
  | succ j =>
    unfold redOk at h
    refine ⟨j, rfl, fun hl => ?_, fun hl => ?_⟩
    · have h2 := (Bool.and_eq_true_iff.mp h).2
      rw [if_pos hl] at h2
      exact ⟨h2, by rw [red, if_pos hl]⟩
    · rw [red, if_neg (by rw [hl]; decide)]
theorem good_next {row e g s : List Int} {n : Nat} (h : good row (n + 1) e g s = true) : bnd g = true ∧ bnd s = true ∧ redOk 40 s e = true ∧ redOk 40 s (subE g s) = true ∧ good row n (red 40 s e) s (red 40 s (subE g s)) = true := by
  unfold good at h
  have h2 := (Bool.and_eq_true_iff.mp h).2
  have h3 := Bool.and_eq_true_iff.mp h2
  have h4 := Bool.and_eq_true_iff.mp h3.1
  have h5 := Bool.and_eq_true_iff.mp h3.2
  have h6 := Bool.and_eq_true_iff.mp h5.1
  exact ⟨h4.1, h4.2, h6.1, h6.2, h5.2⟩
theorem good_ok {row e g s : List Int} {n : Nat} (h : good row n e g s = true) : okE row e = true := by
  cases n with
  | zero => exact (Bool.and_eq_true_iff.mp h).1
  | succ n => exact (Bool.and_eq_true_iff.mp h).1
theorem ok_bnd {row e : List Int} (h : okE row e = true) : bnd e = true := (Bool.and_eq_true_iff.mp h).1
/-- a limit: at least 1001/1000 -/
def Lim (r : List Int) : Prop := bnd r = true ∧ 1001 * dn r ≤ up r * 1000
theorem good_zero {row e g s r : List Int} (h : good row 0 e g s = true) (hr : Lim r) : lt1 (subE e r) = false := by
  have h2 := of_decide_eq_true (Bool.and_eq_true_iff.mp h).2
  have h1 := bnd_of (ok_bnd (good_ok h))
  rw [lt1_sub (bnd_of hr.1).1 h1.1]
  refine decide_eq_false (Nat.not_lt.mpr ?_)
  have h3 := hr.2
  -- up e * dn r ≤ up r * dn e
  have h4 : (up e * 1000) * (1001 * dn r) ≤ (1001 * dn e) * (up r * 1000) := Nat.mul_le_mul h2 h3
  have h5 : (up e * dn r) * 1001000 ≤ (up r * dn e) * 1001000 := by
    have a0 : ∀ u d : Nat, (u * 1000) * (1001 * d) = (u * d) * 1001000 := fun u d => by
      rw [Nat.mul_comm 1001 d, Nat.mul_mul_mul_comm]
    rw [a0, Nat.mul_comm (1001 * dn e), a0] at h4
    exact h4
  exact Nat.le_of_mul_le_mul_right h5 (by decide)
theorem near_ok {row r : List Int} (hr : Lim r) : ∀ {n : Nat} {e g s : List Int}, good row n e g s = true → okE row (near r n e g s) = true ∧ lt1 (subE (near r n e g s) r) = false
  | 0, e, g, s, h => ⟨good_ok h, good_zero h hr⟩
  | n + 1, e, g, s, h => by
    unfold near
    cases hl : lt1 (subE e r) with
    | true =>
      rw [if_pos rfl]
      exact near_ok hr (good_next h).2.2.2.2
    | false =>
      rw [if_neg (by decide)]
      exact ⟨good_ok h, hl⟩
end TL
namespace TL
theorem iteT' {A B : Prop} {c : Bool} (e : c = true) (h : A) : if c = true then A else B := by
  rw [e]
  exact h
theorem iteF' {A B : Prop} {c : Bool} (e : c = false) (h : B) : if c = true then A else B := by
  rw [e]
  exact h
end TL
namespace TL
open PySem PySem.Spec PyProof.Rows L2
section
variable {prog : Program} {w : World} {A : Around} {E : Value → Shared → Prop} {s : Shared}
theorem sliceApplied_rev {sl : Addr} {vs : Value} {n : Nat} {Q : Int × Int × Nat → Shared → Prop} (hs : s.heap.IsSliceOf sl .none .none vs) (ps : IsPart vs (some (-1)))
    (h : Q ((n : Int) - 1, -1, n) s) : wpAny (model prog w) A (Builtin.Slice.sliceApplied (.ref sl) (pure (n : Int))) Q E s := by
  obtain ⟨os, hos, hcs, hds⟩ := id hs
  unfold Builtin.Slice.sliceApplied Builtin.Slice.sliceFields
  refine wpAny_bind (wpAny_bind (wpAny_field hos hds (x := .none) rfl (wpAny_bind (wpAny_field hos hds (x := .none) rfl (wpAny_bind (wpAny_field hos hds (x := vs) rfl (wpAny_pure ?_)))))))
  refine wpAny_bind (HT.slicePart_ ps ?_)
  show wpAny _ _ (if ((-1 : Int) == 0) = true then _ else _) _ _ s
  rw [if_neg (by decide)]
  refine wpAny_bind (slicePart_none (wpAny_bind (slicePart_none (wpAny_bind (wpAny_pure ?_)))))
  have e : Builtin.Slice.slicePlaces ((n : Int) - 1) (-1) (-1) = n := by
    unfold Builtin.Slice.slicePlaces
    rw [if_neg (by decide)]
    by_cases hn : (n : Int) - 1 > -1
    · rw [if_pos hn, show (- -1 : Int) = 1 by decide, Int.ediv_one]
      omega
    · rw [if_neg hn]
      omega
  show wpAny _ _ (pure ((n : Int) - 1, (-1 : Int), Builtin.Slice.slicePlaces ((n : Int) - 1) (-1) (-1))) _ _ s
  rw [e]
  exact wpAny_pure h
theorem fm_congr {α β : Type} {f g : α → Option β} : ∀ l : List α, (∀ x ∈ l, f x = g x) → l.filterMap f = l.filterMap g
  | [], _ => rfl
  | x :: l, h => by
    rw [List.filterMap_cons, List.filterMap_cons, h x (List.mem_cons_self ..), fm_congr l fun y hy => h y (List.mem_cons_of_mem _ hy)]
theorem pick_rev (xs : Array Value) : ((List.range xs.size).filterMap fun (m : Nat) => xs[(((xs.size : Int) - 1) + (m : Int) * (-1)).toNat]?).toArray = xs.toList.reverse.toArray := by
  have e : (List.range xs.size).filterMap (fun (m : Nat) => xs[(((xs.size : Int) - 1) + (m : Int) * (-1)).toNat]?) = ((List.range xs.size).map fun k => xs.size - 1 - k).filterMap (xs[·]?) := by
    rw [List.filterMap_map]
    refine fm_congr _ fun m hm => ?_
    have := List.mem_range.mp hm
    show xs[(((xs.size : Int) - 1) + (m : Int) * (-1)).toNat]? = xs[xs.size - 1 - m]?
    have e2 : (((xs.size : Int) - 1) + (m : Int) * (-1)).toNat = xs.size - 1 - m := by omega
    rw [e2]
  rw [e, PySem.W.krv_range, List.filterMap_reverse, PySem.W.krv_all]
theorem getItem_tuple_rev {t sl : Addr} {items : Array Value} {vs : Value} {Q : Value → Shared → Prop} (ht : IsTup s.heap t items) (hs : s.heap.IsSliceOf sl .none .none vs) (ps : IsPart vs (some (-1)))
    (h : Q (.ref s.heap.objs.size) { s with heap := s.heap.push { cls := .type "tuple", data := .seq items.toList.reverse.toArray } })
    (hsz : items.size ≤ sizeLine) : wpAny (model prog w) A (getItem (.ref t) (.ref sl)) Q E s := by
  have htake : sizeOk (.seq items.toList.reverse.toArray) := by
    show (items.toList.reverse).toArray.size ≤ sizeLine
    rw [List.size_toArray, List.length_reverse, Array.length_toList]
    omega
  obtain ⟨os, hos, hcs, hds⟩ := id hs
  have hTs : s.TypeIs (.ref sl) "slice" := ⟨os, hos, hcs⟩
  unfold getItem
  try with_reducible refine wpAny_holding ?_
  first | refine wpAny_bind (wpAny_pure ?_) | skip
  refine wpAny_bind (wpAny_sequenceKey ht.typeIs (by decide) ?_)
  refine wpAny_bind (wpAny_callSpecial?_slot (name := Str.ofString "__getitem__") ht.typeIs PyProof.Rows.slot_tuple_getitem
    (wpAny_call_entry PyProof.Rows.slot_tuple_getitem ht.typeIs entry_tuple_getitem ?_ (args_tuple_getitem _ _)))
  show wpAny _ _ (Builtin.Tuple.tupleItemsOf (.ref t) >>= _) _ _ s
  refine wpAny_bind (tupleItemsOf_ ht ?_)
  refine wpAny_bind (wpAny_typeOf hTs ?_)
  rw [if_pos (by decide)]
  refine wpAny_bind (sliceApplied_rev hs ps ?_)
  have hno : ¬ ((((items.size : Int) - 1) == 0 && (-1 : Int) == 1 && items.size == items.size) = true) := by
    rw [show ((-1 : Int) == 1) = false from by decide, Bool.and_false, Bool.false_and]
    exact Bool.false_ne_true
  show wpAny _ _ (if (((items.size : Int) - 1) == 0 && (-1 : Int) == 1 && items.size == items.size) = true then _ else _) _ _ s
  rw [if_neg hno, pick_rev]
  first
    | exact wpAny_bind (m := Builtin.Tuple.tupleExact _) (wpAny_newObj_type (wpAny_pure ⟨_, rfl, wpAny_pure h⟩) htake)
    | exact wpAny_bind (m := Builtin.Tuple.tupleExact _) (wpAny_newObj_type (wpAny_bind (wpAny_pure (wpAny_pure ⟨_, rfl, wpAny_pure h⟩))) htake)
    | exact wpAny_bind (wpAny_bind (m := Builtin.Tuple.tupleExact _) (wpAny_newObj_type (wpAny_pure (wpAny_pure ⟨_, rfl, wpAny_pure h⟩)) htake))
    | exact wpAny_bind (wpAny_bind (m := Builtin.Tuple.tupleExact _) (wpAny_newObj_type (wpAny_pure ⟨_, rfl, wpAny_pure h⟩) htake))
end
section
variable {X : Cx}
/-! ### t[::-1] of a tuple -/
def tRevT (K : PySem.W.Frag) (te : TE) : TE := fun σ H Q => te σ H fun x H1 => ∃ a xs, x = .ref a ∧ SqT K H1 a xs ∧ ∀ p, H1 p = none → Q (.ref p) (upd H1 p (.tup xs.reverse))
theorem pe_revT {e : Expr} {te : TE} {k : Nat} {p1 p2 p3 pos : Pos} (he : PE X e te) : PE X (.Subscript e (.Slice none none (some (.UnaryOp .USub (.Constant (.int 1) k p1) p2)) p3) pos) (tRevT X.K te) := by
  refine ⟨fun pins s σ H Q I h => ?_⟩
  refine Subscript_ (thn (he.run pins s σ H _ I h) fun v s1 ⟨x, H1, I1, r1, q1⟩ => ?_)
  obtain ⟨a, xs, ex, hx, q⟩ := q1
  subst ex
  cases r1
  have hst : PO X (some (.UnaryOp .USub (.Constant (.int 1) k p1) p2)) (tPart (tUn (rU fun i => .int (-i)) (tC (.int 1)))) := po_some (pe_un un_neg pe_int)
  refine wpAny_Slice (thn (po_none.run pins s1 σ H1 (fun o H2 => o = none ∧ H2 = H1) I1 ⟨rfl, rfl⟩) fun vl s2 ⟨l, H2, I2, pl, el, e2⟩ => ?_)
  subst el e2
  refine thn (po_none.run pins s2 σ H2 (fun o H3 => o = none ∧ H3 = H2) I2 ⟨rfl, rfl⟩) fun vu s3 ⟨u, H3, I3, pu, eu, e3⟩ => ?_
  subst eu e3
  refine thn (hst.run pins s3 σ H3 (fun o H4 => o = some (-1) ∧ H4 = H3) I3 ⟨1, rfl, -1, rfl, rfl, rfl⟩) fun vs s4 ⟨o, H4, I4, ps, eo, e4⟩ => ?_
  subst eo e4
  have I5 : Inv X pins σ H4 { s4 with heap := s4.heap.push { cls := .type "slice", data := .fields #[vl, vu, vs] } } := I4.kept (t' := s4.toks) fun b ob q => Heap.get?_push_of_some _ q
  obtain ⟨its, r, ht, hz⟩ := I5.tuple hx
  have hlen := r.length
  cases pl
  cases pu
  show wpAny (model X.prog X.w) X.A (subscriptTail e (.Slice none none (some (.UnaryOp .USub (.Constant (.int 1) k p1) p2)) p3) (.ref a) (.ref s4.heap.objs.size)) (EP X pins σ Q) X.xe { s4 with heap := s4.heap.push { cls := .type "slice", data := .fields #[.none, .none, vs] } }
  refine tail_any (ops := [.ref a, .ref s4.heap.objs.size]) ht.typeIs (PyProof.Rows.slot_tuple_getitem.lookup) ?_ (by with_unfolding_all rfl)
  refine getItem_tuple_rev ht (Heap.IsSliceOf.new _ .none .none vs) ps ?_ (by rw [List.size_toArray]; omega)
  refine ⟨.ref _, _, I5.laid (t' := s4.toks) (o := .tup xs.reverse) (fun b ob q => Heap.get?_push_of_some _ q) (Nat.le_refl _) ?_, rfl, q _ (I5.hok.fresh (Nat.le_refl _))⟩
  exact ⟨by rw [List.length_reverse]; exact hz, its.reverse, r.reverse, IsTup.new _ _⟩
end
/-! ### any(t) of a tuple of ints -/
section
variable {X : Cx}
def rAnyI (K : PySem.W.Frag) : List V → Hp → VK → Prop := fun vs H Q => ∃ (a : Addr) (ns : List Int), vs = [V.ref a] ∧ SqT K H a (ns.map V.int) ∧ Q (.bl (ns.any (· != 0))) H
theorem cr_anyI (hc : X.calm = true) : CallR X (.builtin "any") (rAnyI X.K) := by
  intro pins s σ H vs us Q I r h
  obtain ⟨a, ns, rfl, hs, q⟩ := h
  obtain ⟨its, rv, hl, _⟩ := I.tuple hs
  rw [Vals.ref1 r]
  obtain ⟨xs, e⟩ := rv.ints.allInts.items
  have hn : numsOf (intItems xs).toList = ns := by rw [← e]; exact rv.ints.numsOf
  rw [nums_intItems] at hn
  rw [e] at hl
  refine call_any_walk (iter_intTuple hl fun s₂ e2 st hfp hlI => ?_)
  subst e2
  refine ⟨_, _, _, _, _, _, fun i => numAt xs i != 0, rfl, Walks.tuple (A := X.A.in1) (I.ok.hd hc) _ a hlI (intItems xs), st, fun i v s Q E hv hq => ?_, fun h' tk hk => ?_⟩
  · obtain ⟨t, rfl⟩ := intItems_at hv
    exact P.truthy_int hq
  · refine ⟨.bl _, H, I.kept (old_keptT hk), ?_, q⟩
    show Value.bool _ = Value.bool _
    have e1 : (List.range (intItems xs).size).any (fun i => numAt xs i != 0) = (List.range ns.length).any fun i => (ns.getD i 0 != 0) := by
      have : (intItems xs).size = ns.length := by rw [← hn]; simp [intItems]
      rw [this]
      congr 1
      funext i
      rw [numAt_eq, hn]
    rw [e1, PySem.W.range_any (fun x : Int => x != 0) 0 ns]
end
end TL
namespace TL
open PySem L2

/-! ### steps of a reading -/
local macro_rules | `(tactic| walk_at "hp") => `(tactic| first | assumption | exact upd_same | (refine (upd_ne (by first | assumption | (exact Ne.symm (by assumption)))).trans ?_; walk_at "hp"))
local macro_rules | `(tactic| walk_at "ok") => `(tactic| first | (exact Or.inr ⟨by decide, by decide⟩) | (exact ⟨by decide, by decide⟩) | (exact ⟨by decide, by decide, by decide⟩) | (show _ ≠ _; omega) | (show _ ≠ _; decide) | (exact Or.inl ⟨by omega, by omega⟩) | decide)
local macro_rules | `(tactic| walk_at "sq") => `(tactic| first | assumption | exact SqL.of (by walk_at "hp") | exact SqT.of (by walk_at "hp"))
local macro_rules | `(tactic| walk_at "ty") => `(tactic| first | refine ⟨_, _, Value.type "int", Value.type "list", false, rfl, ClsV.ty _, TyX.base (TyOf.int _), kt_int_list, ?_⟩ | refine ⟨_, _, Value.type "bool", Value.type "list", false, rfl, ClsV.ty _, TyX.base (TyOf.bl _), kt_bool_list, ?_⟩ | refine ⟨_, _, Value.type "str", Value.type "list", false, rfl, ClsV.ty _, TyX.base (TyOf.str _), kt_str_list, ?_⟩ | refine ⟨_, _, Value.type "NoneType", Value.type "list", false, rfl, ClsV.ty _, TyX.base TyOf.non, kt_NoneType_list, ?_⟩ | refine ⟨_, _, Value.type "list", Value.type "list", true, rfl, ClsV.ty _, tyx_L (by walk_at "sq"), kt_list_list, ?_⟩ | refine ⟨_, _, Value.type "tuple", Value.type "list", false, rfl, ClsV.ty _, tyx_T (by walk_at "sq"), kt_tuple_list, ?_⟩ | refine ⟨_, _, Value.type "int", Value.type "tuple", false, rfl, ClsV.ty _, TyX.base (TyOf.int _), kt_int_tuple, ?_⟩ | refine ⟨_, _, Value.type "bool", Value.type "tuple", false, rfl, ClsV.ty _, TyX.base (TyOf.bl _), kt_bool_tuple, ?_⟩ | refine ⟨_, _, Value.type "str", Value.type "tuple", false, rfl, ClsV.ty _, TyX.base (TyOf.str _), kt_str_tuple, ?_⟩ | refine ⟨_, _, Value.type "NoneType", Value.type "tuple", false, rfl, ClsV.ty _, TyX.base TyOf.non, kt_NoneType_tuple, ?_⟩ | refine ⟨_, _, Value.type "list", Value.type "tuple", false, rfl, ClsV.ty _, tyx_L (by walk_at "sq"), kt_list_tuple, ?_⟩ | refine ⟨_, _, Value.type "tuple", Value.type "tuple", true, rfl, ClsV.ty _, tyx_T (by walk_at "sq"), kt_tuple_tuple, ?_⟩ | refine ⟨_, _, Value.type "int", Value.type "bool", false, rfl, ClsV.ty _, TyX.base (TyOf.int _), kt_int_bool, ?_⟩ | refine ⟨_, _, Value.type "bool", Value.type "bool", true, rfl, ClsV.ty _, TyX.base (TyOf.bl _), kt_bool_bool, ?_⟩ | refine ⟨_, _, Value.type "str", Value.type "bool", false, rfl, ClsV.ty _, TyX.base (TyOf.str _), kt_str_bool, ?_⟩ | refine ⟨_, _, Value.type "NoneType", Value.type "bool", false, rfl, ClsV.ty _, TyX.base TyOf.non, kt_NoneType_bool, ?_⟩ | refine ⟨_, _, Value.type "list", Value.type "bool", false, rfl, ClsV.ty _, tyx_L (by walk_at "sq"), kt_list_bool, ?_⟩ | refine ⟨_, _, Value.type "tuple", Value.type "bool", false, rfl, ClsV.ty _, tyx_T (by walk_at "sq"), kt_tuple_bool, ?_⟩ | refine ⟨_, _, Value.type "int", Value.type "int", true, rfl, ClsV.ty _, TyX.base (TyOf.int _), kt_int_int, ?_⟩ | refine ⟨_, _, Value.type "bool", Value.type "int", true, rfl, ClsV.ty _, TyX.base (TyOf.bl _), kt_bool_int, ?_⟩ | refine ⟨_, _, Value.type "str", Value.type "int", false, rfl, ClsV.ty _, TyX.base (TyOf.str _), kt_str_int, ?_⟩ | refine ⟨_, _, Value.type "NoneType", Value.type "int", false, rfl, ClsV.ty _, TyX.base TyOf.non, kt_NoneType_int, ?_⟩ | refine ⟨_, _, Value.type "list", Value.type "int", false, rfl, ClsV.ty _, tyx_L (by walk_at "sq"), kt_list_int, ?_⟩ | refine ⟨_, _, Value.type "tuple", Value.type "int", false, rfl, ClsV.ty _, tyx_T (by walk_at "sq"), kt_tuple_int, ?_⟩ | refine ⟨_, _, Value.type "int", Value.type "str", false, rfl, ClsV.ty _, TyX.base (TyOf.int _), kt_int_str, ?_⟩ | refine ⟨_, _, Value.type "bool", Value.type "str", false, rfl, ClsV.ty _, TyX.base (TyOf.bl _), kt_bool_str, ?_⟩ | refine ⟨_, _, Value.type "str", Value.type "str", true, rfl, ClsV.ty _, TyX.base (TyOf.str _), kt_str_str, ?_⟩ | refine ⟨_, _, Value.type "NoneType", Value.type "str", false, rfl, ClsV.ty _, TyX.base TyOf.non, kt_NoneType_str, ?_⟩ | refine ⟨_, _, Value.type "list", Value.type "str", false, rfl, ClsV.ty _, tyx_L (by walk_at "sq"), kt_list_str, ?_⟩ | refine ⟨_, _, Value.type "tuple", Value.type "str", false, rfl, ClsV.ty _, tyx_T (by walk_at "sq"), kt_tuple_str, ?_⟩)
local macro_rules | `(tactic| walk_at "go1") => `(tactic| first
  | (refine ⟨_, rfl, ?_⟩)
  | (refine ⟨_, _, rfl, rfl, ?_⟩)
  | (refine ⟨_, _, _, _, rfl, rfl, SqL.of (by walk_at "hp"), rfl, ?_⟩)
  | (refine Or.inl ⟨_, rfl, ?_⟩)
  | (refine ⟨rfl, ?_⟩)
  | (refine ⟨_, _, rfl, .inl (SqL.of (by walk_at "hp")), ?_⟩)
  | (refine ⟨_, _, rfl, Or.inl (by assumption), ?_⟩)
  | (refine ⟨_, _, rfl, Or.inr (by assumption), ?_⟩)
  | (refine ⟨(by walk_at "ok"), ?_⟩)
  | (refine ⟨_, _, _, _, rfl, rfl, (by walk_at "hp"), rfl, ?_⟩))
local macro_rules | `(tactic| walk_at "go") => `(tactic| repeat (walk_at "go1"))
local macro_rules | `(tactic| walk_at "gt") => `(tactic| repeat (first | walk_at "go1" | walk_at "ty"))

section
variable {P : Program} {w : World} {K : PySem.W.Frag} {mg : Str → Option Value} {base : Heap}
-- [0=ratio, 1=powers, 2=packed, 3=power] [0=key, 1=powers, 2=_, 3=power] [0=one, 1=other, 2=far] [0=value]
def spIsLen (K : PySem.W.Frag) (C : Addr) : Sp := fun vs H Q _ => ∃ (p : Addr) (e : List Int), vs = [.ref p] ∧ RAt K C H p e ∧ Q (.bl (lt1 e)) H
theorem ok_is_length (T : Tx K mg) : FnOk P w K mg base CX0 1 T.f_is_length T.d_is_length ["value"] (spIsLen K T.C_Ratio) := by
  refine T.F_is_length.ok sc_is_length (fun vs H Q E h => ?_) (fun cdv A outer s H vs Q E hr h => ?_)
  · obtain ⟨p, e, rfl, _⟩ := h
    rfl
  obtain ⟨p, e, rfl, hx, q⟩ := h
  obtain ⟨dx, t, e1, e2⟩ := hx.ex
  have nd := sc_is_length.nd
  refine ⟨_, (pss_one (ps_ret (pe_and (pe_callB (show CallR _ _ (rIsi K) from call_isi) (by rfl) T.z_isinstance (by decide +kernel) (pa_cons (pv 0) (pa_cons (pe_glob (v := .ref T.C_Ratio) (by rfl) T.g_Ratio rfl) pa_nil))) (pe_one (pe_cmpR op_gt (show PE _ _ (tFld K _ _) from pe_fld (pv 0) rfl) (show PE _ _ (tFld K _ _) from pe_fld (pv 0) rfl) (nomark _)))))), ?_⟩
  have i := T.i_Ratio
  refine ⟨_, rfl, _, _, _, .ref T.C_Ratio, true, rfl, ClsV.own _, TyX.base (TyOf.ins e1 T.c_Ratio i.ca i.cn i.ct i.cm), i.me, ?_⟩
  refine ⟨_, rfl, ?_⟩
  refine iteT' rfl ?_
  refine ⟨_, rfl, p, _, _, _, _, rfl, e1, T.c_Ratio, T.n_Ratio_over, rf_o _ _ _, _, rfl, p, _, _, _, _, rfl, e1, T.c_Ratio, T.n_Ratio_under, rf_u _ _ _, _, _, rfl, rfl, ?_⟩
  have ee : decide (((dn e : Nat) : Int) < ((up e : Nat) : Int)) = lt1 e := decide_eq_decide.mpr Int.ofNat_lt
  show Q (.bl (decide (((dn e : Nat) : Int) < ((up e : Nat) : Int)))) H
  rw [ee]
  exact q
def spKeyOf (K : PySem.W.Frag) (C : Addr) : Sp := fun vs H Q _ => ∃ (p : Addr) (e : List Int), vs = [.ref p] ∧ RAt K C H p e ∧ Ex (10 ^ 7) e ∧ ∀ H', Same H H' → Q (.int (keyE e)) H'
theorem ok_key_of (T : Tx K mg) : FnOk P w K mg base CX0 2 T.f_key_of T.d_key_of ["ratio"] (spKeyOf K T.C_Ratio) := by
  have G_log_of := ok_log_of (P := P) (w := w) (base := base) T
  have G_Ratio_powers := ok_powers (P := P) (w := w) (base := base) T
  refine T.F_key_of.ok sc_key_of (fun vs H Q E h => ?_) (fun cdv A outer s H vs Q E hr h => ?_)
  · obtain ⟨p, e, rfl, _⟩ := h
    rfl
  obtain ⟨p, e, rfl, hx, hE, q⟩ := h
  have nd := sc_key_of.nd
  have h8 : Ex (10 ^ 8) e := fun x h => Nat.le_trans (hE x h) (by decide)
  refine ⟨_, (pss_cons (ps_set (i := 1) nd rfl (Or.inl rfl) (pe_meth0 (pv 0) T.c_Ratio T.a_Ratio_powers G_Ratio_powers (hr.mono (by decide)) T.b_Ratio_powers .nil pass0))
    (pss_cons (ps_set (i := 2) nd rfl (Or.inl rfl) pe_int)
    (pss_cons (ps_for PassesOwn.never rfl (show PI _ _ _ (iTup K _) from pi_tup (show PE _ _ (tRevT K _) from pe_revT (pv 1))) (pg_name (i := 3) nd rfl (Or.inl rfl)) (pss_one (ps_set (i := 2) nd rfl (Or.inl rfl) (pe_op op_add (pe_op op_mulW (pv 2) (pe_glob (v := .int 18446744073709551616) (by rfl) T.m_BASE ⟨_, rfl⟩)) (pv 3)))))
    (pss_one (ps_ret (pe_op op_add (pe_op op_shlN (pe_call G_log_of (hr.mono (by decide)) (by rfl) T.m_log_of T.F_log_of.kp T.b_log_of .nil pass0 (pa_cons (pv 1) pa_nil)) (pe_glob (v := .int 400) (by rfl) T.m_BEHIND ⟨_, rfl⟩)) (pv 2))))))), ?_⟩
  have h6 := hx.len
  obtain ⟨dx, t0, e1, e2⟩ := hx.ex
  refine ⟨_, rfl, p, _, _, rfl, e1, rf_no (by decide +kernel) (by decide +kernel) (by decide +kernel), p, e, rfl, hx, fun t ht => ?_⟩
  refine ⟨_, rfl, t, _, rfl, ht, fun a ha => ?_⟩
  have s0 := Same.new (o := .tup (e.map V.int).reverse) ha
  have hup := upd_same (H := H) (a := a) (o := .tup (e.map V.int).reverse)
  generalize upd H a (.tup (e.map V.int).reverse) = H0 at *
  refine ⟨a, rfl, ⟨_, SqT.of hup⟩, for_it (walk_tup (K := K) (a := a) (xs := (e.map V.int).reverse)) (fun i σ H' => Same H0 H' ∧ ∃ a3, σ = [some (.ref p), some (.ref t), some (.int (pk (e.drop (6 - i)))), a3]) ⟨Same.refl _, none, ?_⟩ (fun _ _ H' _ h => seqT h.1 (SqT.of hup)) ?_ ?_⟩
  · rw [Nat.sub_zero, List.drop_of_length_le (by omega)]
    rfl
  · rintro i v σ H1 H2 hi ⟨s1, a3, rfl⟩ ⟨rfl, hv⟩
    rw [List.length_reverse, List.length_map, h6] at hi
    rw [List.getElem?_reverse (by rw [List.length_map, h6]; exact hi), List.length_map, h6, List.getElem?_map] at hv
    obtain ⟨x, hx1, rfl⟩ := Option.map_eq_some_iff.mp hv
    have hxm := hE x (List.mem_of_getElem? hx1)
    have hd := pk_drop hx1
    rw [show 6 - 1 - i + 1 = 6 - i by omega] at hd
    have hb := pk_bound (e := e.drop (6 - i)) (by rw [List.length_drop]; omega) (fun y hy => h8 y (List.mem_of_mem_drop hy))
    refine ⟨_, rfl, _, _, rfl, rfl, wide_mul hb (b := 65) (by decide) (by decide) (by decide) (by decide), ?_⟩
    refine ⟨_, rfl, _, _, rfl, rfl, ?_⟩
    refine ⟨s1, some (.int x), ?_⟩
    rw [show 6 - (i + 1) = 6 - 1 - i by omega, hd]
    rfl
  · rintro σ H1 ⟨s1, a3, rfl⟩
    rw [List.length_reverse, List.length_map, h6, Nat.sub_self, List.drop_zero]
    refine ⟨_, rfl, t, e, rfl, seqT (s0.trans s1) ht, h6, hE, fun H2 s2 => ?_⟩
    refine ⟨_, 400, rfl, rfl, shl_ok (log_bound h6 h8) (by decide), ?_⟩
    refine ⟨_, rfl, _, _, rfl, rfl, ?_⟩
    exact q H2 ((s0.trans s1).trans s2)
def spRatioAt (K : PySem.W.Frag) (C : Addr) : Sp := fun vs H Q _ => ∃ (e : List Int), vs = [.int (keyE e)] ∧ e.length = 6 ∧ Ex (10 ^ 7) e ∧ Fits e ∧ ∀ t H', Same H H' → RAt K C H' t e → Q (.ref t) H'
theorem ok_ratio_at (T : Tx K mg) : FnOk P w K mg base CX0 7 T.f_ratio_at T.d_ratio_at ["key"] (spRatioAt K T.C_Ratio) := by
  have G_ratio_with := ok_with (P := P) (w := w) (base := base) T
  refine T.F_ratio_at.ok sc_ratio_at (fun vs H Q E h => ?_) (fun cdv A outer s H vs Q E hr h => ?_)
  · obtain ⟨e, rfl, _⟩ := h
    rfl
  obtain ⟨e, rfl, h6, hE, hF, q⟩ := h
  have nd := sc_ratio_at.nd
  refine ⟨_, (pss_cons (ps_set (i := 1) nd rfl (Or.inl rfl) (pe_lst pa_nil))
    (pss_cons (ps_for PassesOwn.never rfl (show PI _ _ _ (iTup K _) from pi_tup (pe_glob (v := .ref T.e_PRIMES) (by rfl) T.m_PRIMES rfl)) (pg_name (i := 2) nd rfl (Or.inl rfl)) (pss_cons (ps_set (i := 3) nd rfl (Or.inl rfl) (pe_op op_sub (pe_op op_modN (pe_op op_add (pv 0) (pe_glob (v := .int 9223372036854775808) (by rfl) T.m_HALF ⟨_, rfl⟩)) (pe_glob (v := .int 18446744073709551616) (by rfl) T.m_BASE ⟨_, rfl⟩)) (pe_glob (v := .int 9223372036854775808) (by rfl) T.m_HALF ⟨_, rfl⟩)))
    (pss_cons (ps_expr (pe_bm PySem.F.plainAttrs_list PySem.F.slot_list_append PySem.F.type_list_append mt_append (pv 1) (pa_cons (pv 3) pa_nil)))
    (pss_one (ps_set (i := 0) nd rfl (Or.inl rfl) (pe_op op_fdivW (pe_op op_sub (pv 0) (pv 3)) (pe_glob (v := .int 18446744073709551616) (by rfl) T.m_BASE ⟨_, rfl⟩)))))))
    (pss_one (ps_ret (pe_call G_ratio_with hr (by rfl) T.m_ratio_with T.F_ratio_with.kp T.b_ratio_with .nil pass0 (pa_cons (pv 1) pa_nil)))))), ?_⟩
  refine ⟨(by show 0 ≤ sizeLine; decide), fun a ha => ?_⟩
  have s0 := Same.new (o := .lst []) ha
  refine ⟨T.e_PRIMES, rfl, ⟨_, T.q_PRIMES _⟩, for_it (walk_tup (K := K) (a := T.e_PRIMES) (xs := nL prs)) (fun i σ H' => Same H H' ∧ H' a = some (.lst ((e.take i).map V.int)) ∧ ∃ a2 a3, σ = [some (.int ((logE e * 2 ^ 16) * KB ^ (6 - i) + pk (e.drop i))), some (.ref a), a2, a3]) ⟨s0, upd_same, none, none, ?_⟩ (fun _ _ _ _ _ => T.q_PRIMES _) ?_ ?_⟩
  · have := key_form h6
    rw [h6] at this
    rw [this]
    rfl
  · rintro i v σ H1 H2 hi ⟨s1, h1, a2, a3, rfl⟩ ⟨rfl, hv⟩
    replace hi : i < 6 := hi
    obtain ⟨p1, hp1⟩ : ∃ p1, v = V.int ((p1 : Nat) : Int) := by
      rw [List.getElem?_map] at hv
      obtain ⟨p1, _, rfl⟩ := Option.map_eq_some_iff.mp hv
      exact ⟨p1, rfl⟩
    subst hp1
    obtain ⟨x, hx1⟩ : ∃ x, e[i]? = some x := ⟨_, List.getElem?_eq_getElem (by omega)⟩
    have hxm : x.natAbs ≤ 10 ^ 8 := Nat.le_trans (hE x (List.mem_of_getElem? hx1)) (by decide)
    have hd := pk_drop hx1
    have hst := un_step (L := logE e * 2 ^ 16) (x := x) (M := pk (e.drop (i + 1))) (5 - i) hxm (A := logE e * 2 ^ 16 * KB ^ (6 - i) + pk (e.drop i)) (by rw [hd, show 5 - i + 1 = 6 - i by omega])
    generalize logE e * 2 ^ 16 * KB ^ (6 - i) + pk (e.drop i) = A at *
    have f1 : (A + 9223372036854775808).fmod 18446744073709551616 - 9223372036854775808 = x := by
      rw [Int.fmod_eq_emod_of_nonneg _ (by decide)]
      exact hst.1
    refine ⟨_, rfl, _, _, rfl, rfl, _, _, rfl, rfl, (by show (18446744073709551616 : Int) ≠ 0; decide), _, _, rfl, rfl, ?_⟩
    show gName 3 (V.int ((A + 9223372036854775808).fmod 18446744073709551616 - 9223372036854775808)) _ _ _
    rw [f1]
    refine ⟨_, rfl, .inl ⟨rfl, _, SqL.of h1⟩, ?_⟩
    refine ⟨_, rfl, a, _, _, rfl, rfl, h1, small1000 (by simp; omega), ?_⟩
    refine ⟨_, rfl, _, rfl, _, _, rfl, rfl, _, _, rfl, rfl, wide_div (by decide) (b := 65) (by decide) (by decide) (by decide), ?_⟩
    refine ⟨s1.upd_new ha, ?_, some (.int (p1 : Nat)), some (.int x), ?_⟩
    · rw [upd_same, List.take_succ, hx1]
      simp
    · rw [show 6 - (i + 1) = 5 - i by omega, ← hst.2]
      rfl
  · rintro σ H1 ⟨s1, h1, a2, a3, rfl⟩
    rw [show (nL prs).length = 6 from rfl, List.take_of_length_le (Nat.le_of_eq h6)] at h1
    exact ⟨_, rfl, a, e, rfl, .inl (SqL.of h1), h6, hF.1, hF.2, fun t H' s' ht => q t H' (s1.trans s') ht⟩
def spIsBelow (K : PySem.W.Frag) (C : Addr) : Sp := fun vs H Q _ => ∃ (x y : List Int), vs = [.int (keyE x), .int (keyE y)] ∧ bnd x = true ∧ bnd y = true ∧ ∀ H', Same H H' → Q (.bl (lt1 (subE y x))) H'
theorem ok_is_below (T : Tx K mg) : FnOk P w K mg base CX0 8 T.f_is_below T.d_is_below ["one", "other"] (spIsBelow K T.C_Ratio) := by
  have G_ratio_at := ok_ratio_at (P := P) (w := w) (base := base) T
  have G_is_length := ok_is_length (P := P) (w := w) (base := base) T
  refine T.F_is_below.ok sc_is_below (fun vs H Q E h => ?_) (fun cdv A outer s H vs Q E hr h => ?_)
  · obtain ⟨x, y, rfl, _⟩ := h
    rfl
  obtain ⟨x, y, rfl, hx, hy, q⟩ := h
  have nd := sc_is_below.nd
  refine ⟨_, (pss_cons (ps_if (pt_cmpR op_eq (pv 0) (pv 1) (nomark _)) (pss_one (ps_ret pe_bl)) pss_nil)
    (pss_cons (ps_set (i := 2) nd rfl (Or.inl rfl) (pe_op op_shrN (pe_op op_sub (pv 1) (pv 0)) (pe_glob (v := .int 470) (by rfl) T.m_CLOSE ⟨_, rfl⟩)))
    (pss_cons (ps_if (pt_cmpR (show OpR _ _ (rIn K false) from op_in_seq) (pv 2) (pe_tup (pa_cons pe_int (pa_cons (pe_un un_neg pe_int) pa_nil))) rfl) (pss_one (ps_ret (pe_call G_is_length (hr.mono (by decide)) (by rfl) T.m_is_length T.F_is_length.kp T.b_is_length .nil pass0 (pa_cons (pe_call G_ratio_at (hr.mono (by decide)) (by rfl) T.m_ratio_at T.F_ratio_at.kp T.b_ratio_at .nil pass0 (pa_cons (pe_op op_sub (pv 1) (pv 0)) pa_nil)) pa_nil)))) pss_nil)
    (pss_one (ps_ret (pe_cmpR op_gt (pv 2) pe_int (nomark _))))))), ?_⟩
  have x6 := (bnd_of hx).1
  have y6 := (bnd_of hy).1
  have ex := bnd_ex hx
  have ey := bnd_ex hy
  have ks := key_sub x6 y6
  have bs := bnd_sub hx hy
  have e7 : Ex (10 ^ 7) (subE y x) := fits_ex bs.1 ⟨bs.2.1, bs.2.2⟩
  have kf := key_far bs.1 e7
  refine ⟨_, rfl, _, rfl, rfl, ?_⟩
  have same : keyE x = keyE y → lt1 (subE y x) = false := fun c => by
    obtain rfl := key_inj x6 y6 (fun v h => Nat.le_trans (ex v h) (by decide)) (fun v h => Nat.le_trans (ey v h) (by decide)) c
    rw [lt1_sub x6 x6]
    exact decide_eq_false (Nat.lt_irrefl _)
  refine ⟨_, rfl, ite2 (fun c => ?_) (fun c => ?_)⟩
  · have c' := of_decide_eq_true c
    rw [V.int.injEq] at c'
    have := q H (Same.refl _)
    rw [same c'] at this
    exact this
  refine ⟨_, rfl, _, rfl, _, _, rfl, rfl, _, 470, rfl, rfl, _, rfl, 1, rfl, (by show 2 ≤ sizeLine; decide), fun tp htp => ⟨tp, _, rfl, .inr (SqT.of upd_same), rfl, rfl, _, rfl, ?_⟩⟩
  have s1 := Same.new (o := .tup [V.int 0, V.int (-1)]) htp
  have hd : (if false = true then !inV (V.int ((keyE y - keyE x) / 2 ^ 470)) [V.int 0, V.int (-1)] else inV (V.int ((keyE y - keyE x) / 2 ^ 470)) [V.int 0, V.int (-1)]) = (decide ((keyE y - keyE x) / 2 ^ 470 = 0) || decide ((keyE y - keyE x) / 2 ^ 470 = -1)) := by
    rw [if_neg (by decide)]
    generalize (keyE y - keyE x) / 2 ^ 470 = F
    show ((0 : Int) == F || ((-1 : Int) == F || false)) = _
    rw [Bool.or_false]
    have e1 : ((0 : Int) == F) = decide (F = 0) := by
      rw [Bool.eq_iff_iff, beq_iff_eq, decide_eq_true_eq]
      exact eq_comm
    have e2 : ((-1 : Int) == F) = decide (F = -1) := by
      rw [Bool.eq_iff_iff, beq_iff_eq, decide_eq_true_eq]
      exact eq_comm
    rw [e1, e2]
  refine ite2 (fun c => ?_) (fun c => ?_)
  · refine ⟨_, rfl, _, rfl, _, _, rfl, rfl, subE y x, ?_, bs.1, e7, ⟨bs.2.1, bs.2.2⟩, fun t H2 s2 ht => ?_⟩
    · rw [ks]
      rfl
    · exact ⟨t, _, rfl, ht, q H2 (s1.trans s2)⟩
  · have c1 : ((decide ((keyE y - keyE x) / 2 ^ 470 = 0) || decide ((keyE y - keyE x) / 2 ^ 470 = -1))) = false := by
      rw [← hd]
      exact Bool.not_eq_true _ ▸ c
    rw [Bool.or_eq_false_iff] at c1
    have n0 := of_decide_eq_false c1.1
    have n1 := of_decide_eq_false c1.2
    rw [ks] at kf
    generalize (keyE y - keyE x) / 2 ^ 470 = F at *
    refine ⟨_, rfl, _, _, rfl, rfl, ?_⟩
    have fin : lt1 (subE y x) = decide (0 < F) := by
      unfold lt1
      refine decide_eq_decide.mpr ⟨fun h => ?_, kf.1⟩
      rcases Int.lt_or_gt_of_ne n0 with h1 | h1
      · exact absurd (kf.2 (by omega)) (Nat.not_lt.mpr (Nat.le_of_lt h))
      · exact h1
    have := q _ s1
    rw [fin] at this
    exact this
end
end TL
namespace TL
open PySem PySem.Spec PyProof.Rows L2
/-! ### kinds of values -/
inductive Kn | int | bool | str | non | list | tup | ins
deriving DecidableEq
def Kn.ty (C : Addr) : Kn → Value
  | .int => .type "int"
  | .bool => .type "bool"
  | .str => .type "str"
  | .non => .type "NoneType"
  | .list => .type "list"
  | .tup => .type "tuple"
  | .ins => .ref C
def Kn.isInt : Kn → Bool
  | .int => true
  | .bool => true
  | _ => false
def Kn.isBool : Kn → Bool
  | .bool => true
  | _ => false
def Kn.isStr : Kn → Bool
  | .str => true
  | _ => false
def Kn.isList : Kn → Bool
  | .list => true
  | _ => false
def Kn.isTup : Kn → Bool
  | .tup => true
  | _ => false
def Kn.isNum (k : Kn) : Bool := k.isInt && !k.isBool
/-- an own class that is none of these -/
structure NoCls (K : PySem.W.Frag) (C : Addr) : Prop where
  int : PySem.W.mroIn K C (.type "int") = some false
  bool : PySem.W.mroIn K C (.type "bool") = some false
  str : PySem.W.mroIn K C (.type "str") = some false
  list : PySem.W.mroIn K C (.type "list") = some false
  tup : PySem.W.mroIn K C (.type "tuple") = some false
section
variable {K : PySem.W.Frag} {C : Addr}
theorem kit_ref {T : String} {b : Bool} (h : PySem.W.mroIn K C (.type T) = some b) (hm : PySem.W.kitMeta T = true) : PySem.W.kitOne K (.ref C) (.type T) = some b := by
  unfold PySem.W.kitOne
  have hn : ¬ (Value.ref C == Value.type T) = true := fun e => by cases (beq_iff_eq.mp e)
  rw [if_neg hn]
  show (if PySem.W.kitMeta T = true then PySem.W.subIn K (.ref C) (.type T) else none) = some b
  rw [if_pos hm]
  exact h
theorem kn_int (J : NoCls K C) : ∀ k : Kn, PySem.W.kitOne K (k.ty C) (.type "int") = some k.isInt
  | .int => kt_int_int
  | .bool => kt_bool_int
  | .str => kt_str_int
  | .non => kt_NoneType_int
  | .list => kt_list_int
  | .tup => kt_tuple_int
  | .ins => kit_ref J.int (by decide +kernel)
theorem kn_bool (J : NoCls K C) : ∀ k : Kn, PySem.W.kitOne K (k.ty C) (.type "bool") = some k.isBool
  | .int => kt_int_bool
  | .bool => kt_bool_bool
  | .str => kt_str_bool
  | .non => kt_NoneType_bool
  | .list => kt_list_bool
  | .tup => kt_tuple_bool
  | .ins => kit_ref J.bool (by decide +kernel)
theorem kn_str (J : NoCls K C) : ∀ k : Kn, PySem.W.kitOne K (k.ty C) (.type "str") = some k.isStr
  | .int => kt_int_str
  | .bool => kt_bool_str
  | .str => kt_str_str
  | .non => kt_NoneType_str
  | .list => kt_list_str
  | .tup => kt_tuple_str
  | .ins => kit_ref J.str (by decide +kernel)
theorem kn_list (J : NoCls K C) : ∀ k : Kn, PySem.W.kitOne K (k.ty C) (.type "list") = some k.isList
  | .int => kt_int_list
  | .bool => kt_bool_list
  | .str => kt_str_list
  | .non => kt_NoneType_list
  | .list => kt_list_list
  | .tup => kt_tuple_list
  | .ins => kit_ref J.list (by decide +kernel)
theorem kn_tup (J : NoCls K C) : ∀ k : Kn, PySem.W.kitOne K (k.ty C) (.type "tuple") = some k.isTup
  | .int => kt_int_tuple
  | .bool => kt_bool_tuple
  | .str => kt_str_tuple
  | .non => kt_NoneType_tuple
  | .list => kt_list_tuple
  | .tup => kt_tuple_tuple
  | .ins => kit_ref J.tup (by decide +kernel)
/-- isinstance(x, (a, b)) -/
theorem kit_two {t a b : Value} {x y : Bool} (h1 : PySem.W.kitOne K t a = some x) (h2 : PySem.W.kitOne K t b = some y) : PySem.W.kitAny K t [a, b] = some (x || y) := by
  refine kitAny_cons h1 (fun e => ?_) (fun e => by rw [e]; rfl)
  subst e
  refine kitAny_cons h2 (fun e => ?_) (fun e => by rw [e]; rfl)
  subst e
  rfl
theorem kn_lt (J : NoCls K C) (k : Kn) : PySem.W.kitAny K (k.ty C) [.type "list", .type "tuple"] = some (k.isList || k.isTup) := kit_two (kn_list J k) (kn_tup J k)
end
section
variable {K : PySem.W.Frag} {C : Addr} {H H' : Hp} {v : V}
def KnV (K : PySem.W.Frag) (C : Addr) (H : Hp) (v : V) (k : Kn) : Prop := TyX K H v (k.ty C)
theorem KnV.i {n : Int} : KnV K C H (.int n) .int := .base (.int n)
theorem KnV.b {x : Bool} : KnV K C H (.bl x) .bool := .base (.bl x)
theorem KnV.s {x : Str} : KnV K C H (.str x) .str := .base (.str x)
theorem KnV.n : KnV K C H .non .non := .base .non
theorem KnV.l {a : Addr} {xs : List V} (h : SqL K H a xs) : KnV K C H (.ref a) .list := tyx_L h
theorem KnV.t {a : Addr} {xs : List V} (h : SqT K H a xs) : KnV K C H (.ref a) .tup := tyx_T h
theorem KnV.o {a dx : Addr} {fs : List (Str × V)} (e : H a = some (.ins C dx fs)) (cl : Cls K C) (ha : PySem.W.findIn K (.ref C) "__class__" = some (some (.builtin "object.__class__")))
    (hn : PySem.W.specialIn K (.builtin "object.__class__") "__get__" = some (some (.builtin "getset_descriptor.__get__"))) (htk : PySem.W.takesIn K (.builtin "object.__class__") = some true) (hm : PySem.W.mroIn K C (.type "object") = some true) : KnV K C H (.ref a) .ins := .base (.ins e cl ha hn htk hm)
end
end TL
namespace TL
open PySem L2

/-! ### steps of a reading -/
local macro_rules | `(tactic| walk_at "hp") => `(tactic| first | assumption | exact upd_same | (refine (upd_ne (by first | assumption | (exact Ne.symm (by assumption)))).trans ?_; walk_at "hp"))
local macro_rules | `(tactic| walk_at "ok") => `(tactic| first | (exact Or.inr ⟨by decide, by decide⟩) | (exact ⟨by decide, by decide⟩) | (exact ⟨by decide, by decide, by decide⟩) | (show _ ≠ _; omega) | (show _ ≠ _; decide) | (exact Or.inl ⟨by omega, by omega⟩) | decide)
local macro_rules | `(tactic| walk_at "sq") => `(tactic| first | assumption | exact SqL.of (by walk_at "hp") | exact SqT.of (by walk_at "hp"))
local macro_rules | `(tactic| walk_at "ty") => `(tactic| first | refine ⟨_, _, Value.type "int", Value.type "list", false, rfl, ClsV.ty _, TyX.base (TyOf.int _), kt_int_list, ?_⟩ | refine ⟨_, _, Value.type "bool", Value.type "list", false, rfl, ClsV.ty _, TyX.base (TyOf.bl _), kt_bool_list, ?_⟩ | refine ⟨_, _, Value.type "str", Value.type "list", false, rfl, ClsV.ty _, TyX.base (TyOf.str _), kt_str_list, ?_⟩ | refine ⟨_, _, Value.type "NoneType", Value.type "list", false, rfl, ClsV.ty _, TyX.base TyOf.non, kt_NoneType_list, ?_⟩ | refine ⟨_, _, Value.type "list", Value.type "list", true, rfl, ClsV.ty _, tyx_L (by walk_at "sq"), kt_list_list, ?_⟩ | refine ⟨_, _, Value.type "tuple", Value.type "list", false, rfl, ClsV.ty _, tyx_T (by walk_at "sq"), kt_tuple_list, ?_⟩ | refine ⟨_, _, Value.type "int", Value.type "tuple", false, rfl, ClsV.ty _, TyX.base (TyOf.int _), kt_int_tuple, ?_⟩ | refine ⟨_, _, Value.type "bool", Value.type "tuple", false, rfl, ClsV.ty _, TyX.base (TyOf.bl _), kt_bool_tuple, ?_⟩ | refine ⟨_, _, Value.type "str", Value.type "tuple", false, rfl, ClsV.ty _, TyX.base (TyOf.str _), kt_str_tuple, ?_⟩ | refine ⟨_, _, Value.type "NoneType", Value.type "tuple", false, rfl, ClsV.ty _, TyX.base TyOf.non, kt_NoneType_tuple, ?_⟩ | refine ⟨_, _, Value.type "list", Value.type "tuple", false, rfl, ClsV.ty _, tyx_L (by walk_at "sq"), kt_list_tuple, ?_⟩ | refine ⟨_, _, Value.type "tuple", Value.type "tuple", true, rfl, ClsV.ty _, tyx_T (by walk_at "sq"), kt_tuple_tuple, ?_⟩ | refine ⟨_, _, Value.type "int", Value.type "bool", false, rfl, ClsV.ty _, TyX.base (TyOf.int _), kt_int_bool, ?_⟩ | refine ⟨_, _, Value.type "bool", Value.type "bool", true, rfl, ClsV.ty _, TyX.base (TyOf.bl _), kt_bool_bool, ?_⟩ | refine ⟨_, _, Value.type "str", Value.type "bool", false, rfl, ClsV.ty _, TyX.base (TyOf.str _), kt_str_bool, ?_⟩ | refine ⟨_, _, Value.type "NoneType", Value.type "bool", false, rfl, ClsV.ty _, TyX.base TyOf.non, kt_NoneType_bool, ?_⟩ | refine ⟨_, _, Value.type "list", Value.type "bool", false, rfl, ClsV.ty _, tyx_L (by walk_at "sq"), kt_list_bool, ?_⟩ | refine ⟨_, _, Value.type "tuple", Value.type "bool", false, rfl, ClsV.ty _, tyx_T (by walk_at "sq"), kt_tuple_bool, ?_⟩ | refine ⟨_, _, Value.type "int", Value.type "int", true, rfl, ClsV.ty _, TyX.base (TyOf.int _), kt_int_int, ?_⟩ | refine ⟨_, _, Value.type "bool", Value.type "int", true, rfl, ClsV.ty _, TyX.base (TyOf.bl _), kt_bool_int, ?_⟩ | refine ⟨_, _, Value.type "str", Value.type "int", false, rfl, ClsV.ty _, TyX.base (TyOf.str _), kt_str_int, ?_⟩ | refine ⟨_, _, Value.type "NoneType", Value.type "int", false, rfl, ClsV.ty _, TyX.base TyOf.non, kt_NoneType_int, ?_⟩ | refine ⟨_, _, Value.type "list", Value.type "int", false, rfl, ClsV.ty _, tyx_L (by walk_at "sq"), kt_list_int, ?_⟩ | refine ⟨_, _, Value.type "tuple", Value.type "int", false, rfl, ClsV.ty _, tyx_T (by walk_at "sq"), kt_tuple_int, ?_⟩ | refine ⟨_, _, Value.type "int", Value.type "str", false, rfl, ClsV.ty _, TyX.base (TyOf.int _), kt_int_str, ?_⟩ | refine ⟨_, _, Value.type "bool", Value.type "str", false, rfl, ClsV.ty _, TyX.base (TyOf.bl _), kt_bool_str, ?_⟩ | refine ⟨_, _, Value.type "str", Value.type "str", true, rfl, ClsV.ty _, TyX.base (TyOf.str _), kt_str_str, ?_⟩ | refine ⟨_, _, Value.type "NoneType", Value.type "str", false, rfl, ClsV.ty _, TyX.base TyOf.non, kt_NoneType_str, ?_⟩ | refine ⟨_, _, Value.type "list", Value.type "str", false, rfl, ClsV.ty _, tyx_L (by walk_at "sq"), kt_list_str, ?_⟩ | refine ⟨_, _, Value.type "tuple", Value.type "str", false, rfl, ClsV.ty _, tyx_T (by walk_at "sq"), kt_tuple_str, ?_⟩)
local macro_rules | `(tactic| walk_at "go1") => `(tactic| first
  | (refine ⟨_, rfl, ?_⟩)
  | (refine ⟨_, _, rfl, rfl, ?_⟩)
  | (refine ⟨_, _, _, _, rfl, rfl, SqL.of (by walk_at "hp"), rfl, ?_⟩)
  | (refine Or.inl ⟨_, rfl, ?_⟩)
  | (refine ⟨rfl, ?_⟩)
  | (refine ⟨_, _, rfl, .inl (SqL.of (by walk_at "hp")), ?_⟩)
  | (refine ⟨_, _, rfl, Or.inl (by assumption), ?_⟩)
  | (refine ⟨_, _, rfl, Or.inr (by assumption), ?_⟩)
  | (refine ⟨(by walk_at "ok"), ?_⟩)
  | (refine ⟨_, _, _, _, rfl, rfl, (by walk_at "hp"), rfl, ?_⟩))
local macro_rules | `(tactic| walk_at "go") => `(tactic| repeat (walk_at "go1"))
local macro_rules | `(tactic| walk_at "gt") => `(tactic| repeat (first | walk_at "go1" | walk_at "ty"))

section
variable {P : Program} {w : World} {K : PySem.W.Frag} {mg : Str → Option Value} {base : Heap}
theorem Tx.nc (T : Tx K mg) : NoCls K T.C_Ratio := ⟨T.jInt, T.jBool, T.jStr, T.jList, T.jTuple⟩
def spNumK (K : PySem.W.Frag) (C : Addr) : Sp := fun vs H Q _ => ∃ (v : V) (k : Kn), vs = [v] ∧ KnV K C H v k ∧ Q (.bl k.isNum) H
theorem ok_numK (T : Tx K mg) : FnOk P w K mg base CX0 1 T.f_is_number T.d_is_number ["value"] (spNumK K T.C_Ratio) := by
  refine T.F_is_number.ok sc_is_number (fun vs H Q E h => ?_) (fun cdv A outer s H vs Q E hr h => ?_)
  · obtain ⟨v, k, rfl, _⟩ := h
    rfl
  obtain ⟨v, k, rfl, hk, q⟩ := h
  refine ⟨_, (pss_one (ps_ret (pe_and (pe_callB (show CallR _ _ (rIsi K) from call_isi) (by rfl) T.z_isinstance (by decide +kernel) (pa_cons (pv 0) (pa_cons (pe_bltn (v := .ty "int") (u := .type "int") (by rfl) T.z_int (by decide +kernel) rfl) pa_nil))) (pe_one (pe_not (pe_callB (show CallR _ _ (rIsi K) from call_isi) (by rfl) T.z_isinstance (by decide +kernel) (pa_cons (pv 0) (pa_cons (pe_bltn (v := .ty "bool") (u := .type "bool") (by rfl) T.z_bool (by decide +kernel) rfl) pa_nil)))))))), ?_⟩
  refine ⟨_, rfl, _, _, _, _, _, rfl, ClsV.ty _, hk, kn_int T.nc k, _, rfl, ?_⟩
  cases e : k.isInt
  · have : k.isNum = false := by rw [Kn.isNum, e]; rfl
    rw [this] at q
    exact q
  · refine ⟨_, rfl, _, _, _, _, _, rfl, ClsV.ty _, hk, kn_bool T.nc k, _, rfl, ?_⟩
    have : k.isNum = !k.isBool := by rw [Kn.isNum, e]; rfl
    rw [this] at q
    exact q
def spListK (K : PySem.W.Frag) (C : Addr) : Sp := fun vs H Q _ => ∃ (v : V) (k : Kn), vs = [v] ∧ KnV K C H v k ∧ (∀ H', Same H H' → KnV K C H' v k) ∧ ∀ H', Same H H' → Q (.bl (k.isList || k.isTup)) H'
end
end TL
namespace TL
open PySem L2

/-! ### steps of a reading -/
local macro_rules | `(tactic| walk_at "hp") => `(tactic| first | assumption | exact upd_same | (refine (upd_ne (by first | assumption | (exact Ne.symm (by assumption)))).trans ?_; walk_at "hp"))
local macro_rules | `(tactic| walk_at "ok") => `(tactic| first | (exact Or.inr ⟨by decide, by decide⟩) | (exact ⟨by decide, by decide⟩) | (exact ⟨by decide, by decide, by decide⟩) | (show _ ≠ _; omega) | (show _ ≠ _; decide) | (exact Or.inl ⟨by omega, by omega⟩) | decide)
local macro_rules | `(tactic| walk_at "sq") => `(tactic| first | assumption | exact SqL.of (by walk_at "hp") | exact SqT.of (by walk_at "hp"))
local macro_rules | `(tactic| walk_at "ty") => `(tactic| first | refine ⟨_, _, Value.type "int", Value.type "list", false, rfl, ClsV.ty _, TyX.base (TyOf.int _), kt_int_list, ?_⟩ | refine ⟨_, _, Value.type "bool", Value.type "list", false, rfl, ClsV.ty _, TyX.base (TyOf.bl _), kt_bool_list, ?_⟩ | refine ⟨_, _, Value.type "str", Value.type "list", false, rfl, ClsV.ty _, TyX.base (TyOf.str _), kt_str_list, ?_⟩ | refine ⟨_, _, Value.type "NoneType", Value.type "list", false, rfl, ClsV.ty _, TyX.base TyOf.non, kt_NoneType_list, ?_⟩ | refine ⟨_, _, Value.type "list", Value.type "list", true, rfl, ClsV.ty _, tyx_L (by walk_at "sq"), kt_list_list, ?_⟩ | refine ⟨_, _, Value.type "tuple", Value.type "list", false, rfl, ClsV.ty _, tyx_T (by walk_at "sq"), kt_tuple_list, ?_⟩ | refine ⟨_, _, Value.type "int", Value.type "tuple", false, rfl, ClsV.ty _, TyX.base (TyOf.int _), kt_int_tuple, ?_⟩ | refine ⟨_, _, Value.type "bool", Value.type "tuple", false, rfl, ClsV.ty _, TyX.base (TyOf.bl _), kt_bool_tuple, ?_⟩ | refine ⟨_, _, Value.type "str", Value.type "tuple", false, rfl, ClsV.ty _, TyX.base (TyOf.str _), kt_str_tuple, ?_⟩ | refine ⟨_, _, Value.type "NoneType", Value.type "tuple", false, rfl, ClsV.ty _, TyX.base TyOf.non, kt_NoneType_tuple, ?_⟩ | refine ⟨_, _, Value.type "list", Value.type "tuple", false, rfl, ClsV.ty _, tyx_L (by walk_at "sq"), kt_list_tuple, ?_⟩ | refine ⟨_, _, Value.type "tuple", Value.type "tuple", true, rfl, ClsV.ty _, tyx_T (by walk_at "sq"), kt_tuple_tuple, ?_⟩ | refine ⟨_, _, Value.type "int", Value.type "bool", false, rfl, ClsV.ty _, TyX.base (TyOf.int _), kt_int_bool, ?_⟩ | refine ⟨_, _, Value.type "bool", Value.type "bool", true, rfl, ClsV.ty _, TyX.base (TyOf.bl _), kt_bool_bool, ?_⟩ | refine ⟨_, _, Value.type "str", Value.type "bool", false, rfl, ClsV.ty _, TyX.base (TyOf.str _), kt_str_bool, ?_⟩ | refine ⟨_, _, Value.type "NoneType", Value.type "bool", false, rfl, ClsV.ty _, TyX.base TyOf.non, kt_NoneType_bool, ?_⟩ | refine ⟨_, _, Value.type "list", Value.type "bool", false, rfl, ClsV.ty _, tyx_L (by walk_at "sq"), kt_list_bool, ?_⟩ | refine ⟨_, _, Value.type "tuple", Value.type "bool", false, rfl, ClsV.ty _, tyx_T (by walk_at "sq"), kt_tuple_bool, ?_⟩ | refine ⟨_, _, Value.type "int", Value.type "int", true, rfl, ClsV.ty _, TyX.base (TyOf.int _), kt_int_int, ?_⟩ | refine ⟨_, _, Value.type "bool", Value.type "int", true, rfl, ClsV.ty _, TyX.base (TyOf.bl _), kt_bool_int, ?_⟩ | refine ⟨_, _, Value.type "str", Value.type "int", false, rfl, ClsV.ty _, TyX.base (TyOf.str _), kt_str_int, ?_⟩ | refine ⟨_, _, Value.type "NoneType", Value.type "int", false, rfl, ClsV.ty _, TyX.base TyOf.non, kt_NoneType_int, ?_⟩ | refine ⟨_, _, Value.type "list", Value.type "int", false, rfl, ClsV.ty _, tyx_L (by walk_at "sq"), kt_list_int, ?_⟩ | refine ⟨_, _, Value.type "tuple", Value.type "int", false, rfl, ClsV.ty _, tyx_T (by walk_at "sq"), kt_tuple_int, ?_⟩ | refine ⟨_, _, Value.type "int", Value.type "str", false, rfl, ClsV.ty _, TyX.base (TyOf.int _), kt_int_str, ?_⟩ | refine ⟨_, _, Value.type "bool", Value.type "str", false, rfl, ClsV.ty _, TyX.base (TyOf.bl _), kt_bool_str, ?_⟩ | refine ⟨_, _, Value.type "str", Value.type "str", true, rfl, ClsV.ty _, TyX.base (TyOf.str _), kt_str_str, ?_⟩ | refine ⟨_, _, Value.type "NoneType", Value.type "str", false, rfl, ClsV.ty _, TyX.base TyOf.non, kt_NoneType_str, ?_⟩ | refine ⟨_, _, Value.type "list", Value.type "str", false, rfl, ClsV.ty _, tyx_L (by walk_at "sq"), kt_list_str, ?_⟩ | refine ⟨_, _, Value.type "tuple", Value.type "str", false, rfl, ClsV.ty _, tyx_T (by walk_at "sq"), kt_tuple_str, ?_⟩)
local macro_rules | `(tactic| walk_at "go1") => `(tactic| first
  | (refine ⟨_, rfl, ?_⟩)
  | (refine ⟨_, _, rfl, rfl, ?_⟩)
  | (refine ⟨_, _, _, _, rfl, rfl, SqL.of (by walk_at "hp"), rfl, ?_⟩)
  | (refine Or.inl ⟨_, rfl, ?_⟩)
  | (refine ⟨rfl, ?_⟩)
  | (refine ⟨_, _, rfl, .inl (SqL.of (by walk_at "hp")), ?_⟩)
  | (refine ⟨_, _, rfl, Or.inl (by assumption), ?_⟩)
  | (refine ⟨_, _, rfl, Or.inr (by assumption), ?_⟩)
  | (refine ⟨(by walk_at "ok"), ?_⟩)
  | (refine ⟨_, _, _, _, rfl, rfl, (by walk_at "hp"), rfl, ?_⟩))
local macro_rules | `(tactic| walk_at "go") => `(tactic| repeat (walk_at "go1"))
local macro_rules | `(tactic| walk_at "gt") => `(tactic| repeat (first | walk_at "go1" | walk_at "ty"))

section
variable {P : Program} {w : World} {K : PySem.W.Frag} {mg : Str → Option Value} {base : Heap}
/-! ### _law_like of equal data -/
def spLike (K : PySem.W.Frag) (m : Nat) : Sp := fun vs H Q _ => ∃ (n : Nat) (x y : V), vs = [x, y] ∧ n < m ∧ DEq K H n x y ∧ ∀ H', Same H H' → Q (.bl true) H'
theorem ok_like_step (T : Tx K mg) {m : Nat} (G_l_like : FnOk P w K mg base CX0 m T.f_l_like T.d_l_like ["_law_found", "_law_due"] (spLike K m)) : FnOk P w K mg base CX0 (m + 1) T.f_l_like T.d_l_like ["_law_found", "_law_due"] (spLike K (m + 1)) := by
  refine T.F_l_like.ok sc_l_like (fun vs H Q E h => ?_) (fun cdv A outer s H vs Q E hr h => ?_)
  · obtain ⟨n, x, y, rfl, _⟩ := h
    rfl
  obtain ⟨n, x, y, rfl, hm, hd, q⟩ := h
  have nd := sc_l_like.nd
  have J := T.nc
  have flat : ∀ (x : V) (k : Kn), (∀ H', KnV K T.C_Ratio H' x k) → k.isList = false → k.isTup = false → x ≠ .non → scal x x = true → (∀ H', Same H H' → Q (.bl (decide (x = x))) H') → ∃ t, PSs (cxOf CX0 P w K mg base N_l_like (Str.ofString "_law_like") (defScope s_l_like) T.f_l_like cdv A outer s H E).nox (defBody s_l_like) t ∧ t { nx := fun _ H' => Q .non H', rt := Q } (L2.start N_l_like [x, x]) H := fun x k hk h1 h2 h3 h4 q => by
    have h12 : (k.isList || k.isTup) = false := by rw [h1, h2]; rfl
    refine ⟨_, (pss_cons (ps_if (pt_val (pe_callB (show CallR _ _ (rIsiT K) from call_isiT) (by rfl) T.z_isinstance (by decide +kernel) (pa_cons (pv 1) (pa_cons (pe_tup (pa_cons (pe_bltn (v := .ty "list") (u := .type "list") (by rfl) T.z_list (by decide +kernel) rfl) (pa_cons (pe_bltn (v := .ty "tuple") (u := .type "tuple") (by rfl) T.z_tuple (by decide +kernel) rfl) pa_nil))) pa_nil)))) (pss_cons (ps_if (PW.pt (pw_or (pt_cmpR op_ne (pe_callB (show CallR _ _ (rIsi K) from call_isi) (by rfl) T.z_isinstance (by decide +kernel) (pa_cons (pv 0) (pa_cons (pe_bltn (v := .ty "list") (u := .type "list") (by rfl) T.z_list (by decide +kernel) rfl) pa_nil))) (pe_callB (show CallR _ _ (rIsi K) from call_isi) (by rfl) T.z_isinstance (by decide +kernel) (pa_cons (pv 1) (pa_cons (pe_bltn (v := .ty "list") (u := .type "list") (by rfl) T.z_list (by decide +kernel) rfl) pa_nil))) (nomark _)) (pw_or1 (pt_cmpR op_ne (pe_callB (show CallR _ _ (rIsi K) from call_isi) (by rfl) T.z_isinstance (by decide +kernel) (pa_cons (pv 0) (pa_cons (pe_bltn (v := .ty "tuple") (u := .type "tuple") (by rfl) T.z_tuple (by decide +kernel) rfl) pa_nil))) (pe_callB (show CallR _ _ (rIsi K) from call_isi) (by rfl) T.z_isinstance (by decide +kernel) (pa_cons (pv 1) (pa_cons (pe_bltn (v := .ty "tuple") (u := .type "tuple") (by rfl) T.z_tuple (by decide +kernel) rfl) pa_nil))) (nomark _))))) (pss_one (ps_ret pe_bl)) pss_nil)
    (pss_one (ps_ret (pe_and (pe_cmpR op_eq (pe_callB (show CallR _ _ (rLenSq K) from call_len_seq) (by rfl) T.z_len (by decide +kernel) (pa_cons (pv 0) pa_nil)) (pe_callB (show CallR _ _ (rLenSq K) from call_len_seq) (by rfl) T.z_len (by decide +kernel) (pa_cons (pv 1) pa_nil)) (nomark _)) (pe_one (pe_callB (show CallR _ _ (rAll K) from cr_all rfl) (by rfl) T.z_all (by decide +kernel) (pa_cons (pe_lc (own := [("_law_a", 2), ("_law_b", 3)]) (g := (gTup K 2 (gCons (gName 2) (gCons (gName 3) gNil)))) rfl nd (show PI _ _ _ (RZ.iZipA K _) from RZ.pi_zipA (by rfl) T.z_zip (pa_cons (pv 0) (pa_cons (pv 1) pa_nil))) (blkOk_by (own := [("_law_a", 2), ("_law_b", 3)]) (N := N_l_like) (sc := defScope s_l_like) (by decide +kernel)) (fun _ _ _ _ _ => by exact (pg_tup rfl (pgs_cons (pg_name (i := 2) nd rfl (Or.inl rfl)) (pgs_cons (pg_name (i := 3) nd rfl (Or.inl rfl)) pgs_nil)))) (fun _ _ _ _ _ => by exact pts_nil) (fun _ _ _ _ _ => by exact (pe_call G_l_like hr (by rfl) T.m_l_like T.F_l_like.kp T.b_l_like .nil pass0 (pa_cons (pv 2) (pa_cons (pv 3) pa_nil))))) pa_nil))))))) pss_nil)
    (pss_cons (ps_if (PW.pt (pw_or (pt_cmpR op_isN (pv 1) pe_non (nomark _)) (pw_or1 (pt_cmpR op_isN (pv 0) pe_non (nomark _))))) (pss_one (ps_ret (pe_and (pe_cmpR op_isN (pv 1) pe_non (nomark _)) (pe_one (pe_cmpR op_isN (pv 0) pe_non (nomark _)))))) pss_nil)
    (pss_cons (ps_if (PW.pt (pw_or (pt_val (pe_callB (show CallR _ _ (rIsiT K) from call_isiT) (by rfl) T.z_isinstance (by decide +kernel) (pa_cons (pv 0) (pa_cons (pe_tup (pa_cons (pe_bltn (v := .ty "list") (u := .type "list") (by rfl) T.z_list (by decide +kernel) rfl) (pa_cons (pe_bltn (v := .ty "tuple") (u := .type "tuple") (by rfl) T.z_tuple (by decide +kernel) rfl) pa_nil))) pa_nil)))) (pw_or1 (pt_cmpR op_ne (pe_callB (show CallR _ _ (rIsi K) from call_isi) (by rfl) T.z_isinstance (by decide +kernel) (pa_cons (pv 0) (pa_cons (pe_bltn (v := .ty "bool") (u := .type "bool") (by rfl) T.z_bool (by decide +kernel) rfl) pa_nil))) (pe_callB (show CallR _ _ (rIsi K) from call_isi) (by rfl) T.z_isinstance (by decide +kernel) (pa_cons (pv 1) (pa_cons (pe_bltn (v := .ty "bool") (u := .type "bool") (by rfl) T.z_bool (by decide +kernel) rfl) pa_nil))) (nomark _))))) (pss_one (ps_ret pe_bl)) pss_nil)
    (pss_cons (ps_if (pt_cmpR op_ne (pe_callB (show CallR _ _ (rIsi K) from call_isi) (by rfl) T.z_isinstance (by decide +kernel) (pa_cons (pv 0) (pa_cons (pe_bltn (v := .ty "int") (u := .type "int") (by rfl) T.z_int (by decide +kernel) rfl) pa_nil))) (pe_callB (show CallR _ _ (rIsi K) from call_isi) (by rfl) T.z_isinstance (by decide +kernel) (pa_cons (pv 1) (pa_cons (pe_bltn (v := .ty "int") (u := .type "int") (by rfl) T.z_int (by decide +kernel) rfl) pa_nil))) (nomark _)) (pss_one (ps_ret pe_bl)) pss_nil)
    (pss_one (ps_ret (pe_and (pe_cmpR op_eq (pe_callB (show CallR _ _ (rIsi K) from call_isi) (by rfl) T.z_isinstance (by decide +kernel) (pa_cons (pv 0) (pa_cons (pe_bltn (v := .ty "str") (u := .type "str") (by rfl) T.z_str (by decide +kernel) rfl) pa_nil))) (pe_callB (show CallR _ _ (rIsi K) from call_isi) (by rfl) T.z_isinstance (by decide +kernel) (pa_cons (pv 1) (pa_cons (pe_bltn (v := .ty "str") (u := .type "str") (by rfl) T.z_str (by decide +kernel) rfl) pa_nil))) (nomark _)) (pe_one (pe_cmpR op_eq (pv 0) (pv 1) (nomark _)))))))))), ?_⟩
    refine ⟨_, rfl, (by show 2 ≤ sizeLine; decide), fun p hp => ⟨x, p, _, _, [.type "list", .type "tuple"], _, rfl, upd_same, .cons (.ty _) (.cons (.ty _) .nil), hk _, kn_lt J k, _, rfl, ?_⟩⟩
    refine iteF' h12 ?_
    have d3 : decide (x = V.non) = false := decide_eq_false h3
    refine ⟨_, rfl, rfl, _, rfl, ?_⟩
    rw [d3]
    refine iteF' rfl ?_
    refine ⟨_, rfl, rfl, _, rfl, ?_⟩
    rw [d3]
    refine iteF' rfl ?_
    refine ⟨_, rfl, (by show 2 ≤ sizeLine; decide), fun p2 hp2 => ⟨x, p2, _, _, [.type "list", .type "tuple"], _, rfl, upd_same, .cons (.ty _) (.cons (.ty _) .nil), hk _, kn_lt J k, _, rfl, ?_⟩⟩
    refine iteF' h12 ?_
    refine ⟨_, rfl, _, _, _, _, _, rfl, ClsV.ty _, hk _, kn_bool J k, _, rfl, _, _, _, _, _, rfl, ClsV.ty _, hk _, kn_bool J k, rfl, _, rfl, ?_⟩
    refine iteF' (by rw [decide_eq_true rfl]; rfl) ?_
    refine ⟨_, rfl, _, _, _, _, _, rfl, ClsV.ty _, hk _, kn_int J k, _, rfl, _, _, _, _, _, rfl, ClsV.ty _, hk _, kn_int J k, rfl, _, rfl, ?_⟩
    refine iteF' (by rw [decide_eq_true rfl]; rfl) ?_
    refine ⟨_, rfl, _, _, _, _, _, rfl, ClsV.ty _, hk _, kn_str J k, _, rfl, _, _, _, _, _, rfl, ClsV.ty _, hk _, kn_str J k, rfl, _, rfl, ?_⟩
    rw [decide_eq_true (rfl : V.bl k.isStr = V.bl k.isStr)]
    refine ⟨_, rfl, _, rfl, h4, ?_⟩
    exact q _ ((Same.new hp).trans (Same.new hp2))
  cases hd with
  | int i =>
    refine flat (.int i) .int (fun _ => .i) rfl rfl (fun z => by cases z) rfl fun H' s => ?_
    rw [decide_eq_true rfl]
    exact q H' s
  | bl b =>
    refine flat (.bl b) .bool (fun _ => .b) rfl rfl (fun z => by cases z) rfl fun H' s => ?_
    rw [decide_eq_true rfl]
    exact q H' s
  | str x =>
    refine flat (.str x) .str (fun _ => .s) rfl rfl (fun z => by cases z) rfl fun H' s => ?_
    rw [decide_eq_true rfl]
    exact q H' s
  | non =>
    refine ⟨_, (pss_cons (ps_if (pt_val (pe_callB (show CallR _ _ (rIsiT K) from call_isiT) (by rfl) T.z_isinstance (by decide +kernel) (pa_cons (pv 1) (pa_cons (pe_tup (pa_cons (pe_bltn (v := .ty "list") (u := .type "list") (by rfl) T.z_list (by decide +kernel) rfl) (pa_cons (pe_bltn (v := .ty "tuple") (u := .type "tuple") (by rfl) T.z_tuple (by decide +kernel) rfl) pa_nil))) pa_nil)))) (pss_cons (ps_if (PW.pt (pw_or (pt_cmpR op_ne (pe_callB (show CallR _ _ (rIsi K) from call_isi) (by rfl) T.z_isinstance (by decide +kernel) (pa_cons (pv 0) (pa_cons (pe_bltn (v := .ty "list") (u := .type "list") (by rfl) T.z_list (by decide +kernel) rfl) pa_nil))) (pe_callB (show CallR _ _ (rIsi K) from call_isi) (by rfl) T.z_isinstance (by decide +kernel) (pa_cons (pv 1) (pa_cons (pe_bltn (v := .ty "list") (u := .type "list") (by rfl) T.z_list (by decide +kernel) rfl) pa_nil))) (nomark _)) (pw_or1 (pt_cmpR op_ne (pe_callB (show CallR _ _ (rIsi K) from call_isi) (by rfl) T.z_isinstance (by decide +kernel) (pa_cons (pv 0) (pa_cons (pe_bltn (v := .ty "tuple") (u := .type "tuple") (by rfl) T.z_tuple (by decide +kernel) rfl) pa_nil))) (pe_callB (show CallR _ _ (rIsi K) from call_isi) (by rfl) T.z_isinstance (by decide +kernel) (pa_cons (pv 1) (pa_cons (pe_bltn (v := .ty "tuple") (u := .type "tuple") (by rfl) T.z_tuple (by decide +kernel) rfl) pa_nil))) (nomark _))))) (pss_one (ps_ret pe_bl)) pss_nil)
    (pss_one (ps_ret (pe_and (pe_cmpR op_eq (pe_callB (show CallR _ _ (rLenSq K) from call_len_seq) (by rfl) T.z_len (by decide +kernel) (pa_cons (pv 0) pa_nil)) (pe_callB (show CallR _ _ (rLenSq K) from call_len_seq) (by rfl) T.z_len (by decide +kernel) (pa_cons (pv 1) pa_nil)) (nomark _)) (pe_one (pe_callB (show CallR _ _ (rAll K) from cr_all rfl) (by rfl) T.z_all (by decide +kernel) (pa_cons (pe_lc (own := [("_law_a", 2), ("_law_b", 3)]) (g := (gTup K 2 (gCons (gName 2) (gCons (gName 3) gNil)))) rfl nd (show PI _ _ _ (RZ.iZipA K _) from RZ.pi_zipA (by rfl) T.z_zip (pa_cons (pv 0) (pa_cons (pv 1) pa_nil))) (blkOk_by (own := [("_law_a", 2), ("_law_b", 3)]) (N := N_l_like) (sc := defScope s_l_like) (by decide +kernel)) (fun _ _ _ _ _ => by exact (pg_tup rfl (pgs_cons (pg_name (i := 2) nd rfl (Or.inl rfl)) (pgs_cons (pg_name (i := 3) nd rfl (Or.inl rfl)) pgs_nil)))) (fun _ _ _ _ _ => by exact pts_nil) (fun _ _ _ _ _ => by exact (pe_call G_l_like hr (by rfl) T.m_l_like T.F_l_like.kp T.b_l_like .nil pass0 (pa_cons (pv 2) (pa_cons (pv 3) pa_nil))))) pa_nil))))))) pss_nil)
    (pss_cons (ps_if (PW.pt (pw_or (pt_cmpR op_isN (pv 1) pe_non (nomark _)) (pw_or1 (pt_cmpR op_isN (pv 0) pe_non (nomark _))))) (pss_one (ps_ret (pe_and (pe_cmpR op_isN (pv 1) pe_non (nomark _)) (pe_one (pe_cmpR op_isN (pv 0) pe_non (nomark _)))))) pss_nil)
    (pss_cons (ps_if (PW.pt (pw_or (pt_val (pe_callB (show CallR _ _ (rIsiT K) from call_isiT) (by rfl) T.z_isinstance (by decide +kernel) (pa_cons (pv 0) (pa_cons (pe_tup (pa_cons (pe_bltn (v := .ty "list") (u := .type "list") (by rfl) T.z_list (by decide +kernel) rfl) (pa_cons (pe_bltn (v := .ty "tuple") (u := .type "tuple") (by rfl) T.z_tuple (by decide +kernel) rfl) pa_nil))) pa_nil)))) (pw_or1 (pt_cmpR op_ne (pe_callB (show CallR _ _ (rIsi K) from call_isi) (by rfl) T.z_isinstance (by decide +kernel) (pa_cons (pv 0) (pa_cons (pe_bltn (v := .ty "bool") (u := .type "bool") (by rfl) T.z_bool (by decide +kernel) rfl) pa_nil))) (pe_callB (show CallR _ _ (rIsi K) from call_isi) (by rfl) T.z_isinstance (by decide +kernel) (pa_cons (pv 1) (pa_cons (pe_bltn (v := .ty "bool") (u := .type "bool") (by rfl) T.z_bool (by decide +kernel) rfl) pa_nil))) (nomark _))))) (pss_one (ps_ret pe_bl)) pss_nil)
    (pss_cons (ps_if (pt_cmpR op_ne (pe_callB (show CallR _ _ (rIsi K) from call_isi) (by rfl) T.z_isinstance (by decide +kernel) (pa_cons (pv 0) (pa_cons (pe_bltn (v := .ty "int") (u := .type "int") (by rfl) T.z_int (by decide +kernel) rfl) pa_nil))) (pe_callB (show CallR _ _ (rIsi K) from call_isi) (by rfl) T.z_isinstance (by decide +kernel) (pa_cons (pv 1) (pa_cons (pe_bltn (v := .ty "int") (u := .type "int") (by rfl) T.z_int (by decide +kernel) rfl) pa_nil))) (nomark _)) (pss_one (ps_ret pe_bl)) pss_nil)
    (pss_one (ps_ret (pe_and (pe_cmpR op_eq (pe_callB (show CallR _ _ (rIsi K) from call_isi) (by rfl) T.z_isinstance (by decide +kernel) (pa_cons (pv 0) (pa_cons (pe_bltn (v := .ty "str") (u := .type "str") (by rfl) T.z_str (by decide +kernel) rfl) pa_nil))) (pe_callB (show CallR _ _ (rIsi K) from call_isi) (by rfl) T.z_isinstance (by decide +kernel) (pa_cons (pv 1) (pa_cons (pe_bltn (v := .ty "str") (u := .type "str") (by rfl) T.z_str (by decide +kernel) rfl) pa_nil))) (nomark _)) (pe_one (pe_cmpR op_eq (pv 0) (pv 1) (nomark _)))))))))), ?_⟩
    refine ⟨_, rfl, (by show 2 ≤ sizeLine; decide), fun p hp => ⟨.non, p, _, _, [.type "list", .type "tuple"], _, rfl, upd_same, .cons (.ty _) (.cons (.ty _) .nil), KnV.n (C := T.C_Ratio), kn_lt J .non, _, rfl, ?_⟩⟩
    refine iteF' rfl ?_
    refine ⟨_, rfl, rfl, _, rfl, ?_⟩
    refine iteT' rfl ?_
    refine ⟨_, rfl, rfl, true, rfl, _, rfl, rfl, ?_⟩
    exact q _ (Same.new hp)
  | @lst n a b xs ys h1 h2 hlen hl he =>
    refine ⟨_, (pss_cons (ps_if (pt_val (pe_callB (show CallR _ _ (rIsiT K) from call_isiT) (by rfl) T.z_isinstance (by decide +kernel) (pa_cons (pv 1) (pa_cons (pe_tup (pa_cons (pe_bltn (v := .ty "list") (u := .type "list") (by rfl) T.z_list (by decide +kernel) rfl) (pa_cons (pe_bltn (v := .ty "tuple") (u := .type "tuple") (by rfl) T.z_tuple (by decide +kernel) rfl) pa_nil))) pa_nil)))) (pss_cons (ps_if (PW.pt (pw_or (pt_cmpR op_ne (pe_callB (show CallR _ _ (rIsi K) from call_isi) (by rfl) T.z_isinstance (by decide +kernel) (pa_cons (pv 0) (pa_cons (pe_bltn (v := .ty "list") (u := .type "list") (by rfl) T.z_list (by decide +kernel) rfl) pa_nil))) (pe_callB (show CallR _ _ (rIsi K) from call_isi) (by rfl) T.z_isinstance (by decide +kernel) (pa_cons (pv 1) (pa_cons (pe_bltn (v := .ty "list") (u := .type "list") (by rfl) T.z_list (by decide +kernel) rfl) pa_nil))) (nomark _)) (pw_or1 (pt_cmpR op_ne (pe_callB (show CallR _ _ (rIsi K) from call_isi) (by rfl) T.z_isinstance (by decide +kernel) (pa_cons (pv 0) (pa_cons (pe_bltn (v := .ty "tuple") (u := .type "tuple") (by rfl) T.z_tuple (by decide +kernel) rfl) pa_nil))) (pe_callB (show CallR _ _ (rIsi K) from call_isi) (by rfl) T.z_isinstance (by decide +kernel) (pa_cons (pv 1) (pa_cons (pe_bltn (v := .ty "tuple") (u := .type "tuple") (by rfl) T.z_tuple (by decide +kernel) rfl) pa_nil))) (nomark _))))) (pss_one (ps_ret pe_bl)) pss_nil)
    (pss_one (ps_ret (pe_and (pe_cmpR op_eq (pe_callB (show CallR _ _ (rLenSq K) from call_len_seq) (by rfl) T.z_len (by decide +kernel) (pa_cons (pv 0) pa_nil)) (pe_callB (show CallR _ _ (rLenSq K) from call_len_seq) (by rfl) T.z_len (by decide +kernel) (pa_cons (pv 1) pa_nil)) (nomark _)) (pe_one (pe_callB (show CallR _ _ (rAll K) from cr_all rfl) (by rfl) T.z_all (by decide +kernel) (pa_cons (pe_lc (own := [("_law_a", 2), ("_law_b", 3)]) (g := (gTup K 2 (gCons (gName 2) (gCons (gName 3) gNil)))) rfl nd (show PI _ _ _ (RZ.iZipA K _) from RZ.pi_zipA (by rfl) T.z_zip (pa_cons (pv 0) (pa_cons (pv 1) pa_nil))) (blkOk_by (own := [("_law_a", 2), ("_law_b", 3)]) (N := N_l_like) (sc := defScope s_l_like) (by decide +kernel)) (fun _ _ _ _ _ => by exact (pg_tup rfl (pgs_cons (pg_name (i := 2) nd rfl (Or.inl rfl)) (pgs_cons (pg_name (i := 3) nd rfl (Or.inl rfl)) pgs_nil)))) (fun _ _ _ _ _ => by exact pts_nil) (fun _ _ _ _ _ => by exact (pe_call G_l_like hr (by rfl) T.m_l_like T.F_l_like.kp T.b_l_like .nil pass0 (pa_cons (pv 2) (pa_cons (pv 3) pa_nil))))) pa_nil))))))) pss_nil)
    (pss_cons (ps_if (PW.pt (pw_or (pt_cmpR op_isN (pv 1) pe_non (nomark _)) (pw_or1 (pt_cmpR op_isN (pv 0) pe_non (nomark _))))) (pss_one (ps_ret (pe_and (pe_cmpR op_isN (pv 1) pe_non (nomark _)) (pe_one (pe_cmpR op_isN (pv 0) pe_non (nomark _)))))) pss_nil)
    (pss_cons (ps_if (PW.pt (pw_or (pt_val (pe_callB (show CallR _ _ (rIsiT K) from call_isiT) (by rfl) T.z_isinstance (by decide +kernel) (pa_cons (pv 0) (pa_cons (pe_tup (pa_cons (pe_bltn (v := .ty "list") (u := .type "list") (by rfl) T.z_list (by decide +kernel) rfl) (pa_cons (pe_bltn (v := .ty "tuple") (u := .type "tuple") (by rfl) T.z_tuple (by decide +kernel) rfl) pa_nil))) pa_nil)))) (pw_or1 (pt_cmpR op_ne (pe_callB (show CallR _ _ (rIsi K) from call_isi) (by rfl) T.z_isinstance (by decide +kernel) (pa_cons (pv 0) (pa_cons (pe_bltn (v := .ty "bool") (u := .type "bool") (by rfl) T.z_bool (by decide +kernel) rfl) pa_nil))) (pe_callB (show CallR _ _ (rIsi K) from call_isi) (by rfl) T.z_isinstance (by decide +kernel) (pa_cons (pv 1) (pa_cons (pe_bltn (v := .ty "bool") (u := .type "bool") (by rfl) T.z_bool (by decide +kernel) rfl) pa_nil))) (nomark _))))) (pss_one (ps_ret pe_bl)) pss_nil)
    (pss_cons (ps_if (pt_cmpR op_ne (pe_callB (show CallR _ _ (rIsi K) from call_isi) (by rfl) T.z_isinstance (by decide +kernel) (pa_cons (pv 0) (pa_cons (pe_bltn (v := .ty "int") (u := .type "int") (by rfl) T.z_int (by decide +kernel) rfl) pa_nil))) (pe_callB (show CallR _ _ (rIsi K) from call_isi) (by rfl) T.z_isinstance (by decide +kernel) (pa_cons (pv 1) (pa_cons (pe_bltn (v := .ty "int") (u := .type "int") (by rfl) T.z_int (by decide +kernel) rfl) pa_nil))) (nomark _)) (pss_one (ps_ret pe_bl)) pss_nil)
    (pss_one (ps_ret (pe_and (pe_cmpR op_eq (pe_callB (show CallR _ _ (rIsi K) from call_isi) (by rfl) T.z_isinstance (by decide +kernel) (pa_cons (pv 0) (pa_cons (pe_bltn (v := .ty "str") (u := .type "str") (by rfl) T.z_str (by decide +kernel) rfl) pa_nil))) (pe_callB (show CallR _ _ (rIsi K) from call_isi) (by rfl) T.z_isinstance (by decide +kernel) (pa_cons (pv 1) (pa_cons (pe_bltn (v := .ty "str") (u := .type "str") (by rfl) T.z_str (by decide +kernel) rfl) pa_nil))) (nomark _)) (pe_one (pe_cmpR op_eq (pv 0) (pv 1) (nomark _)))))))))), ?_⟩
    refine ⟨_, rfl, (by show 2 ≤ sizeLine; decide), fun p hp => ?_⟩
    have s1 := Same.new (o := .tup [.ty "list", .ty "tuple"]) hp
    have g1 := s1.seq h1
    have g2 := s1.seq h2
    refine ⟨_, p, _, _, [.type "list", .type "tuple"], _, rfl, upd_same, .cons (.ty _) (.cons (.ty _) .nil), KnV.l (C := T.C_Ratio) g2, kn_lt J .list, _, rfl, ?_⟩
    refine iteT' rfl ?_
    refine ⟨_, rfl, _, _, _, _, _, rfl, ClsV.ty _, KnV.l (C := T.C_Ratio) g1, kn_list J .list, _, rfl, _, _, _, _, _, rfl, ClsV.ty _, KnV.l (C := T.C_Ratio) g2, kn_list J .list, rfl, _, rfl, ?_⟩
    refine iteF' (by rw [decide_eq_true rfl]; rfl) ?_
    refine ⟨_, rfl, _, _, _, _, _, rfl, ClsV.ty _, KnV.l (C := T.C_Ratio) g1, kn_tup J .list, _, rfl, _, _, _, _, _, rfl, ClsV.ty _, KnV.l (C := T.C_Ratio) g2, kn_tup J .list, rfl, _, rfl, ?_⟩
    refine iteF' (by rw [decide_eq_true rfl]; rfl) ?_
    refine ⟨_, rfl, a, xs, rfl, .inl g1, _, rfl, b, ys, rfl, .inl g2, rfl, true, congrArg V.bl (decide_eq_true (by rw [hl])), ?_⟩
    refine ⟨_, rfl, _, rfl, a, b, xs, ys, rfl, .inl ⟨g1, g2, fun D hD => ?_⟩⟩
    refine lcm (walk_zip (n := xs.length) (by omega)) (List.replicate xs.length (V.bl true)) (by simp) hlen hD (fun H' s => ⟨s.seq g1, s.seq g2⟩) ?_ ?_
    · rintro i y x H1 H2 hi hy s3 ⟨Tp, u, z, rfl, hT, rfl, hu, hz⟩ k hk
      obtain rfl := rep_get hy
      have s2 : Same H1 (upd H1 Tp (.tup [u, z])) := Same.new hT
      refine ⟨Tp, [u, z], rfl, SqT.of upd_same, rfl, u, [z], rfl, z, [], rfl, rfl, rfl, ?_⟩
      exact ⟨_, rfl, _, rfl, n, u, z, rfl, by omega, (he i u z hu hz).same ((s1.trans s3).trans s2), fun H4 s4 => hk H4 (s2.trans s4)⟩
    · intro H' s3 hD'
      refine ⟨D, List.replicate xs.length true, rfl, SqL.of (by rw [hD', List.map_replicate]), ?_⟩
      rw [all_rep]
      exact q H' (s1.trans s3)
  | @tup n a b xs ys h1 h2 hlen hl he =>
    refine ⟨_, (pss_cons (ps_if (pt_val (pe_callB (show CallR _ _ (rIsiT K) from call_isiT) (by rfl) T.z_isinstance (by decide +kernel) (pa_cons (pv 1) (pa_cons (pe_tup (pa_cons (pe_bltn (v := .ty "list") (u := .type "list") (by rfl) T.z_list (by decide +kernel) rfl) (pa_cons (pe_bltn (v := .ty "tuple") (u := .type "tuple") (by rfl) T.z_tuple (by decide +kernel) rfl) pa_nil))) pa_nil)))) (pss_cons (ps_if (PW.pt (pw_or (pt_cmpR op_ne (pe_callB (show CallR _ _ (rIsi K) from call_isi) (by rfl) T.z_isinstance (by decide +kernel) (pa_cons (pv 0) (pa_cons (pe_bltn (v := .ty "list") (u := .type "list") (by rfl) T.z_list (by decide +kernel) rfl) pa_nil))) (pe_callB (show CallR _ _ (rIsi K) from call_isi) (by rfl) T.z_isinstance (by decide +kernel) (pa_cons (pv 1) (pa_cons (pe_bltn (v := .ty "list") (u := .type "list") (by rfl) T.z_list (by decide +kernel) rfl) pa_nil))) (nomark _)) (pw_or1 (pt_cmpR op_ne (pe_callB (show CallR _ _ (rIsi K) from call_isi) (by rfl) T.z_isinstance (by decide +kernel) (pa_cons (pv 0) (pa_cons (pe_bltn (v := .ty "tuple") (u := .type "tuple") (by rfl) T.z_tuple (by decide +kernel) rfl) pa_nil))) (pe_callB (show CallR _ _ (rIsi K) from call_isi) (by rfl) T.z_isinstance (by decide +kernel) (pa_cons (pv 1) (pa_cons (pe_bltn (v := .ty "tuple") (u := .type "tuple") (by rfl) T.z_tuple (by decide +kernel) rfl) pa_nil))) (nomark _))))) (pss_one (ps_ret pe_bl)) pss_nil)
    (pss_one (ps_ret (pe_and (pe_cmpR op_eq (pe_callB (show CallR _ _ (rLenSq K) from call_len_seq) (by rfl) T.z_len (by decide +kernel) (pa_cons (pv 0) pa_nil)) (pe_callB (show CallR _ _ (rLenSq K) from call_len_seq) (by rfl) T.z_len (by decide +kernel) (pa_cons (pv 1) pa_nil)) (nomark _)) (pe_one (pe_callB (show CallR _ _ (rAll K) from cr_all rfl) (by rfl) T.z_all (by decide +kernel) (pa_cons (pe_lc (own := [("_law_a", 2), ("_law_b", 3)]) (g := (gTup K 2 (gCons (gName 2) (gCons (gName 3) gNil)))) rfl nd (show PI _ _ _ (RZ.iZipA K _) from RZ.pi_zipA (by rfl) T.z_zip (pa_cons (pv 0) (pa_cons (pv 1) pa_nil))) (blkOk_by (own := [("_law_a", 2), ("_law_b", 3)]) (N := N_l_like) (sc := defScope s_l_like) (by decide +kernel)) (fun _ _ _ _ _ => by exact (pg_tup rfl (pgs_cons (pg_name (i := 2) nd rfl (Or.inl rfl)) (pgs_cons (pg_name (i := 3) nd rfl (Or.inl rfl)) pgs_nil)))) (fun _ _ _ _ _ => by exact pts_nil) (fun _ _ _ _ _ => by exact (pe_call G_l_like hr (by rfl) T.m_l_like T.F_l_like.kp T.b_l_like .nil pass0 (pa_cons (pv 2) (pa_cons (pv 3) pa_nil))))) pa_nil))))))) pss_nil)
    (pss_cons (ps_if (PW.pt (pw_or (pt_cmpR op_isN (pv 1) pe_non (nomark _)) (pw_or1 (pt_cmpR op_isN (pv 0) pe_non (nomark _))))) (pss_one (ps_ret (pe_and (pe_cmpR op_isN (pv 1) pe_non (nomark _)) (pe_one (pe_cmpR op_isN (pv 0) pe_non (nomark _)))))) pss_nil)
    (pss_cons (ps_if (PW.pt (pw_or (pt_val (pe_callB (show CallR _ _ (rIsiT K) from call_isiT) (by rfl) T.z_isinstance (by decide +kernel) (pa_cons (pv 0) (pa_cons (pe_tup (pa_cons (pe_bltn (v := .ty "list") (u := .type "list") (by rfl) T.z_list (by decide +kernel) rfl) (pa_cons (pe_bltn (v := .ty "tuple") (u := .type "tuple") (by rfl) T.z_tuple (by decide +kernel) rfl) pa_nil))) pa_nil)))) (pw_or1 (pt_cmpR op_ne (pe_callB (show CallR _ _ (rIsi K) from call_isi) (by rfl) T.z_isinstance (by decide +kernel) (pa_cons (pv 0) (pa_cons (pe_bltn (v := .ty "bool") (u := .type "bool") (by rfl) T.z_bool (by decide +kernel) rfl) pa_nil))) (pe_callB (show CallR _ _ (rIsi K) from call_isi) (by rfl) T.z_isinstance (by decide +kernel) (pa_cons (pv 1) (pa_cons (pe_bltn (v := .ty "bool") (u := .type "bool") (by rfl) T.z_bool (by decide +kernel) rfl) pa_nil))) (nomark _))))) (pss_one (ps_ret pe_bl)) pss_nil)
    (pss_cons (ps_if (pt_cmpR op_ne (pe_callB (show CallR _ _ (rIsi K) from call_isi) (by rfl) T.z_isinstance (by decide +kernel) (pa_cons (pv 0) (pa_cons (pe_bltn (v := .ty "int") (u := .type "int") (by rfl) T.z_int (by decide +kernel) rfl) pa_nil))) (pe_callB (show CallR _ _ (rIsi K) from call_isi) (by rfl) T.z_isinstance (by decide +kernel) (pa_cons (pv 1) (pa_cons (pe_bltn (v := .ty "int") (u := .type "int") (by rfl) T.z_int (by decide +kernel) rfl) pa_nil))) (nomark _)) (pss_one (ps_ret pe_bl)) pss_nil)
    (pss_one (ps_ret (pe_and (pe_cmpR op_eq (pe_callB (show CallR _ _ (rIsi K) from call_isi) (by rfl) T.z_isinstance (by decide +kernel) (pa_cons (pv 0) (pa_cons (pe_bltn (v := .ty "str") (u := .type "str") (by rfl) T.z_str (by decide +kernel) rfl) pa_nil))) (pe_callB (show CallR _ _ (rIsi K) from call_isi) (by rfl) T.z_isinstance (by decide +kernel) (pa_cons (pv 1) (pa_cons (pe_bltn (v := .ty "str") (u := .type "str") (by rfl) T.z_str (by decide +kernel) rfl) pa_nil))) (nomark _)) (pe_one (pe_cmpR op_eq (pv 0) (pv 1) (nomark _)))))))))), ?_⟩
    refine ⟨_, rfl, (by show 2 ≤ sizeLine; decide), fun p hp => ?_⟩
    have s1 := Same.new (o := .tup [.ty "list", .ty "tuple"]) hp
    have g1 := seqT s1 h1
    have g2 := seqT s1 h2
    refine ⟨_, p, _, _, [.type "list", .type "tuple"], _, rfl, upd_same, .cons (.ty _) (.cons (.ty _) .nil), KnV.t (C := T.C_Ratio) g2, kn_lt J .tup, _, rfl, ?_⟩
    refine iteT' rfl ?_
    refine ⟨_, rfl, _, _, _, _, _, rfl, ClsV.ty _, KnV.t (C := T.C_Ratio) g1, kn_list J .tup, _, rfl, _, _, _, _, _, rfl, ClsV.ty _, KnV.t (C := T.C_Ratio) g2, kn_list J .tup, rfl, _, rfl, ?_⟩
    refine iteF' (by rw [decide_eq_true rfl]; rfl) ?_
    refine ⟨_, rfl, _, _, _, _, _, rfl, ClsV.ty _, KnV.t (C := T.C_Ratio) g1, kn_tup J .tup, _, rfl, _, _, _, _, _, rfl, ClsV.ty _, KnV.t (C := T.C_Ratio) g2, kn_tup J .tup, rfl, _, rfl, ?_⟩
    refine iteF' (by rw [decide_eq_true rfl]; rfl) ?_
    refine ⟨_, rfl, a, xs, rfl, .inr g1, _, rfl, b, ys, rfl, .inr g2, rfl, true, congrArg V.bl (decide_eq_true (by rw [hl])), ?_⟩
    refine ⟨_, rfl, _, rfl, a, b, xs, ys, rfl, .inr ⟨g1, g2, fun D hD => ?_⟩⟩
    refine lcm (walk_zipT (n := xs.length) (by omega)) (List.replicate xs.length (V.bl true)) (by simp) hlen hD (fun H' s => ⟨seqT s g1, seqT s g2⟩) ?_ ?_
    · rintro i y x H1 H2 hi hy s3 ⟨Tp, u, z, rfl, hT, rfl, hu, hz⟩ k hk
      obtain rfl := rep_get hy
      have s2 : Same H1 (upd H1 Tp (.tup [u, z])) := Same.new hT
      refine ⟨Tp, [u, z], rfl, SqT.of upd_same, rfl, u, [z], rfl, z, [], rfl, rfl, rfl, ?_⟩
      exact ⟨_, rfl, _, rfl, n, u, z, rfl, by omega, (he i u z hu hz).same ((s1.trans s3).trans s2), fun H4 s4 => hk H4 (s2.trans s4)⟩
    · intro H' s3 hD'
      refine ⟨D, List.replicate xs.length true, rfl, SqL.of (by rw [hD', List.map_replicate]), ?_⟩
      rw [all_rep]
      exact q H' (s1.trans s3)
theorem ok_like (T : Tx K mg) : ∀ m : Nat, FnOk P w K mg base CX0 m T.f_l_like T.d_l_like ["_law_found", "_law_due"] (spLike K m)
  | 0 => by
    have no : ∀ vs H Q E, ¬ spLike K 0 vs H Q E := fun vs H Q E h => by
      obtain ⟨n, x, y, _, h1, _⟩ := h
      omega
    exact ⟨fun vs H Q E h => absurd h (no vs H Q E), fun A outer s H args us vs Q E _ _ _ _ h => absurd h (no vs H Q E)⟩
  | m + 1 => ok_like_step T (ok_like T m)
end
end TL
namespace TL
open PySem L2

/-! ### steps of a reading -/
local macro_rules | `(tactic| walk_at "hp") => `(tactic| first | assumption | exact upd_same | (refine (upd_ne (by first | assumption | (exact Ne.symm (by assumption)))).trans ?_; walk_at "hp"))
local macro_rules | `(tactic| walk_at "ok") => `(tactic| first | (exact Or.inr ⟨by decide, by decide⟩) | (exact ⟨by decide, by decide⟩) | (exact ⟨by decide, by decide, by decide⟩) | (show _ ≠ _; omega) | (show _ ≠ _; decide) | (exact Or.inl ⟨by omega, by omega⟩) | decide)
local macro_rules | `(tactic| walk_at "sq") => `(tactic| first | assumption | exact SqL.of (by walk_at "hp") | exact SqT.of (by walk_at "hp"))
local macro_rules | `(tactic| walk_at "ty") => `(tactic| first | refine ⟨_, _, Value.type "int", Value.type "list", false, rfl, ClsV.ty _, TyX.base (TyOf.int _), kt_int_list, ?_⟩ | refine ⟨_, _, Value.type "bool", Value.type "list", false, rfl, ClsV.ty _, TyX.base (TyOf.bl _), kt_bool_list, ?_⟩ | refine ⟨_, _, Value.type "str", Value.type "list", false, rfl, ClsV.ty _, TyX.base (TyOf.str _), kt_str_list, ?_⟩ | refine ⟨_, _, Value.type "NoneType", Value.type "list", false, rfl, ClsV.ty _, TyX.base TyOf.non, kt_NoneType_list, ?_⟩ | refine ⟨_, _, Value.type "list", Value.type "list", true, rfl, ClsV.ty _, tyx_L (by walk_at "sq"), kt_list_list, ?_⟩ | refine ⟨_, _, Value.type "tuple", Value.type "list", false, rfl, ClsV.ty _, tyx_T (by walk_at "sq"), kt_tuple_list, ?_⟩ | refine ⟨_, _, Value.type "int", Value.type "tuple", false, rfl, ClsV.ty _, TyX.base (TyOf.int _), kt_int_tuple, ?_⟩ | refine ⟨_, _, Value.type "bool", Value.type "tuple", false, rfl, ClsV.ty _, TyX.base (TyOf.bl _), kt_bool_tuple, ?_⟩ | refine ⟨_, _, Value.type "str", Value.type "tuple", false, rfl, ClsV.ty _, TyX.base (TyOf.str _), kt_str_tuple, ?_⟩ | refine ⟨_, _, Value.type "NoneType", Value.type "tuple", false, rfl, ClsV.ty _, TyX.base TyOf.non, kt_NoneType_tuple, ?_⟩ | refine ⟨_, _, Value.type "list", Value.type "tuple", false, rfl, ClsV.ty _, tyx_L (by walk_at "sq"), kt_list_tuple, ?_⟩ | refine ⟨_, _, Value.type "tuple", Value.type "tuple", true, rfl, ClsV.ty _, tyx_T (by walk_at "sq"), kt_tuple_tuple, ?_⟩ | refine ⟨_, _, Value.type "int", Value.type "bool", false, rfl, ClsV.ty _, TyX.base (TyOf.int _), kt_int_bool, ?_⟩ | refine ⟨_, _, Value.type "bool", Value.type "bool", true, rfl, ClsV.ty _, TyX.base (TyOf.bl _), kt_bool_bool, ?_⟩ | refine ⟨_, _, Value.type "str", Value.type "bool", false, rfl, ClsV.ty _, TyX.base (TyOf.str _), kt_str_bool, ?_⟩ | refine ⟨_, _, Value.type "NoneType", Value.type "bool", false, rfl, ClsV.ty _, TyX.base TyOf.non, kt_NoneType_bool, ?_⟩ | refine ⟨_, _, Value.type "list", Value.type "bool", false, rfl, ClsV.ty _, tyx_L (by walk_at "sq"), kt_list_bool, ?_⟩ | refine ⟨_, _, Value.type "tuple", Value.type "bool", false, rfl, ClsV.ty _, tyx_T (by walk_at "sq"), kt_tuple_bool, ?_⟩ | refine ⟨_, _, Value.type "int", Value.type "int", true, rfl, ClsV.ty _, TyX.base (TyOf.int _), kt_int_int, ?_⟩ | refine ⟨_, _, Value.type "bool", Value.type "int", true, rfl, ClsV.ty _, TyX.base (TyOf.bl _), kt_bool_int, ?_⟩ | refine ⟨_, _, Value.type "str", Value.type "int", false, rfl, ClsV.ty _, TyX.base (TyOf.str _), kt_str_int, ?_⟩ | refine ⟨_, _, Value.type "NoneType", Value.type "int", false, rfl, ClsV.ty _, TyX.base TyOf.non, kt_NoneType_int, ?_⟩ | refine ⟨_, _, Value.type "list", Value.type "int", false, rfl, ClsV.ty _, tyx_L (by walk_at "sq"), kt_list_int, ?_⟩ | refine ⟨_, _, Value.type "tuple", Value.type "int", false, rfl, ClsV.ty _, tyx_T (by walk_at "sq"), kt_tuple_int, ?_⟩ | refine ⟨_, _, Value.type "int", Value.type "str", false, rfl, ClsV.ty _, TyX.base (TyOf.int _), kt_int_str, ?_⟩ | refine ⟨_, _, Value.type "bool", Value.type "str", false, rfl, ClsV.ty _, TyX.base (TyOf.bl _), kt_bool_str, ?_⟩ | refine ⟨_, _, Value.type "str", Value.type "str", true, rfl, ClsV.ty _, TyX.base (TyOf.str _), kt_str_str, ?_⟩ | refine ⟨_, _, Value.type "NoneType", Value.type "str", false, rfl, ClsV.ty _, TyX.base TyOf.non, kt_NoneType_str, ?_⟩ | refine ⟨_, _, Value.type "list", Value.type "str", false, rfl, ClsV.ty _, tyx_L (by walk_at "sq"), kt_list_str, ?_⟩ | refine ⟨_, _, Value.type "tuple", Value.type "str", false, rfl, ClsV.ty _, tyx_T (by walk_at "sq"), kt_tuple_str, ?_⟩)
local macro_rules | `(tactic| walk_at "go1") => `(tactic| first
  | (refine ⟨_, rfl, ?_⟩)
  | (refine ⟨_, _, rfl, rfl, ?_⟩)
  | (refine ⟨_, _, _, _, rfl, rfl, SqL.of (by walk_at "hp"), rfl, ?_⟩)
  | (refine Or.inl ⟨_, rfl, ?_⟩)
  | (refine ⟨rfl, ?_⟩)
  | (refine ⟨_, _, rfl, .inl (SqL.of (by walk_at "hp")), ?_⟩)
  | (refine ⟨_, _, rfl, Or.inl (by assumption), ?_⟩)
  | (refine ⟨_, _, rfl, Or.inr (by assumption), ?_⟩)
  | (refine ⟨(by walk_at "ok"), ?_⟩)
  | (refine ⟨_, _, _, _, rfl, rfl, (by walk_at "hp"), rfl, ?_⟩))
local macro_rules | `(tactic| walk_at "go") => `(tactic| repeat (walk_at "go1"))
local macro_rules | `(tactic| walk_at "gt") => `(tactic| repeat (first | walk_at "go1" | walk_at "ty"))

section
variable {P : Program} {w : World} {K : PySem.W.Frag} {mg : Str → Option Value} {base : Heap}
-- [0=_law_one, 1=_law_other] [0=_law_over, 1=_law_under, 2=_law_many] [0=_law_one, 1=_law_other] [0=_law_one, 1=_law_other] [0=_law_pair_here, 1=_law_over, 2=_law_under, 3=_law_found, 4=_law_prime, 5=_law_many]
def spGcd : Sp := fun vs H Q _ => ∃ (x y : Nat), vs = [.int (x : Int), .int (y : Int)] ∧ ∀ H', Same H H' → Q (.int ((Nat.gcd x y : Nat) : Int)) H'
theorem ok_l_gcd (T : Tx K mg) : FnOk P w K mg base CX0 1 T.f_l_gcd T.d_l_gcd ["_law_one", "_law_other"] spGcd := by
  refine T.F_l_gcd.ok sc_l_gcd (fun vs H Q E h => ?_) (fun cdv A outer s H vs Q E hr h => ?_)
  · obtain ⟨x, y, rfl, _⟩ := h
    rfl
  obtain ⟨x, y, rfl, q⟩ := h
  have nd := sc_l_gcd.nd
  refine ⟨_, (pss_cons (ps_while PassesOwn.never (pt_cmpR op_ne (pv 1) pe_int (nomark _)) (pss_one (ps_par (i := 0) (j := 1) rfl nd rfl rfl (by decide) rfl rfl (pa_cons (pv 1) (pa_cons (pe_op op_mod (pe_callTy call_int1 (by rfl) T.z_int (by decide +kernel) (pa_cons (pv 0) pa_nil)) (pv 1)) pa_nil)) rfl)))
    (pss_one (ps_ret (pv 0)))), ?_⟩
  refine ⟨fun m σ H' => ∃ u v : Nat, m = v ∧ H' = H ∧ Nat.gcd u v = Nat.gcd x y ∧ σ = [some (.int (u : Int)), some (.int (v : Int))], ⟨y, x, y, rfl, rfl, rfl, rfl⟩, ?_⟩
  rintro m σ H2 ⟨u, v, rfl, rfl, hg, rfl⟩
  by_cases hv : 0 < m
  · refine ⟨_, rfl, rfl, true, congrArg V.bl (by rw [dec_int, beq_false_of_ne (by omega)]; rfl), ?_⟩
    refine ⟨fun σ' H' => H' = H2 ∧ σ' = [some (.int (m : Int)), some (.int ((u % m : Nat) : Int))], fun σ' H' ⟨a1, a2⟩ => ⟨u % m, Nat.mod_lt _ hv, m, u % m, rfl, a1, by rw [← hg, Nat.gcd_comm u m, Nat.gcd_rec m u, Nat.gcd_comm], a2⟩, ?_⟩
    refine ⟨_, rfl, _, rfl, .inl ⟨_, rfl, _, rfl, _, _, rfl, rfl, (by show (0 : Int) < (m : Int); omega), _, _, rfl, rfl, rfl⟩⟩
  · obtain rfl : m = 0 := by omega
    refine ⟨_, rfl, rfl, false, congrArg V.bl (by rw [dec_int]; rfl), ?_⟩
    refine ⟨_, rfl, ?_⟩
    rw [Nat.gcd_zero_right] at hg
    rw [hg]
    exact q _ (Same.refl _)
/-- a pair of numbers as the law tells a ratio -/
structure TAt (K : PySem.W.Frag) (H : Hp) (t : Addr) (e : List Int) : Prop where
  ex : SqT K H t [.int ((up e : Nat) : Int), .int ((dn e : Nat) : Int)]
  len : e.length = 6
theorem TAt.same {H H' : Hp} {t : Addr} {e : List Int} (h : TAt K H t e) (s : Same H H') : TAt K H' t e := ⟨seqT s h.ex, h.len⟩
def spLow (K : PySem.W.Frag) : Sp := fun vs H Q _ => ∃ (m : Nat) (e : List Int), vs = [.int ((m * up e : Nat) : Int), .int ((m * dn e : Nat) : Int)] ∧ 0 < m ∧ m < 2 ^ 8001 ∧ e.length = 6 ∧ ∀ t H', Same H H' → TAt K H' t e → Q (.ref t) H'
theorem ok_l_low (T : Tx K mg) : FnOk P w K mg base CX0 2 T.f_l_low T.d_l_low ["_law_over", "_law_under"] (spLow K) := by
  have G_l_gcd := ok_l_gcd (P := P) (w := w) (base := base) T
  refine T.F_l_low.ok sc_l_low (fun vs H Q E h => ?_) (fun cdv A outer s H vs Q E hr h => ?_)
  · obtain ⟨m, e, rfl, _⟩ := h
    rfl
  obtain ⟨m, e, rfl, hm, hm3, hl, q⟩ := h
  have nd := sc_l_low.nd
  refine ⟨_, (pss_cons (ps_set (i := 2) nd rfl (Or.inl rfl) (pe_call G_l_gcd hr (by rfl) T.m_l_gcd T.F_l_gcd.kp T.b_l_gcd .nil pass0 (pa_cons (pv 0) (pa_cons (pv 1) pa_nil))))
    (pss_one (ps_ret (pe_tup (pa_cons (pe_op op_fdivW (pv 0) (pv 2)) (pa_cons (pe_op op_fdivW (pv 1) (pv 2)) pa_nil)))))), ?_⟩
  refine ⟨_, rfl, _, rfl, _, _, rfl, fun H1 s1 => ?_⟩
  rw [gcd_of (e := 0) (cop_e e)]
  have hm0 : (0 : Int) < (m : Int) := by omega
  have hW : ∀ i : Int, CDivW i (m : Int) := fun i => wide_div hm0 (by rw [Int.natAbs_natCast]; exact hm3) (by decide) (by decide)
  have q1 : ((m * up e : Nat) : Int) / (m : Int) = ((up e : Nat) : Int) := by rw [← Int.natCast_ediv, Nat.mul_div_cancel_left _ hm]
  have q2 : ((m * dn e : Nat) : Int) / (m : Int) = ((dn e : Nat) : Int) := by rw [← Int.natCast_ediv, Nat.mul_div_cancel_left _ hm]
  refine ⟨_, rfl, _, rfl, _, _, rfl, rfl, hW _, _, rfl, _, rfl, _, _, rfl, rfl, hW _, (by show 2 ≤ sizeLine; decide), fun t ht => q t _ (s1.trans (Same.new ht)) ⟨SqT.of ?_, hl⟩⟩
  rw [upd_same, ← q1, ← q2]
def Fit (x : List Int) : Prop := up x < 2 ^ 4000 ∧ dn x < 2 ^ 4000
def spL2 (K : PySem.W.Frag) (f : List Int → List Int → List Int) : Sp := fun vs H Q _ => ∃ (p r : Addr) (x y : List Int), vs = [.ref p, .ref r] ∧ TAt K H p x ∧ TAt K H r y ∧ Fit x ∧ Fit y ∧ ∀ t H', Same H H' → TAt K H' t (f x y) → Q (.ref t) H'
theorem both_lt {x y : List Int} (hl : x.length = y.length) (hx : up x < 2 ^ 4000) (hy : up y < 2 ^ 4000) : pp prs (both x y) < 2 ^ 8001 := by
  have h := up_mul x y hl
  have h1 : pp prs (both x y) ≤ up x * up y := by rw [h]; exact Nat.le_mul_of_pos_right _ (up_pos _)
  have h2 : up x * up y < 2 ^ 4000 * 2 ^ 4000 := Nat.mul_lt_mul'' hx hy
  rw [← Nat.pow_add] at h2
  exact Nat.lt_of_le_of_lt h1 (Nat.lt_trans h2 (Nat.pow_lt_pow_right (by decide) (by decide)))
theorem nb4 {u : Nat} (h : u < 2 ^ 4000) : ((u : Int)).natAbs < 2 ^ 4000 := by rw [Int.natAbs_natCast]; exact h
theorem nbk {u k : Nat} (h : u < 2 ^ k) : ((u : Int)).natAbs < 2 ^ k := by rw [Int.natAbs_natCast]; exact h
theorem ok_l_times (T : Tx K mg) : FnOk P w K mg base CX0 3 T.f_l_times T.d_l_times ["_law_one", "_law_other"] (spL2 K addE) := by
  have G_l_low := ok_l_low (P := P) (w := w) (base := base) T
  refine T.F_l_times.ok sc_l_times (fun vs H Q E h => ?_) (fun cdv A outer s H vs Q E hr h => ?_)
  · obtain ⟨p, r, x, y, rfl, _⟩ := h
    rfl
  obtain ⟨p, r, x, y, rfl, hx, hy, fx, fy, q⟩ := h
  refine ⟨_, (pss_one (ps_ret (pe_call G_l_low hr (by rfl) T.m_l_low T.F_l_low.kp T.b_l_low .nil pass0 (pa_cons (pe_op op_mulW (pe_ix (show IxR _ (rIxT K) from ix_tup) (pv 0) pe_int (fun _ _ => rfl)) (pe_ix (show IxR _ (rIxT K) from ix_tup) (pv 1) pe_int (fun _ _ => rfl))) (pa_cons (pe_op op_mulW (pe_ix (show IxR _ (rIxT K) from ix_tup) (pv 0) pe_int (fun _ _ => rfl)) (pe_ix (show IxR _ (rIxT K) from ix_tup) (pv 1) pe_int (fun _ _ => rfl))) pa_nil))))), ?_⟩
  have hl : x.length = y.length := by rw [hx.len, hy.len]
  refine ⟨_, rfl, _, _, _, _, rfl, rfl, hx.ex, rfl, _, rfl, _, _, _, _, rfl, rfl, hy.ex, rfl, _, _, rfl, rfl, wide_mul (nb4 fx.1) (nb4 fy.1) (by decide) (by decide) (by decide), ?_⟩
  refine ⟨_, rfl, _, _, _, _, rfl, rfl, hx.ex, rfl, _, rfl, _, _, _, _, rfl, rfl, hy.ex, rfl, _, _, rfl, rfl, wide_mul (nb4 fx.2) (nb4 fy.2) (by decide) (by decide) (by decide), ?_⟩
  refine ⟨pp prs (both x y), addE x y, ?_, pp_pos _ pc_prs, both_lt hl fx.1 fy.1, by simp [addE, hx.len, hy.len], q⟩
  rw [← up_mul x y hl, ← dn_mul x y hl]
  rfl
def spLess (K : PySem.W.Frag) : Sp := fun vs H Q _ => ∃ (p r : Addr) (x y : List Int), vs = [.ref p, .ref r] ∧ TAt K H p x ∧ TAt K H r y ∧ Fits x ∧ Fits y ∧ Q (.bl (decide (up x * dn y < up y * dn x))) H
theorem ok_l_below (T : Tx K mg) : FnOk P w K mg base CX0 1 T.f_l_below T.d_l_below ["_law_one", "_law_other"] (spLess K) := by
  refine T.F_l_below.ok sc_l_below (fun vs H Q E h => ?_) (fun cdv A outer s H vs Q E hr h => ?_)
  · obtain ⟨p, r, x, y, rfl, _⟩ := h
    rfl
  obtain ⟨p, r, x, y, rfl, hx, hy, fx, fy, q⟩ := h
  refine ⟨_, (pss_one (ps_ret (pe_cmpR op_lt (pe_op op_mulW (pe_ix (show IxR _ (rIxT K) from ix_tup) (pv 0) pe_int (fun _ _ => rfl)) (pe_ix (show IxR _ (rIxT K) from ix_tup) (pv 1) pe_int (fun _ _ => rfl))) (pe_op op_mulW (pe_ix (show IxR _ (rIxT K) from ix_tup) (pv 1) pe_int (fun _ _ => rfl)) (pe_ix (show IxR _ (rIxT K) from ix_tup) (pv 0) pe_int (fun _ _ => rfl))) (nomark _)))), ?_⟩
  refine ⟨_, rfl, _, _, _, _, rfl, rfl, hx.ex, rfl, _, rfl, _, _, _, _, rfl, rfl, hy.ex, rfl, _, _, rfl, rfl, wide_mul (nbk fx.1) (nbk fy.2) (by decide) (by decide) (by decide), ?_⟩
  refine ⟨_, rfl, _, _, _, _, rfl, rfl, hy.ex, rfl, _, rfl, _, _, _, _, rfl, rfl, hx.ex, rfl, _, _, rfl, rfl, wide_mul (nbk fy.1) (nbk fx.2) (by decide) (by decide) (by decide), ?_⟩
  refine ⟨_, _, rfl, rfl, ?_⟩
  have e : decide (((up x : Nat) : Int) * ((dn y : Nat) : Int) < ((up y : Nat) : Int) * ((dn x : Nat) : Int)) = decide (up x * dn y < up y * dn x) := by
    rw [← Int.natCast_mul, ← Int.natCast_mul]
    exact decide_eq_decide.mpr Int.ofNat_lt
  show Q (.bl (decide (((up x : Nat) : Int) * ((dn y : Nat) : Int) < ((up y : Nat) : Int) * ((dn x : Nat) : Int)))) H
  rw [e]
  exact q
def spPow (K : PySem.W.Frag) : Sp := fun vs H Q _ => ∃ (p : Addr) (e : List Int), vs = [.ref p] ∧ TAt K H p e ∧ ∀ t H', Same H H' → SqT K H' t (e.map V.int) → Q (.ref t) H'
theorem ok_l_powers (T : Tx K mg) : FnOk P w K mg base CX0 1 T.f_l_powers T.d_l_powers ["_law_pair_here"] (spPow K) := by
  refine T.F_l_powers.ok sc_l_powers (fun vs H Q E h => ?_) (fun cdv A outer s H vs Q E hr h => ?_)
  · obtain ⟨p, e, rfl, _⟩ := h
    rfl
  obtain ⟨p, e, rfl, he, q⟩ := h
  have nd := sc_l_powers.nd
  have up0 := up_pos e
  have dn0 := dn_pos e
  have hu6 : (upE e).length = 6 := by simpa [upE] using he.len
  have hd6 : (dnE e).length = 6 := by simpa [dnE] using he.len
  refine ⟨_, (pss_cons (ps_par3 (i := 1) (j := 2) (l := 3) rfl nd rfl rfl rfl (by decide) (by decide) (by decide) rfl rfl rfl (pa_cons (pe_ix (show IxR _ (rIxT K) from ix_tup) (pv 0) pe_int (fun _ _ => rfl)) (pa_cons (pe_ix (show IxR _ (rIxT K) from ix_tup) (pv 0) pe_int (fun _ _ => rfl)) (pa_cons (pe_lst pa_nil) pa_nil))) rfl)
    (pss_cons (ps_if (PW.pt (pw_or (pt_cmpR op_lt (pv 1) pe_int (nomark _)) (pw_or1 (pt_cmpR op_lt (pv 2) pe_int (nomark _))))) (pss_one (ps_ret pe_non)) pss_nil)
    (pss_cons (ps_for PassesOwn.never rfl (show PI _ _ _ (iTup K _) from pi_tup (pe_tup (pa_cons pe_int (pa_cons pe_int (pa_cons pe_int (pa_cons pe_int (pa_cons pe_int (pa_cons pe_int pa_nil)))))))) (pg_name (i := 4) nd rfl (Or.inl rfl)) (pss_cons (ps_set (i := 5) nd rfl (Or.inl rfl) pe_int)
    (pss_cons (ps_while PassesOwn.never (pt_cmpR op_eq (pe_op op_mod (pe_callTy call_int1 (by rfl) T.z_int (by decide +kernel) (pa_cons (pv 1) pa_nil)) (pv 4)) pe_int (nomark _)) (pss_one (ps_par (i := 1) (j := 5) rfl nd rfl rfl (by decide) rfl rfl (pa_cons (pe_op op_fdivW (pv 1) (pv 4)) (pa_cons (pe_op op_add (pv 5) pe_int) pa_nil)) rfl)))
    (pss_cons (ps_while PassesOwn.never (pt_cmpR op_eq (pe_op op_mod (pe_callTy call_int1 (by rfl) T.z_int (by decide +kernel) (pa_cons (pv 2) pa_nil)) (pv 4)) pe_int (nomark _)) (pss_one (ps_par (i := 2) (j := 5) rfl nd rfl rfl (by decide) rfl rfl (pa_cons (pe_op op_fdivW (pv 2) (pv 4)) (pa_cons (pe_op op_sub (pv 5) pe_int) pa_nil)) rfl)))
    (pss_one (ps_expr (pe_bm PySem.F.plainAttrs_list PySem.F.slot_list_append PySem.F.type_list_append mt_append (pv 3) (pa_cons (pv 5) pa_nil))))))))
    (pss_one (ps_ret (pe_ifExp (PW.pt (pw_and (pt_cmpR op_eq (pv 1) pe_int (nomark _)) (pw_and1 (pt_cmpR op_eq (pv 2) pe_int (nomark _))))) (pe_callTy (show CallR _ _ (rTup1 K) from call_tup1) (by rfl) T.z_tuple (by decide +kernel) (pa_cons (pv 3) pa_nil)) pe_non)))))), ?_⟩
  refine ⟨_, rfl, _, _, _, _, rfl, rfl, he.ex, rfl, _, rfl, _, _, _, _, rfl, rfl, he.ex, rfl, (by show 0 ≤ sizeLine; decide), fun a ha => ⟨_, _, _, rfl, ?_⟩⟩
  have s0 := Same.new (o := .lst []) ha
  refine ⟨_, rfl, _, _, rfl, rfl, _, rfl, ?_⟩
  rw [decide_eq_false (show ¬ ((up e : Nat) : Int) < 1 by omega)]
  refine iteF' rfl ?_
  refine ⟨_, rfl, _, _, rfl, rfl, _, rfl, ?_⟩
  rw [decide_eq_false (show ¬ ((dn e : Nat) : Int) < 1 by omega)]
  refine iteF' rfl ?_
  refine ⟨(by show 6 ≤ sizeLine; decide), fun pt hpt => ?_⟩
  have s1 := s0.trans (Same.new (o := .tup [V.int 2, V.int 3, V.int 5, V.int 7, V.int 11, V.int 13]) hpt)
  have hla : upd (upd H a (.lst [])) pt (.tup [V.int 2, V.int 3, V.int 5, V.int 7, V.int 11, V.int 13]) a = some (.lst []) := Same.new (o := .tup [V.int 2, V.int 3, V.int 5, V.int 7, V.int 11, V.int 13]) hpt _ _ upd_same
  have hlt0 := upd_same (H := upd H a (.lst [])) (a := pt) (o := .tup [V.int 2, V.int 3, V.int 5, V.int 7, V.int 11, V.int 13])
  generalize upd (upd H a (.lst [])) pt (.tup [V.int 2, V.int 3, V.int 5, V.int 7, V.int 11, V.int 13]) = H1 at *
  have hlt : H1 pt = some (.tup (nL prs)) := hlt0
  have nea : pt ≠ a := fun z => by
    rw [z, upd_same] at hpt
    cases hpt
  clear hlt0 s0
  refine ⟨pt, rfl, ⟨_, SqT.of hlt⟩, for_it (walk_tup (K := K) (a := pt) (xs := nL prs)) (fun i σ H' => Same H H' ∧ H' pt = some (.tup (nL prs)) ∧ H' a = some (.lst ((e.take i).map V.int)) ∧ ∃ a4 a5, σ = [some (.ref p), some (.int ((pp (prs.drop i) ((upE e).drop i) : Nat) : Int)), some (.int ((pp (prs.drop i) ((dnE e).drop i) : Nat) : Int)), some (.ref a), a4, a5]) ⟨s1, hlt, hla, none, none, rfl⟩ (fun _ _ _ _ h => SqT.of h.2.1) ?_ ?_⟩
  · rintro i v σ H2 H3 hi ⟨s2, h1, h2, a4, a5, rfl⟩ ⟨rfl, hv⟩
    replace hi : i < 6 := hi
    obtain ⟨p1, x1, e1, e2, g1, g2, g3, g4, g5⟩ := pp_drop hi hu6
    obtain ⟨p2, x2, f1, f2, _, _, f3, f4, f5⟩ := pp_drop hi hd6
    obtain rfl : p1 = p2 := Option.some.inj (e1.symm.trans f1)
    rw [List.getElem?_map, e1] at hv
    obtain rfl : V.int (p1 : Nat) = v := Option.some.inj hv
    have nd1 : ¬ p1 ∣ pp (prs.drop (i + 1)) ((upE e).drop (i + 1)) := fun z => by
      have := Nat.Coprime.eq_one_of_dvd g4 z
      omega
    have nd2 : ¬ p1 ∣ pp (prs.drop (i + 1)) ((dnE e).drop (i + 1)) := fun z => by
      have := Nat.Coprime.eq_one_of_dvd f4 z
      omega
    rw [g3, f3]
    have hp0 : (0 : Int) < (p1 : Int) := by omega
    have hW : ∀ z : Int, CDivW z (p1 : Int) := fun z => wide_div hp0 (b := 4) (by rw [Int.natAbs_natCast]; omega) (by decide) (by decide)
    generalize hR : pp (prs.drop (i + 1)) ((upE e).drop (i + 1)) = R at *
    generalize hS : pp (prs.drop (i + 1)) ((dnE e).drop (i + 1)) = S at *
    refine ⟨fun m σ H' => H' = H3 ∧ ∃ j : Nat, j + m = x1 ∧ σ = [some (.ref p), some (.int ((p1 ^ m * R : Nat) : Int)), some (.int ((p1 ^ x2 * S : Nat) : Int)), some (.ref a), some (.int (p1 : Int)), some (.int (j : Int))], ⟨x1, rfl, 0, by omega, rfl⟩, ?_⟩
    rintro m σ H4 ⟨rfl, j, hj, rfl⟩
    cases m with
    | succ m =>
      refine ⟨_, rfl, .inl ⟨_, rfl, _, rfl, _, _, rfl, rfl, hp0, rfl, true, congrArg V.bl (by rw [dec_int, spl1 (by omega)]; rfl), ?_⟩⟩
      refine iteT' rfl ?_
      refine ⟨fun σ' H' => H' = H4 ∧ ∃ j : Nat, j + m = x1 ∧ σ' = [some (.ref p), some (.int ((p1 ^ m * R : Nat) : Int)), some (.int ((p1 ^ x2 * S : Nat) : Int)), some (.ref a), some (.int (p1 : Int)), some (.int (j : Int))], fun σ' H' h => ⟨m, Nat.lt_succ_self _, h⟩, ?_⟩
      refine ⟨_, rfl, _, rfl, _, _, rfl, rfl, hW _, _, rfl, _, _, rfl, rfl, _, _, rfl, rfl, j + 1, by omega, ?_⟩
      rw [← spl2 (r := R) (m := m) (show 0 < p1 by omega)]
      rfl
    | zero =>
      obtain rfl : j = x1 := by omega
      refine ⟨_, rfl, .inl ⟨_, rfl, _, rfl, _, _, rfl, rfl, hp0, rfl, false, congrArg V.bl (by rw [dec_int]; exact beq_false_of_ne (spl0 nd1)), ?_⟩⟩
      refine iteF' rfl ?_
      refine ⟨fun m σ H' => H' = H4 ∧ ∃ j2 : Nat, j2 + m = x2 ∧ σ = [some (.ref p), some (.int ((p1 ^ 0 * R : Nat) : Int)), some (.int ((p1 ^ m * S : Nat) : Int)), some (.ref a), some (.int (p1 : Int)), some (.int ((j : Int) - (j2 : Int)))], ⟨x2, rfl, 0, by omega, by rw [Int.ofNat_zero, Int.sub_zero]⟩, ?_⟩
      rintro m σ H5 ⟨rfl, j2, hj2, rfl⟩
      cases m with
      | succ m =>
        refine ⟨_, rfl, .inl ⟨_, rfl, _, rfl, _, _, rfl, rfl, hp0, rfl, true, congrArg V.bl (by rw [dec_int, spl1 (by omega)]; rfl), ?_⟩⟩
        refine iteT' rfl ?_
        refine ⟨fun σ' H' => H' = H5 ∧ ∃ j2 : Nat, j2 + m = x2 ∧ σ' = [some (.ref p), some (.int ((p1 ^ 0 * R : Nat) : Int)), some (.int ((p1 ^ m * S : Nat) : Int)), some (.ref a), some (.int (p1 : Int)), some (.int ((j : Int) - (j2 : Int)))], fun σ' H' h => ⟨m, Nat.lt_succ_self _, h⟩, ?_⟩
        refine ⟨_, rfl, _, rfl, _, _, rfl, rfl, hW _, _, rfl, _, _, rfl, rfl, _, _, rfl, rfl, j2 + 1, by omega, ?_⟩
        rw [← spl2 (r := S) (m := m) (show 0 < p1 by omega), show (j : Int) - ((j2 + 1 : Nat) : Int) = (j : Int) - (j2 : Int) - 1 by omega]
        rfl
      | zero =>
        obtain rfl : j2 = x2 := by omega
        refine ⟨_, rfl, .inl ⟨_, rfl, _, rfl, _, _, rfl, rfl, hp0, rfl, false, congrArg V.bl (by rw [dec_int]; exact beq_false_of_ne (spl0 nd2)), ?_⟩⟩
        refine iteF' rfl ?_
        refine ⟨_, rfl, .inl ⟨rfl, _, SqL.of h2⟩, ?_⟩
        refine ⟨_, rfl, a, _, _, rfl, rfl, h2, small1000 (by simp; omega), ?_⟩
        refine ⟨s2.upd_new ha, by rw [upd_ne nea]; exact h1, ?_, some (.int (p1 : Int)), some (.int ((j : Int) - (j2 : Int))), ?_⟩
        · obtain ⟨x, hx1⟩ : ∃ x, e[i]? = some x := ⟨_, List.getElem?_eq_getElem (by rw [he.len]; exact hi)⟩
          have y1 : x.toNat = j := by
            rw [upE, List.getElem?_map, hx1] at e2
            exact Option.some.inj e2
          have y2 : (-x).toNat = j2 := by
            rw [dnE, List.getElem?_map, hx1] at f2
            exact Option.some.inj f2
          rw [upd_same, List.take_succ, hx1, show (j : Int) - (j2 : Int) = x by omega]
          simp
        · rw [Nat.pow_zero, Nat.one_mul, Nat.one_mul]
  · rintro σ H2 ⟨s2, h1, h2, a4, a5, rfl⟩
    have z1 : pp (prs.drop 6) ((upE e).drop 6) = 1 := rfl
    have z2 : pp (prs.drop 6) ((dnE e).drop 6) = 1 := rfl
    rw [show (nL prs).length = 6 from rfl, List.take_of_length_le (Nat.le_of_eq he.len)] at h2
    rw [show (nL prs).length = 6 from rfl, z1, z2]
    refine ⟨_, rfl, rfl, _, rfl, ?_⟩
    refine iteT' (by rw [dec_int]; rfl) ?_
    refine ⟨_, rfl, rfl, _, rfl, ?_⟩
    refine iteT' (by rw [dec_int]; rfl) ?_
    exact ⟨_, rfl, a, e.map V.int, rfl, .inl (SqL.of h2), fun t H' s' ht => q t H' (s2.trans s') ht⟩
end
end TL
namespace TL
open PySem L2

/-! ### steps of a reading -/
local macro_rules | `(tactic| walk_at "hp") => `(tactic| first | assumption | exact upd_same | (refine (upd_ne (by first | assumption | (exact Ne.symm (by assumption)))).trans ?_; walk_at "hp"))
local macro_rules | `(tactic| walk_at "ok") => `(tactic| first | (exact Or.inr ⟨by decide, by decide⟩) | (exact ⟨by decide, by decide⟩) | (exact ⟨by decide, by decide, by decide⟩) | (show _ ≠ _; omega) | (show _ ≠ _; decide) | (exact Or.inl ⟨by omega, by omega⟩) | decide)
local macro_rules | `(tactic| walk_at "sq") => `(tactic| first | assumption | exact SqL.of (by walk_at "hp") | exact SqT.of (by walk_at "hp"))
local macro_rules | `(tactic| walk_at "ty") => `(tactic| first | refine ⟨_, _, Value.type "int", Value.type "list", false, rfl, ClsV.ty _, TyX.base (TyOf.int _), kt_int_list, ?_⟩ | refine ⟨_, _, Value.type "bool", Value.type "list", false, rfl, ClsV.ty _, TyX.base (TyOf.bl _), kt_bool_list, ?_⟩ | refine ⟨_, _, Value.type "str", Value.type "list", false, rfl, ClsV.ty _, TyX.base (TyOf.str _), kt_str_list, ?_⟩ | refine ⟨_, _, Value.type "NoneType", Value.type "list", false, rfl, ClsV.ty _, TyX.base TyOf.non, kt_NoneType_list, ?_⟩ | refine ⟨_, _, Value.type "list", Value.type "list", true, rfl, ClsV.ty _, tyx_L (by walk_at "sq"), kt_list_list, ?_⟩ | refine ⟨_, _, Value.type "tuple", Value.type "list", false, rfl, ClsV.ty _, tyx_T (by walk_at "sq"), kt_tuple_list, ?_⟩ | refine ⟨_, _, Value.type "int", Value.type "tuple", false, rfl, ClsV.ty _, TyX.base (TyOf.int _), kt_int_tuple, ?_⟩ | refine ⟨_, _, Value.type "bool", Value.type "tuple", false, rfl, ClsV.ty _, TyX.base (TyOf.bl _), kt_bool_tuple, ?_⟩ | refine ⟨_, _, Value.type "str", Value.type "tuple", false, rfl, ClsV.ty _, TyX.base (TyOf.str _), kt_str_tuple, ?_⟩ | refine ⟨_, _, Value.type "NoneType", Value.type "tuple", false, rfl, ClsV.ty _, TyX.base TyOf.non, kt_NoneType_tuple, ?_⟩ | refine ⟨_, _, Value.type "list", Value.type "tuple", false, rfl, ClsV.ty _, tyx_L (by walk_at "sq"), kt_list_tuple, ?_⟩ | refine ⟨_, _, Value.type "tuple", Value.type "tuple", true, rfl, ClsV.ty _, tyx_T (by walk_at "sq"), kt_tuple_tuple, ?_⟩ | refine ⟨_, _, Value.type "int", Value.type "bool", false, rfl, ClsV.ty _, TyX.base (TyOf.int _), kt_int_bool, ?_⟩ | refine ⟨_, _, Value.type "bool", Value.type "bool", true, rfl, ClsV.ty _, TyX.base (TyOf.bl _), kt_bool_bool, ?_⟩ | refine ⟨_, _, Value.type "str", Value.type "bool", false, rfl, ClsV.ty _, TyX.base (TyOf.str _), kt_str_bool, ?_⟩ | refine ⟨_, _, Value.type "NoneType", Value.type "bool", false, rfl, ClsV.ty _, TyX.base TyOf.non, kt_NoneType_bool, ?_⟩ | refine ⟨_, _, Value.type "list", Value.type "bool", false, rfl, ClsV.ty _, tyx_L (by walk_at "sq"), kt_list_bool, ?_⟩ | refine ⟨_, _, Value.type "tuple", Value.type "bool", false, rfl, ClsV.ty _, tyx_T (by walk_at "sq"), kt_tuple_bool, ?_⟩ | refine ⟨_, _, Value.type "int", Value.type "int", true, rfl, ClsV.ty _, TyX.base (TyOf.int _), kt_int_int, ?_⟩ | refine ⟨_, _, Value.type "bool", Value.type "int", true, rfl, ClsV.ty _, TyX.base (TyOf.bl _), kt_bool_int, ?_⟩ | refine ⟨_, _, Value.type "str", Value.type "int", false, rfl, ClsV.ty _, TyX.base (TyOf.str _), kt_str_int, ?_⟩ | refine ⟨_, _, Value.type "NoneType", Value.type "int", false, rfl, ClsV.ty _, TyX.base TyOf.non, kt_NoneType_int, ?_⟩ | refine ⟨_, _, Value.type "list", Value.type "int", false, rfl, ClsV.ty _, tyx_L (by walk_at "sq"), kt_list_int, ?_⟩ | refine ⟨_, _, Value.type "tuple", Value.type "int", false, rfl, ClsV.ty _, tyx_T (by walk_at "sq"), kt_tuple_int, ?_⟩ | refine ⟨_, _, Value.type "int", Value.type "str", false, rfl, ClsV.ty _, TyX.base (TyOf.int _), kt_int_str, ?_⟩ | refine ⟨_, _, Value.type "bool", Value.type "str", false, rfl, ClsV.ty _, TyX.base (TyOf.bl _), kt_bool_str, ?_⟩ | refine ⟨_, _, Value.type "str", Value.type "str", true, rfl, ClsV.ty _, TyX.base (TyOf.str _), kt_str_str, ?_⟩ | refine ⟨_, _, Value.type "NoneType", Value.type "str", false, rfl, ClsV.ty _, TyX.base TyOf.non, kt_NoneType_str, ?_⟩ | refine ⟨_, _, Value.type "list", Value.type "str", false, rfl, ClsV.ty _, tyx_L (by walk_at "sq"), kt_list_str, ?_⟩ | refine ⟨_, _, Value.type "tuple", Value.type "str", false, rfl, ClsV.ty _, tyx_T (by walk_at "sq"), kt_tuple_str, ?_⟩)
local macro_rules | `(tactic| walk_at "go1") => `(tactic| first
  | (refine ⟨_, rfl, ?_⟩)
  | (refine ⟨_, _, rfl, rfl, ?_⟩)
  | (refine ⟨_, _, _, _, rfl, rfl, SqL.of (by walk_at "hp"), rfl, ?_⟩)
  | (refine Or.inl ⟨_, rfl, ?_⟩)
  | (refine ⟨rfl, ?_⟩)
  | (refine ⟨_, _, rfl, .inl (SqL.of (by walk_at "hp")), ?_⟩)
  | (refine ⟨_, _, rfl, Or.inl (by assumption), ?_⟩)
  | (refine ⟨_, _, rfl, Or.inr (by assumption), ?_⟩)
  | (refine ⟨(by walk_at "ok"), ?_⟩)
  | (refine ⟨_, _, _, _, rfl, rfl, (by walk_at "hp"), rfl, ?_⟩))
local macro_rules | `(tactic| walk_at "go") => `(tactic| repeat (walk_at "go1"))
local macro_rules | `(tactic| walk_at "gt") => `(tactic| repeat (first | walk_at "go1" | walk_at "ty"))

section
variable {P : Program} {w : World} {K : PySem.W.Frag} {mg : Str → Option Value} {base : Heap}
-- [0=bits, 1=room, 2=many, 3=key, 4=great, 5=small] [0=bits, 1=most]
def nearE (row r : List Int) : List Int := near r 10 (start row) e9 e4
theorem near_facts {row r : List Int} (hrow : row ∈ rowsN 6) (hL : Lim r) : (nearE row r).length = 6 ∧ bnd (nearE row r) = true ∧ okE row (nearE row r) = true ∧ lt1 (subE (nearE row r) r) = false := by
  have h := near_ok hL (all_good row hrow)
  exact ⟨(bnd_of (ok_bnd h.1)).1, ok_bnd h.1, h.1, h.2⟩
theorem bnd_fits {e : List Int} (h : bnd e = true) : Fits e := by
  have h1 := bnd_of h
  have : (2 : Nat) ^ 50000 ≤ 2 ^ 100000 := Nat.pow_le_pow_right (by decide) (by decide)
  exact ⟨Nat.lt_of_lt_of_le h1.2.1 this, Nat.lt_of_lt_of_le h1.2.2 this⟩
theorem asg_int {te : TE} {rest : TS} {D : Ends} {σ : L2.St} {H : Hp} {i : Nat} {k : Int} (h : ∀ Q : VK, (∀ H1, Same H H1 → Q (.int k) H1) → te σ H Q) (c : ∀ H1, Same H H1 → rest D (σ.set i (some (.int k))) H1) : tSeq (tAsg te (gName i)) rest D σ H := h _ c
theorem bnd4 : bnd e4 = true := by decide +kernel
theorem bnd9 : bnd e9 = true := by decide +kernel
theorem ex7 {e : List Int} (h : bnd e = true) : Ex (10 ^ 7) e := fun v hv => Nat.le_trans (bnd_ex h v hv) (by decide)
def spKeyNear (K : PySem.W.Frag) : Sp := fun vs H Q _ => ∃ (t : Addr) (row r : List Int), vs = [.ref t, .int (keyE r), .int 1] ∧ SqT K H t (row.map V.int) ∧ row ∈ rowsN 6 ∧ Lim r ∧ ∀ H', Same H H' → Q (.int (keyE (nearE row r))) H'
theorem ok_key_near (T : Tx K mg) : FnOk P w K mg base CX0 9 T.f__key_near T.d__key_near ["bits", "room", "many"] (spKeyNear K) := by
  have G_ratio_with := ok_with (P := P) (w := w) (base := base) T
  have G_key_of := ok_key_of (P := P) (w := w) (base := base) T
  have G_is_below := ok_is_below (P := P) (w := w) (base := base) T
  have G_Ratio_init := ok_rinit (P := P) (w := w) (base := base) T
  refine T.F__key_near.ok sc__key_near (fun vs H Q E h => ?_) (fun cdv A outer s H vs Q E hr h => ?_)
  · obtain ⟨t, row, r, rfl, _⟩ := h
    rfl
  obtain ⟨t, row, r, rfl, ht, hrow, hL, q⟩ := h
  have nd := sc__key_near.nd
  have g0 := all_good row hrow
  have b0 := ok_bnd (good_ok g0)
  refine ⟨_, (pss_cons (ps_set (i := 3) nd rfl (Or.inl rfl) (pe_ifExp (pt_val (pe_callB (show CallR _ _ (rAnyI K) from cr_anyI rfl) (by rfl) T.z_any (by decide +kernel) (pa_cons (pv 0) pa_nil))) (pe_call G_key_of (hr.mono (by decide)) (by rfl) T.m_key_of T.F_key_of.kp T.b_key_of .nil pass0 (pa_cons (pe_call G_ratio_with (hr.mono (by decide)) (by rfl) T.m_ratio_with T.F_ratio_with.kp T.b_ratio_with .nil pass0 (pa_cons (pv 0) pa_nil)) pa_nil)) (pe_call G_key_of (hr.mono (by decide)) (by rfl) T.m_key_of T.F_key_of.kp T.b_key_of .nil pass0 (pa_cons (pe_make T.k_Ratio G_Ratio_init (hr.mono (by decide)) (by rfl) T.g_Ratio T.b1_Ratio_init T.v_Ratio_init pass0 (pa_cons pe_int pa_nil)) pa_nil))))
    (pss_cons (ps_set (i := 4) nd rfl (Or.inl rfl) (pe_call G_key_of (hr.mono (by decide)) (by rfl) T.m_key_of T.F_key_of.kp T.b_key_of .nil pass0 (pa_cons (pe_make T.k_Ratio G_Ratio_init (hr.mono (by decide)) (by rfl) T.g_Ratio T.b1_Ratio_init T.v_Ratio_init pass0 (pa_cons pe_int pa_nil)) pa_nil)))
    (pss_cons (ps_set (i := 5) nd rfl (Or.inl rfl) (pe_call G_key_of (hr.mono (by decide)) (by rfl) T.m_key_of T.F_key_of.kp T.b_key_of .nil pass0 (pa_cons (pe_make T.k_Ratio G_Ratio_init (hr.mono (by decide)) (by rfl) T.g_Ratio T.b1_Ratio_init T.v_Ratio_init pass0 (pa_cons pe_int pa_nil)) pa_nil)))
    (pss_cons (ps_while PassesOwn.never (pt_val (pe_call G_is_below hr (by rfl) T.m_is_below T.F_is_below.kp T.b_is_below .nil pass0 (pa_cons (pv 1) (pa_cons (pe_op op_mulW (pv 2) (pv 3)) pa_nil)))) (pss_cons (ps_while PassesOwn.never (pt_val (pe_call G_is_below hr (by rfl) T.m_is_below T.F_is_below.kp T.b_is_below .nil pass0 (pa_cons (pv 5) (pa_cons (pv 3) pa_nil)))) (pss_one (ps_set (i := 3) nd rfl (Or.inl rfl) (pe_op op_sub (pv 3) (pv 5)))))
    (pss_cons (ps_par (i := 4) (j := 5) rfl nd rfl rfl (by decide) rfl rfl (pa_cons (pv 5) (pa_cons (pe_op op_sub (pv 4) (pv 5)) pa_nil)) rfl)
    (pss_one (ps_while PassesOwn.never (pt_val (pe_call G_is_below hr (by rfl) T.m_is_below T.F_is_below.kp T.b_is_below .nil pass0 (pa_cons (pv 4) (pa_cons (pv 5) pa_nil)))) (pss_one (ps_set (i := 5) nd rfl (Or.inl rfl) (pe_op op_sub (pv 5) (pv 4)))))))))
    (pss_one (ps_ret (pv 3))))))), ?_⟩
  have mkr : ∀ (n : Int) (e : List Int) (σ : L2.St) (H : Hp) (Q : VK), n = ((up e : Nat) : Int) → dn e = 1 → bnd e = true → (∀ H1, Same H H1 → Q (.int (keyE e)) H1) → tCall (spKeyOf K T.C_Ratio) [] E0 (tCons (tMake T.C_Ratio (spRInit K T.C_Ratio) [V.int 1] E0 (tCons (tC (V.int n)) tNil)) tNil) σ H Q := fun n e σ H Q hn hd hb k => by
    intro x dx nx ndx nex
    refine ⟨x, dx, 1, e, ?_, upd_same, by decide, by decide, (bnd_of hb).1, fun H2 r2 kp => ⟨rfl, ?_⟩⟩
    · rw [hn, hd, Nat.one_mul]
      rfl
    have s0 : Same H (upd (upd H dx (.own x)) x (.ins T.C_Ratio dx [])) := fun b o z => by
      rw [upd_ne (ne_of_none z nx), upd_ne (ne_of_none z ndx)]
      exact z
    have s2 : Same H H2 := fun b o z => kp b o (s0 b o z) (ne_of_none z nx)
    exact ⟨x, e, rfl, r2, ex7 hb, fun H3 s3 => k H3 (s2.trans s3)⟩
  refine asg_int (k := keyE (start row)) (fun Q k => ?_) fun H1 s1 => ?_
  · refine ⟨_, rfl, t, row, rfl, ht, _, rfl, ?_⟩
    cases hb : row.any (· != 0) with
    | true =>
      have e : start row = row := if_pos hb
      rw [e] at k b0
      have h1 := bnd_of b0
      have h2 := bnd_fits b0
      refine iteT' rfl ?_
      exact ⟨_, rfl, t, row, rfl, .inr ht, h1.1, h2.1, h2.2, fun a H1 s1 ha => ⟨a, row, rfl, ha, ex7 b0, fun H2 s2 => k H2 (s1.trans s2)⟩⟩
    | false =>
      have e : start row = e4 := if_neg (by rw [hb]; decide)
      rw [e] at k
      refine iteF' rfl ?_
      exact mkr 4 e4 _ H Q (by decide +kernel) (by decide +kernel) bnd4 k
  refine asg_int (k := keyE e9) (fun Q k => mkr 9 e9 _ H1 Q (by decide +kernel) (by decide +kernel) bnd9 k) fun H2 s2 => ?_
  refine asg_int (k := keyE e4) (fun Q k => mkr 4 e4 _ H2 Q (by decide +kernel) (by decide +kernel) bnd4 k) fun H3 s3 => ?_
  have s03 := (s1.trans s2).trans s3
  refine ⟨fun m σ H' => Same H H' ∧ ∃ e g s, good row m e g s = true ∧ near r m e g s = nearE row r ∧ σ = [some (.ref t), some (.int (keyE r)), some (.int 1), some (.int (keyE e)), some (.int (keyE g)), some (.int (keyE s))], ⟨10, s03, start row, e9, e4, g0, rfl, rfl⟩, ?_⟩
  rintro m σ H4 ⟨s4, e, g, s, hg, hn, rfl⟩
  have be := ok_bnd (good_ok hg)
  have b6 := bnd_of be
  have kb := key_bound b6.1 (fun v h => Nat.le_trans (bnd_ex be v h) (by decide))
  refine ⟨_, rfl, _, rfl, _, rfl, _, _, rfl, rfl, wide_mul (a := 1) (b := 701) (by decide) kb (by decide) (by decide) (by decide), ?_⟩
  refine ⟨r, e, ?_, hL.1, be, fun H5 s5 => ⟨_, rfl, ?_⟩⟩
  · show [V.int (keyE r), V.int (1 * keyE e)] = [V.int (keyE r), V.int (keyE e)]
    rw [Int.one_mul]
  have s45 := s4.trans s5
  cases hl : lt1 (subE e r) with
  | false =>
    refine iteF' rfl ?_
    have e1 : e = nearE row r := by
      cases m with
      | zero => exact hn
      | succ n =>
        unfold near at hn
        rw [if_neg (by rw [hl]; decide)] at hn
        exact hn
    refine ⟨_, rfl, ?_⟩
    rw [e1]
    exact q H5 s45
  | true =>
    refine iteT' rfl ?_
    cases m with
    | zero => exact absurd hl (by rw [good_zero hg hL]; decide)
    | succ n =>
      have gn := good_next hg
      unfold near at hn
      rw [if_pos hl] at hn
      have g6 := bnd_of gn.1
      have s6 := bnd_of gn.2.1
      refine ⟨fun σ' H' => Same H H' ∧ σ' = [some (.ref t), some (.int (keyE r)), some (.int 1), some (.int (keyE (red 40 s e))), some (.int (keyE s)), some (.int (keyE (red 40 s (subE g s))))], fun σ' H' ⟨a1, a2⟩ => ⟨n, Nat.lt_succ_self _, a1, _, _, _, gn.2.2.2.2, hn, a2⟩, ?_⟩
      refine ⟨fun k σ H' => Same H H' ∧ ∃ e', redOk k s e' = true ∧ red k s e' = red 40 s e ∧ σ = [some (.ref t), some (.int (keyE r)), some (.int 1), some (.int (keyE e')), some (.int (keyE g)), some (.int (keyE s))], ⟨40, s45, e, gn.2.2.1, rfl, rfl⟩, ?_⟩
      rintro k σ H6 ⟨t6, e', he', hr', rfl⟩
      have be' := redOk_bnd he'
      have be6 := bnd_of be'
      refine ⟨_, rfl, _, rfl, s, e', rfl, gn.2.1, be', fun H7 t7 => ⟨_, rfl, ?_⟩⟩
      have t67 := t6.trans t7
      obtain ⟨j, rfl, nx1, nx2⟩ := redOk_next he'
      cases hl2 : lt1 (subE e' s) with
      | true =>
        refine iteT' rfl ?_
        refine ⟨fun σ' H' => Same H H' ∧ σ' = [some (.ref t), some (.int (keyE r)), some (.int 1), some (.int (keyE (subE e' s))), some (.int (keyE g)), some (.int (keyE s))], fun σ' H' ⟨a1, a2⟩ => ⟨j, Nat.lt_succ_self _, a1, _, (nx1 hl2).1, by rw [← (nx1 hl2).2, hr'], a2⟩, ?_⟩
        refine ⟨_, rfl, _, rfl, _, _, rfl, rfl, ?_⟩
        refine ⟨t67, ?_⟩
        rw [key_sub s6.1 be6.1]
        rfl
      | false =>
        refine iteF' rfl ?_
        rw [nx2 hl2] at hr'
        subst hr'
        refine ⟨_, rfl, _, rfl, _, rfl, _, _, rfl, rfl, _, _, rfl, ?_⟩
        refine ⟨fun k σ H' => Same H H' ∧ ∃ z, redOk k s z = true ∧ red k s z = red 40 s (subE g s) ∧ σ = [some (.ref t), some (.int (keyE r)), some (.int 1), some (.int (keyE (red 40 s e))), some (.int (keyE s)), some (.int (keyE z))], ⟨40, t67, subE g s, gn.2.2.2.1, rfl, ?_⟩, ?_⟩
        · rw [key_sub s6.1 g6.1]
          rfl
        rintro k σ H8 ⟨t8, z, hz, hzr, rfl⟩
        have bz := redOk_bnd hz
        have bz6 := bnd_of bz
        refine ⟨_, rfl, _, rfl, s, z, rfl, gn.2.1, bz, fun H9 t9 => ⟨_, rfl, ?_⟩⟩
        have t89 := t8.trans t9
        obtain ⟨j2, rfl, ny1, ny2⟩ := redOk_next hz
        cases hl3 : lt1 (subE z s) with
        | true =>
          refine iteT' rfl ?_
          refine ⟨fun σ' H' => Same H H' ∧ σ' = [some (.ref t), some (.int (keyE r)), some (.int 1), some (.int (keyE (red 40 s e))), some (.int (keyE s)), some (.int (keyE (subE z s)))], fun σ' H' ⟨a1, a2⟩ => ⟨j2, Nat.lt_succ_self _, a1, _, (ny1 hl3).1, by rw [← (ny1 hl3).2, hzr], a2⟩, ?_⟩
          refine ⟨_, rfl, _, rfl, _, _, rfl, rfl, ?_⟩
          refine ⟨t89, ?_⟩
          rw [key_sub s6.1 bz6.1]
          rfl
        | false =>
          refine iteF' rfl ?_
          rw [ny2 hl3] at hzr
          subst hzr
          exact ⟨t89, rfl⟩
def spRNear (K : PySem.W.Frag) (C : Addr) : Sp := fun vs H Q _ => ∃ (t p : Addr) (row r : List Int), vs = [.ref t, .ref p] ∧ SqT K H t (row.map V.int) ∧ row ∈ rowsN 6 ∧ RAt K C H p r ∧ Lim r ∧ ∀ a H', Same H H' → RAt K C H' a (nearE row r) → Q (.ref a) H'
theorem ok_ratio_near (T : Tx K mg) : FnOk P w K mg base CX0 10 T.f_ratio_near T.d_ratio_near ["bits", "most"] (spRNear K T.C_Ratio) := by
  have G__key_near := ok_key_near (P := P) (w := w) (base := base) T
  have G_key_of := ok_key_of (P := P) (w := w) (base := base) T
  have G_ratio_at := ok_ratio_at (P := P) (w := w) (base := base) T
  refine T.F_ratio_near.ok sc_ratio_near (fun vs H Q E h => ?_) (fun cdv A outer s H vs Q E hr h => ?_)
  · obtain ⟨t, p, row, r, rfl, _⟩ := h
    rfl
  obtain ⟨t, p, row, r, rfl, ht, hrow, hp, hL, q⟩ := h
  have nd := sc_ratio_near.nd
  have ok := near_facts hrow hL
  refine ⟨_, (pss_one (ps_ret (pe_call G_ratio_at (hr.mono (by decide)) (by rfl) T.m_ratio_at T.F_ratio_at.kp T.b_ratio_at .nil pass0 (pa_cons (pe_call G__key_near (hr.mono (by decide)) (by rfl) T.m__key_near T.F__key_near.kp T.b__key_near .nil pass0 (pa_cons (pv 0) (pa_cons (pe_call G_key_of (hr.mono (by decide)) (by rfl) T.m_key_of T.F_key_of.kp T.b_key_of .nil pass0 (pa_cons (pv 1) pa_nil)) (pa_cons pe_int pa_nil)))) pa_nil)))), ?_⟩
  refine ⟨_, rfl, _, rfl, p, r, rfl, hp, fun v h => Nat.le_trans (bnd_ex hL.1 v h) (by decide), fun H1 s1 => ⟨t, row, r, rfl, seqT s1 ht, hrow, hL, fun H2 s2 => ?_⟩⟩
  exact ⟨nearE row r, rfl, ok.1, fun v h => Nat.le_trans (bnd_ex ok.2.1 v h) (by decide), bnd_fits ok.2.1, fun a H3 s3 ha => q a H3 ((s1.trans s2).trans s3) ha⟩
end
end TL
namespace TL
open PySem L2

/-! ### steps of a reading -/
local macro_rules | `(tactic| walk_at "hp") => `(tactic| first | assumption | exact upd_same | (refine (upd_ne (by first | assumption | (exact Ne.symm (by assumption)))).trans ?_; walk_at "hp"))
local macro_rules | `(tactic| walk_at "ok") => `(tactic| first | (exact Or.inr ⟨by decide, by decide⟩) | (exact ⟨by decide, by decide⟩) | (exact ⟨by decide, by decide, by decide⟩) | (show _ ≠ _; omega) | (show _ ≠ _; decide) | (exact Or.inl ⟨by omega, by omega⟩) | decide)
local macro_rules | `(tactic| walk_at "sq") => `(tactic| first | assumption | exact SqL.of (by walk_at "hp") | exact SqT.of (by walk_at "hp"))
local macro_rules | `(tactic| walk_at "ty") => `(tactic| first | refine ⟨_, _, Value.type "int", Value.type "list", false, rfl, ClsV.ty _, TyX.base (TyOf.int _), kt_int_list, ?_⟩ | refine ⟨_, _, Value.type "bool", Value.type "list", false, rfl, ClsV.ty _, TyX.base (TyOf.bl _), kt_bool_list, ?_⟩ | refine ⟨_, _, Value.type "str", Value.type "list", false, rfl, ClsV.ty _, TyX.base (TyOf.str _), kt_str_list, ?_⟩ | refine ⟨_, _, Value.type "NoneType", Value.type "list", false, rfl, ClsV.ty _, TyX.base TyOf.non, kt_NoneType_list, ?_⟩ | refine ⟨_, _, Value.type "list", Value.type "list", true, rfl, ClsV.ty _, tyx_L (by walk_at "sq"), kt_list_list, ?_⟩ | refine ⟨_, _, Value.type "tuple", Value.type "list", false, rfl, ClsV.ty _, tyx_T (by walk_at "sq"), kt_tuple_list, ?_⟩ | refine ⟨_, _, Value.type "int", Value.type "tuple", false, rfl, ClsV.ty _, TyX.base (TyOf.int _), kt_int_tuple, ?_⟩ | refine ⟨_, _, Value.type "bool", Value.type "tuple", false, rfl, ClsV.ty _, TyX.base (TyOf.bl _), kt_bool_tuple, ?_⟩ | refine ⟨_, _, Value.type "str", Value.type "tuple", false, rfl, ClsV.ty _, TyX.base (TyOf.str _), kt_str_tuple, ?_⟩ | refine ⟨_, _, Value.type "NoneType", Value.type "tuple", false, rfl, ClsV.ty _, TyX.base TyOf.non, kt_NoneType_tuple, ?_⟩ | refine ⟨_, _, Value.type "list", Value.type "tuple", false, rfl, ClsV.ty _, tyx_L (by walk_at "sq"), kt_list_tuple, ?_⟩ | refine ⟨_, _, Value.type "tuple", Value.type "tuple", true, rfl, ClsV.ty _, tyx_T (by walk_at "sq"), kt_tuple_tuple, ?_⟩ | refine ⟨_, _, Value.type "int", Value.type "bool", false, rfl, ClsV.ty _, TyX.base (TyOf.int _), kt_int_bool, ?_⟩ | refine ⟨_, _, Value.type "bool", Value.type "bool", true, rfl, ClsV.ty _, TyX.base (TyOf.bl _), kt_bool_bool, ?_⟩ | refine ⟨_, _, Value.type "str", Value.type "bool", false, rfl, ClsV.ty _, TyX.base (TyOf.str _), kt_str_bool, ?_⟩ | refine ⟨_, _, Value.type "NoneType", Value.type "bool", false, rfl, ClsV.ty _, TyX.base TyOf.non, kt_NoneType_bool, ?_⟩ | refine ⟨_, _, Value.type "list", Value.type "bool", false, rfl, ClsV.ty _, tyx_L (by walk_at "sq"), kt_list_bool, ?_⟩ | refine ⟨_, _, Value.type "tuple", Value.type "bool", false, rfl, ClsV.ty _, tyx_T (by walk_at "sq"), kt_tuple_bool, ?_⟩ | refine ⟨_, _, Value.type "int", Value.type "int", true, rfl, ClsV.ty _, TyX.base (TyOf.int _), kt_int_int, ?_⟩ | refine ⟨_, _, Value.type "bool", Value.type "int", true, rfl, ClsV.ty _, TyX.base (TyOf.bl _), kt_bool_int, ?_⟩ | refine ⟨_, _, Value.type "str", Value.type "int", false, rfl, ClsV.ty _, TyX.base (TyOf.str _), kt_str_int, ?_⟩ | refine ⟨_, _, Value.type "NoneType", Value.type "int", false, rfl, ClsV.ty _, TyX.base TyOf.non, kt_NoneType_int, ?_⟩ | refine ⟨_, _, Value.type "list", Value.type "int", false, rfl, ClsV.ty _, tyx_L (by walk_at "sq"), kt_list_int, ?_⟩ | refine ⟨_, _, Value.type "tuple", Value.type "int", false, rfl, ClsV.ty _, tyx_T (by walk_at "sq"), kt_tuple_int, ?_⟩ | refine ⟨_, _, Value.type "int", Value.type "str", false, rfl, ClsV.ty _, TyX.base (TyOf.int _), kt_int_str, ?_⟩ | refine ⟨_, _, Value.type "bool", Value.type "str", false, rfl, ClsV.ty _, TyX.base (TyOf.bl _), kt_bool_str, ?_⟩ | refine ⟨_, _, Value.type "str", Value.type "str", true, rfl, ClsV.ty _, TyX.base (TyOf.str _), kt_str_str, ?_⟩ | refine ⟨_, _, Value.type "NoneType", Value.type "str", false, rfl, ClsV.ty _, TyX.base TyOf.non, kt_NoneType_str, ?_⟩ | refine ⟨_, _, Value.type "list", Value.type "str", false, rfl, ClsV.ty _, tyx_L (by walk_at "sq"), kt_list_str, ?_⟩ | refine ⟨_, _, Value.type "tuple", Value.type "str", false, rfl, ClsV.ty _, tyx_T (by walk_at "sq"), kt_tuple_str, ?_⟩)
local macro_rules | `(tactic| walk_at "go1") => `(tactic| first
  | (refine ⟨_, rfl, ?_⟩)
  | (refine ⟨_, _, rfl, rfl, ?_⟩)
  | (refine ⟨_, _, _, _, rfl, rfl, SqL.of (by walk_at "hp"), rfl, ?_⟩)
  | (refine Or.inl ⟨_, rfl, ?_⟩)
  | (refine ⟨rfl, ?_⟩)
  | (refine ⟨_, _, rfl, .inl (SqL.of (by walk_at "hp")), ?_⟩)
  | (refine ⟨_, _, rfl, Or.inl (by assumption), ?_⟩)
  | (refine ⟨_, _, rfl, Or.inr (by assumption), ?_⟩)
  | (refine ⟨(by walk_at "ok"), ?_⟩)
  | (refine ⟨_, _, _, _, rfl, rfl, (by walk_at "hp"), rfl, ?_⟩))
local macro_rules | `(tactic| walk_at "go") => `(tactic| repeat (walk_at "go1"))
local macro_rules | `(tactic| walk_at "gt") => `(tactic| repeat (first | walk_at "go1" | walk_at "ty"))

section
variable {P : Program} {w : World} {K : PySem.W.Frag} {mg : Str → Option Value} {base : Heap}
-- [] [0=_law_bag_here, 1=_law_found] [0=_law_pair_here] [0=_law_thing, 1=_law_pair_here] [0=_law_pairs, 1=_law_one] [0=_law_bag_here*, 1=_law_k]
theorem TAt.kb {B : Bg} {H H' : Hp} {t : Addr} {e : List Int} (h : TAt K H t e) (hB : Bag B H) (k : Kb B.b H H') : TAt K H' t e := by
  obtain ⟨i, r, s, c, hb, _⟩ := hB.ex
  exact ⟨seqT_kb hb k h.ex, h.len⟩
def Tas (K : PySem.W.Frag) (H : Hp) (ps : List V) (es : List (List Int)) : Prop := ps.length = es.length ∧ ∀ (i : Nat) p, ps[i]? = some p → ∃ t e, p = .ref t ∧ e ∈ es ∧ TAt K H t e
theorem Tas.same {H H' : Hp} {ps : List V} {es : List (List Int)} (h : Tas K H ps es) (s : Same H H') : Tas K H' ps es := ⟨h.1, fun i p hp => by
  obtain ⟨t, e, e1, e2, e3⟩ := h.2 i p hp
  exact ⟨t, e, e1, e2, e3.same s⟩⟩
def EvTs (K : PySem.W.Frag) (ta : TA) (σ : L2.St) (H : Hp) (es : List (List Int)) : Prop := ∀ H1, Same H H1 → ∀ Q : List V → Hp → Prop, (∀ ps H2, Same H1 H2 → Tas K H2 ps es → Q ps H2) → ta σ H1 Q
theorem ets_nil {σ : L2.St} {H : Hp} : EvTs K tNil σ H [] := fun H1 s Q q => q [] H1 (Same.refl _) ⟨rfl, fun i p h => by cases h⟩
theorem ets_cons {σ : L2.St} {H : Hp} {a b : Int} {tr : TA} {e : List Int} {es : List (List Int)} (h1 : a = ((up e : Nat) : Int)) (h2 : b = ((dn e : Nat) : Int)) (hl : e.length = 6) (hr : EvTs K tr σ H es) :
    EvTs K (tCons (tTup (tCons (tC (.int a)) (tCons (tC (.int b)) tNil))) tr) σ H (e :: es) := fun H1 s1 Q q =>
  ⟨(by show 2 ≤ sizeLine; decide), fun p hp => by
    have s2 := Same.new (o := .tup [.int a, .int b]) hp
    refine hr _ (s1.trans s2) _ fun ps H3 s3 hps => q (.ref p :: ps) H3 (s2.trans s3) ⟨by simp [hps.1], fun i r hr' => ?_⟩
    match i, hr' with
    | 0, hr' =>
      cases hr'
      exact ⟨p, e, rfl, List.mem_cons_self .., ⟨SqT.of (by rw [← h1, ← h2]; exact s3 _ _ upd_same), hl⟩⟩
    | i + 1, hr' =>
      obtain ⟨t, f, e1, e2, e3⟩ := hps.2 i r hr'
      exact ⟨t, f, e1, List.mem_cons_of_mem _ e2, e3⟩⟩
def menuE : List (List Int) := [[-3, 2, 0, 0, 0, 0], [2, -1, 0, 0, 0, 0], [4, -1, -1, 0, 0, 0], [-2, 0, 1, 0, 0, 0], [1, 1, -1, 0, 0, 0], [1, -2, 1, 0, 0, 0], [-1, 1, 0, 0, 0, 0], [1, 0, 0, 0, 0, 0], [-1, -1, 0, 1, 0, 0], [3, 0, 0, -1, 0, 0], [-3, -1, 2, 0, 0, 0], [-1, 0, -1, 0, 1, 0], [1, 0, 0, 1, 0, -1], [-2, -1, 0, 0, 0, 1]]
def limB (e : List Int) : Bool := bnd e && (decide (1001 * dn e ≤ up e * 1000) && (decide (up e ≤ 2000) && decide (dn e ≤ 2000)))
theorem lim_of {e : List Int} (h : limB e = true) : Lim e ∧ up e ≤ 2000 ∧ dn e ≤ 2000 := by
  unfold limB at h
  rw [Bool.and_eq_true, Bool.and_eq_true, Bool.and_eq_true] at h
  exact ⟨⟨h.1, of_decide_eq_true h.2.1⟩, of_decide_eq_true h.2.2.1, of_decide_eq_true h.2.2.2⟩
theorem menu_lim : ∀ x ∈ menuE, limB x = true := by decide +kernel
theorem menu_lim2 : ∀ x ∈ menuE, ∀ y ∈ menuE, limB (addE x y) = true := by decide +kernel
theorem lim_fit {e : List Int} (h : limB e = true) : Fit e := by
  have h1 := lim_of h
  have : (2000 : Nat) < 2 ^ 4000 := Nat.lt_trans (by decide : 2000 < 2 ^ 11) (Nat.pow_lt_pow_right (by decide) (by decide))
  exact ⟨Nat.lt_of_le_of_lt h1.2.1 this, Nat.lt_of_le_of_lt h1.2.2 this⟩
theorem back_none {H H' : Hp} {p : Addr} (s : Same H H') (h : H' p = none) : H p = none := by
  cases e : H p with
  | none => rfl
  | some o =>
    rw [s _ _ e] at h
    cases h
theorem ret_tas {σ : L2.St} {H : Hp} {ta : TA} {es : List (List Int)} {Q : VK} (h : EvTs K ta σ H es) (hz : es.length ≤ 1000) (k : ∀ ps p H', Same H H' → H p = none → H' p = some (.lst ps) → Tas K H' ps es → Q (.ref p) H') : tRet (tLst ta) { nx := fun _ H' => Q .non H', rt := Q } σ H :=
  h H (Same.refl _) _ fun ps H1 s1 hw => ⟨by rw [hw.1]; exact Nat.le_of_lt (Nat.lt_of_le_of_lt hz (by decide)), fun p hp =>
    k ps p _ (s1.trans (Same.new hp)) (back_none s1 hp) upd_same (hw.same (Same.new hp))⟩
def spMenu (K : PySem.W.Frag) : Sp := fun vs H Q _ => vs = [] ∧ ∀ ps t H', Same H H' → H t = none → H' t = some (.lst ps) → Tas K H' ps menuE → Q (.ref t) H'
theorem ok_l_menu (T : Tx K mg) : FnOk P w K mg base CX0 1 T.f_l_menu T.d_l_menu [] (spMenu K) := by
  refine T.F_l_menu.ok sc_l_menu (fun vs H Q E h => ?_) (fun cdv A outer s H vs Q E hr h => ?_)
  · obtain ⟨rfl, _⟩ := h
    rfl
  obtain ⟨rfl, q⟩ := h
  have nd := sc_l_menu.nd
  refine ⟨_, (pss_one (ps_ret (pe_lst (pa_cons (pe_tup (pa_cons pe_int (pa_cons pe_int pa_nil))) (pa_cons (pe_tup (pa_cons pe_int (pa_cons pe_int pa_nil))) (pa_cons (pe_tup (pa_cons pe_int (pa_cons pe_int pa_nil))) (pa_cons (pe_tup (pa_cons pe_int (pa_cons pe_int pa_nil))) (pa_cons (pe_tup (pa_cons pe_int (pa_cons pe_int pa_nil))) (pa_cons (pe_tup (pa_cons pe_int (pa_cons pe_int pa_nil))) (pa_cons (pe_tup (pa_cons pe_int (pa_cons pe_int pa_nil))) (pa_cons (pe_tup (pa_cons pe_int (pa_cons pe_int pa_nil))) (pa_cons (pe_tup (pa_cons pe_int (pa_cons pe_int pa_nil))) (pa_cons (pe_tup (pa_cons pe_int (pa_cons pe_int pa_nil))) (pa_cons (pe_tup (pa_cons pe_int (pa_cons pe_int pa_nil))) (pa_cons (pe_tup (pa_cons pe_int (pa_cons pe_int pa_nil))) (pa_cons (pe_tup (pa_cons pe_int (pa_cons pe_int pa_nil))) (pa_cons (pe_tup (pa_cons pe_int (pa_cons pe_int pa_nil))) pa_nil))))))))))))))))), ?_⟩
  refine ret_tas (K := K) (es := menuE) ?_ (by decide) q
  repeat (first | exact ets_nil | refine ets_cons (by decide +kernel) (by decide +kernel) rfl ?_)
def spLen (K : PySem.W.Frag) : Sp := fun vs H Q _ => ∃ (B : Bg), vs = [.ref B.b] ∧ Bag B H ∧ ∀ t e H', Bag B H' → Kb B.b H H' → TAt K H' t e → limB e = true → Q (.ref t) H'
theorem ok_l_length (T : Tx K mg) : FnOk P w K mg base CX0 4 T.f_l_length T.d_l_length ["_law_bag_here"] (spLen K) := by
  have G_l_menu := ok_l_menu (P := P) (w := w) (base := base) T
  have G_l_of := ok_of (P := P) (w := w) (base := base) T
  have G_l_draw := ok_draw (P := P) (w := w) (base := base) T
  have G_l_times := ok_l_times (P := P) (w := w) (base := base) T
  refine T.F_l_length.ok sc_l_length (fun vs H Q E h => ?_) (fun cdv A outer s H vs Q E hr h => ?_)
  · obtain ⟨B, rfl, _⟩ := h
    rfl
  obtain ⟨B, rfl, hB, q⟩ := h
  have nd := sc_l_length.nd
  refine ⟨_, (pss_cons (ps_set (i := 1) nd rfl (Or.inl rfl) (pe_call G_l_of (hr.mono (by decide)) (by rfl) T.m_l_of T.F_l_of.kp T.b_l_of .nil pass0 (pa_cons (pv 0) (pa_cons (pe_call0 G_l_menu (hr.mono (by decide)) (by rfl) T.m_l_menu T.F_l_menu.kp T.b_l_menu .nil pass0) pa_nil))))
    (pss_one (ps_ret (pe_ifExp (pt_cmpR op_eq (pe_call G_l_draw (hr.mono (by decide)) (by rfl) T.m_l_draw T.F_l_draw.kp T.b_l_draw .nil pass0 (pa_cons (pv 0) (pa_cons pe_int pa_nil))) pe_int (nomark _)) (pe_call G_l_times hr (by rfl) T.m_l_times T.F_l_times.kp T.b_l_times .nil pass0 (pa_cons (pv 1) (pa_cons (pe_call G_l_of (hr.mono (by decide)) (by rfl) T.m_l_of T.F_l_of.kp T.b_l_of .nil pass0 (pa_cons (pv 0) (pa_cons (pe_call0 G_l_menu (hr.mono (by decide)) (by rfl) T.m_l_menu T.F_l_menu.kp T.b_l_menu .nil pass0) pa_nil))) pa_nil))) (pv 1))))), ?_⟩
  refine ⟨_, rfl, rfl, fun ps t H1 s1 ht0 ht hT => ?_⟩
  have hB1 := hB.same s1
  refine ⟨B, t, ps, rfl, SqL.of ht, hB.nb ht0, by rw [hT.1]; decide, by rw [hT.1]; decide, hB1, fun i v H2 hv hB2 kb2 => ?_⟩
  obtain ⟨p1, x, rfl, hx, tx⟩ := hT.2 i v hv
  have tx2 := tx.kb hB1 kb2
  refine ⟨_, rfl, B, 4, rfl, by decide, by decide, hB2, fun d H3 d0 d1 hB3 kb3 => ?_⟩
  refine ⟨rfl, _, rfl, ?_⟩
  have tx3 := tx2.kb hB2 kb3
  have kb03 := ((Kb.same (g := B.b) s1).trans kb2).trans kb3
  refine ite2 (fun c => ?_) (fun c => ?_)
  · refine ⟨_, rfl, _, rfl, rfl, fun ps2 t2 H4 s4 ht20 ht2 hT2 => ?_⟩
    have hB4 := hB3.same s4
    refine ⟨B, t2, ps2, rfl, SqL.of ht2, hB3.nb ht20, by rw [hT2.1]; decide, by rw [hT2.1]; decide, hB4, fun i2 v2 H5 hv2 hB5 kb5 => ?_⟩
    obtain ⟨p2, y, rfl, hy, ty⟩ := hT2.2 i2 v2 hv2
    refine ⟨p1, p2, x, y, rfl, (tx3.same s4).kb hB4 kb5, ty.kb hB4 kb5, lim_fit (menu_lim x hx), lim_fit (menu_lim y hy), fun r H6 s6 hr' => ?_⟩
    exact q r _ H6 (hB5.same s6) (((kb03.trans (Kb.same s4)).trans kb5).trans (Kb.same s6)) hr' (menu_lim2 x hx y hy)
  · exact ⟨_, rfl, q p1 x H3 hB3 kb03 tx3 (menu_lim x hx)⟩
def spRat (K : PySem.W.Frag) (C : Addr) : Sp := fun vs H Q _ => ∃ (p : Addr) (e : List Int), vs = [.ref p] ∧ TAt K H p e ∧ ∀ t H', Same H H' → RAt K C H' t e → Q (.ref t) H'
theorem ok_l_ratio (T : Tx K mg) : FnOk P w K mg base CX0 6 T.f_l_ratio T.d_l_ratio ["_law_pair_here"] (spRat K T.C_Ratio) := by
  have G_Ratio_init := ok_rinit (P := P) (w := w) (base := base) T
  refine T.F_l_ratio.ok sc_l_ratio (fun vs H Q E h => ?_) (fun cdv A outer s H vs Q E hr h => ?_)
  · obtain ⟨p, e, rfl, _⟩ := h
    rfl
  obtain ⟨p, e, rfl, he, q⟩ := h
  refine ⟨_, (pss_one (ps_ret (pe_make T.k_Ratio G_Ratio_init hr (by rfl) T.g_Ratio T.b_Ratio_init .nil pass0 (pa_cons (pe_ix (show IxR _ (rIxT K) from ix_tup) (pv 0) pe_int (fun _ _ => rfl)) (pa_cons (pe_ix (show IxR _ (rIxT K) from ix_tup) (pv 0) pe_int (fun _ _ => rfl)) pa_nil))))), ?_⟩
  refine ⟨_, rfl, _, _, _, _, rfl, rfl, he.ex, rfl, _, rfl, _, _, _, _, rfl, rfl, he.ex, rfl, ?_⟩
  intro x dx nx ndx nex
  refine ⟨x, dx, 1, e, ?_, upd_same, by decide, by decide, he.len, fun H2 r2 kp => ⟨rfl, ?_⟩⟩
  · rw [Nat.one_mul, Nat.one_mul]
    rfl
  have s0 : Same H (upd (upd H dx (.own x)) x (.ins T.C_Ratio dx [])) := fun b o z => by
    rw [upd_ne (ne_of_none z nx), upd_ne (ne_of_none z ndx)]
    exact z
  exact q x H2 (fun b o z => kp b o (s0 b o z) (ne_of_none z nx)) r2
def spPair (K : PySem.W.Frag) (C : Addr) : Sp := fun vs H Q _ => ∃ (p : Addr) (e : List Int), vs = [.ref p] ∧ RAt K C H p e ∧ ∀ t H', Same H H' → TAt K H' t e → Q (.ref t) H'
theorem ok_l_pair (T : Tx K mg) : FnOk P w K mg base CX0 3 T.f_l_pair T.d_l_pair ["_law_thing"] (spPair K T.C_Ratio) := by
  have G_l_like := ok_like (P := P) (w := w) (base := base) T 2
  refine T.F_l_pair.ok sc_l_pair (fun vs H Q E h => ?_) (fun cdv A outer s H vs Q E hr h => ?_)
  · obtain ⟨p, e, rfl, _⟩ := h
    rfl
  obtain ⟨p, e, rfl, he, q⟩ := h
  obtain ⟨dx, t, h1, h2⟩ := he.ex
  have nd := sc_l_pair.nd
  have i := T.i_Ratio
  refine ⟨_, (pss_cons (ps_if (pt_not (pt_val (pe_callB (show CallR _ _ (rIsi K) from call_isi) (by rfl) T.z_isinstance (by decide +kernel) (pa_cons (pv 0) (pa_cons (pe_glob (v := .ref T.C_Ratio) (by rfl) T.g_Ratio rfl) pa_nil))))) (pss_one (ps_ret pe_non)) pss_nil)
    (pss_cons (ps_set (i := 1) nd rfl (Or.inl rfl) (pe_tup (pa_cons (show PE _ _ (tFld K _ _) from pe_fld (pv 0) rfl) (pa_cons (show PE _ _ (tFld K _ _) from pe_fld (pv 0) rfl) pa_nil))))
    (pss_one (ps_ret (pe_ifExp (PW.pt (pw_and (pt_val (pe_call G_l_like hr (by rfl) T.m_l_like T.F_l_like.kp T.b_l_like .nil pass0 (pa_cons (pv 1) (pa_cons (pe_tup (pa_cons (pe_callTy call_int1 (by rfl) T.z_int (by decide +kernel) (pa_cons (pe_ix (show IxR _ (rIxT K) from ix_tup) (pv 1) pe_int (fun _ _ => rfl)) pa_nil)) (pa_cons (pe_callTy call_int1 (by rfl) T.z_int (by decide +kernel) (pa_cons (pe_ix (show IxR _ (rIxT K) from ix_tup) (pv 1) pe_int (fun _ _ => rfl)) pa_nil)) pa_nil))) pa_nil)))) (pw_and (pt_cmpR op_gt (pe_ix (show IxR _ (rIxT K) from ix_tup) (pv 1) pe_int (fun _ _ => rfl)) pe_int (nomark _)) (pw_and1 (pt_cmpR op_gt (pe_ix (show IxR _ (rIxT K) from ix_tup) (pv 1) pe_int (fun _ _ => rfl)) pe_int (nomark _)))))) (pv 1) pe_non))))), ?_⟩
  refine ⟨_, rfl, _, _, _, .ref T.C_Ratio, true, rfl, ClsV.own _, TyX.base (TyOf.ins h1 T.c_Ratio i.ca i.cn i.ct i.cm), i.me, ?_⟩
  refine ⟨_, rfl, iteF' rfl ?_⟩
  refine ⟨_, rfl, p, _, _, _, _, rfl, h1, T.c_Ratio, T.n_Ratio_over, rf_o _ _ _, _, rfl, p, _, _, _, _, rfl, h1, T.c_Ratio, T.n_Ratio_under, rf_u _ _ _, (by show 2 ≤ sizeLine; decide), fun pa hpa => ?_⟩
  have s1 := Same.new (o := .tup [.int ((up e : Nat) : Int), .int ((dn e : Nat) : Int)]) hpa
  have ha : SqT K (upd H pa (.tup [.int ((up e : Nat) : Int), .int ((dn e : Nat) : Int)])) pa [.int ((up e : Nat) : Int), .int ((dn e : Nat) : Int)] := SqT.of upd_same
  generalize upd H pa (.tup [.int ((up e : Nat) : Int), .int ((dn e : Nat) : Int)]) = H1 at *
  refine ⟨_, rfl, _, rfl, _, _, _, _, rfl, rfl, ha, rfl, .inl ⟨_, rfl, _, rfl, _, _, _, _, rfl, rfl, ha, rfl, .inl ⟨_, rfl, (by show 2 ≤ sizeLine; decide), fun pb hpb => ?_⟩⟩⟩
  have s2 := Same.new (o := .tup [.int ((up e : Nat) : Int), .int ((dn e : Nat) : Int)]) hpb
  refine ⟨1, .ref pa, .ref pb, rfl, by decide, .tup (xs := [.int ((up e : Nat) : Int), .int ((dn e : Nat) : Int)]) (ys := [.int ((up e : Nat) : Int), .int ((dn e : Nat) : Int)]) (seqT s2 ha) (SqT.of upd_same) (by show 2 ≤ 100000; decide) rfl (fun i x y hx hy => ?_), fun H3 s3 => ?_⟩
  · have exy : x = y := Option.some.inj (hx.symm.trans hy)
    subst exy
    have : x = .int ((up e : Nat) : Int) ∨ x = .int ((dn e : Nat) : Int) := by
      have := List.mem_of_getElem? hx
      simpa using this
    rcases this with rfl | rfl
    · exact .int _
    · exact .int _
  have ha3 := seqT (s2.trans s3) ha
  have s13 := (s1.trans s2).trans s3
  have u0 := up_pos e
  have d0 := dn_pos e
  refine ⟨_, rfl, iteT' rfl ?_⟩
  refine ⟨_, rfl, _, _, _, _, rfl, rfl, ha3, rfl, _, _, rfl, rfl, _, rfl, ?_⟩
  refine iteT' (decide_eq_true (by omega)) ?_
  refine ⟨_, rfl, _, _, _, _, rfl, rfl, ha3, rfl, _, _, rfl, rfl, _, rfl, ?_⟩
  refine iteT' (decide_eq_true (by omega)) ?_
  exact ⟨_, rfl, q pa H3 s13 ⟨ha3, he.len⟩⟩
def spHuge (K : PySem.W.Frag) : Sp := fun vs H Q _ => ∃ (l p : Addr) (e : List Int), vs = [.ref l] ∧ SqL K H l [.ref p] ∧ TAt K H p e ∧ ∀ b H', Same H H' → Q (.bl b) H'
theorem ok_l_huge (T : Tx K mg) : FnOk P w K mg base CX0 1 T.f_l_huge T.d_l_huge ["_law_pairs"] (spHuge K) := by
  refine T.F_l_huge.ok sc_l_huge (fun vs H Q E h => ?_) (fun cdv A outer s H vs Q E hr h => ?_)
  · obtain ⟨l, p, e, rfl, _⟩ := h
    rfl
  obtain ⟨l, p, e, rfl, hl, he, q⟩ := h
  have nd := sc_l_huge.nd
  refine ⟨_, (pss_one (ps_ret (pe_callB (show CallR _ _ (rAny K) from cr_any rfl) (by rfl) T.z_any (by decide +kernel) (pa_cons (pe_lc (own := [("_law_one", 1)]) (g := (gName 1)) rfl nd (show PI _ _ _ (iList K _) from pi_list (pv 0)) (blkOk_by (own := [("_law_one", 1)]) (N := N_l_huge) (sc := defScope s_l_huge) (by decide +kernel)) (fun _ _ _ _ _ => by exact (pg_name (i := 1) nd rfl (Or.inl rfl))) (fun _ _ _ _ _ => by exact pts_nil) (fun _ _ _ _ _ => by exact (pe_cmpR op_gt (pe_op op_add (pe_bits (pe_ix (show IxR _ (rIxT K) from ix_tup) (pv 1) pe_int (fun _ _ => rfl))) (pe_bits (pe_ix (show IxR _ (rIxT K) from ix_tup) (pv 1) pe_int (fun _ _ => rfl)))) pe_int (nomark _)))) pa_nil)))), ?_⟩
  refine ⟨_, rfl, l, rfl, ⟨_, hl⟩, fun D hD => ?_⟩
  refine lcm (walk_list (K := K) (a := l) (xs := [.ref p])) [.bl (decide ((5000 : Int) < ((Builtin.Int.intBits ((up e : Nat) : Int) : Nat) : Int) + ((Builtin.Int.intBits ((dn e : Nat) : Int) : Nat) : Int)))] rfl (by show 1 ≤ 100000; decide) hD (fun H' s' => s'.seq hl) ?_ fun H1 s1 hD1 => ?_
  · rintro t y x H1 H2 hi hy s1 ⟨rfl, hx⟩ k hk
    obtain rfl : t = 0 := by
      have : t < 1 := hi
      omega
    cases hx
    cases hy
    have he1 := he.same s1
    refine ⟨rfl, ?_⟩
    refine ⟨_, rfl, _, _, _, _, rfl, rfl, he1.ex, rfl, _, rfl, _, rfl, _, _, _, _, rfl, rfl, he1.ex, rfl, _, rfl, _, _, rfl, rfl, _, _, rfl, rfl, ?_⟩
    exact hk _ (Same.refl _)
  · exact ⟨D, [_], rfl, SqL.of hD1, q _ H1 s1⟩
def spBits6 (K : PySem.W.Frag) : Sp := fun vs H Q _ => ∃ (B : Bg), vs = [.ref B.b] ∧ Bag B H ∧ ∀ t row H', Bag B H' → Kb B.b H H' → H t = none → H' t = some (.lst (row.map V.int)) → row ∈ rowsN 6 → Q (.ref t) H'
theorem ints_of {R : Int → Prop} : ∀ ys : List V, (∀ y ∈ ys, ∃ d, y = V.int d ∧ R d) → ∃ ns : List Int, ys = ns.map V.int ∧ ns.length = ys.length ∧ ∀ d ∈ ns, R d
  | [], _ => ⟨[], rfl, rfl, fun d h => by cases h⟩
  | y :: ys, h => by
    obtain ⟨d, rfl, hd⟩ := h y (List.mem_cons_self ..)
    obtain ⟨ns, rfl, hl, hn⟩ := ints_of ys fun z hz => h z (List.mem_cons_of_mem _ hz)
    refine ⟨d :: ns, rfl, by simp, fun x hx => ?_⟩
    rcases List.mem_cons.mp hx with rfl | hx
    · exact hd
    · exact hn x hx
theorem ok_l_bit_row (T : Tx K mg) : FnOk P w K mg base CX0 2 T.f_l_bit_row T.d_l_bit_row ["_law_bag_here"] (spBits6 K) := by
  have G_l_draw := ok_draw (P := P) (w := w) (base := base) T
  refine T.F_l_bit_row.ok sc_l_bit_row (fun vs H Q E h => ?_) (fun cdv A outer s H vs Q E hr h => ?_)
  · obtain ⟨B, rfl, _⟩ := h
    rfl
  obtain ⟨B, rfl, hB, q⟩ := h
  have nd := sc_l_bit_row.nd
  refine ⟨_, (pss_one (ps_ret (pe_lc (own := [("_law_k", 1)]) (g := (gName 1)) rfl nd (pi_range1 (by rfl) T.z_range (pa_cons pe_int pa_nil)) (blkOk_by (own := [("_law_k", 1)]) (N := N_l_bit_row) (sc := defScope s_l_bit_row) (by decide +kernel)) (fun _ _ _ _ _ => by exact (pg_name (i := 1) nd rfl (Or.inl rfl))) (fun _ _ _ _ _ => by exact pts_nil) (fun _ _ _ _ _ => by exact (pe_call G_l_draw (hr.mono (by decide)) (by rfl) T.m_l_draw T.F_l_draw.kp T.b_l_draw .nil pass0 (pa_cons (pv 0) (pa_cons pe_int pa_nil))))))), ?_⟩
  refine ⟨6, rfl, by decide, by decide, fun D hD => ?_⟩
  refine lcb (walk_range (lo := 0) (n := 6)) (fun y => ∃ d : Int, y = .int d ∧ (d = 0 ∨ d = 1)) (by decide) hB hD (fun _ _ => trivial) ?_ ?_
  · rintro j y H5 H6 hj kb7 hB6 ⟨rfl, rfl⟩ k hk
    refine ⟨rfl, ?_⟩
    exact ⟨_, rfl, B, 2, rfl, by decide, by decide, hB6, fun d H7 d0 d1 hB7 kb8 => hk _ H7 ⟨d, rfl, by omega⟩ kb8 hB7⟩
  intro ys H3 hl hys kb3 hB3 hD3
  obtain ⟨e, rfl, hb1, hb2⟩ := ints_of ys hys
  exact q D e H3 hB3 kb3 hD hD3 (mem_rows 6 e (by omega) hb2)
end
end TL
namespace TL
open PySem L2

/-! ### steps of a reading -/
local macro_rules | `(tactic| walk_at "hp") => `(tactic| first | assumption | exact upd_same | (refine (upd_ne (by first | assumption | (exact Ne.symm (by assumption)))).trans ?_; walk_at "hp"))
local macro_rules | `(tactic| walk_at "ok") => `(tactic| first | (exact Or.inr ⟨by decide, by decide⟩) | (exact ⟨by decide, by decide⟩) | (exact ⟨by decide, by decide, by decide⟩) | (show _ ≠ _; omega) | (show _ ≠ _; decide) | (exact Or.inl ⟨by omega, by omega⟩) | decide)
local macro_rules | `(tactic| walk_at "sq") => `(tactic| first | assumption | exact SqL.of (by walk_at "hp") | exact SqT.of (by walk_at "hp"))
local macro_rules | `(tactic| walk_at "ty") => `(tactic| first | refine ⟨_, _, Value.type "int", Value.type "list", false, rfl, ClsV.ty _, TyX.base (TyOf.int _), kt_int_list, ?_⟩ | refine ⟨_, _, Value.type "bool", Value.type "list", false, rfl, ClsV.ty _, TyX.base (TyOf.bl _), kt_bool_list, ?_⟩ | refine ⟨_, _, Value.type "str", Value.type "list", false, rfl, ClsV.ty _, TyX.base (TyOf.str _), kt_str_list, ?_⟩ | refine ⟨_, _, Value.type "NoneType", Value.type "list", false, rfl, ClsV.ty _, TyX.base TyOf.non, kt_NoneType_list, ?_⟩ | refine ⟨_, _, Value.type "list", Value.type "list", true, rfl, ClsV.ty _, tyx_L (by walk_at "sq"), kt_list_list, ?_⟩ | refine ⟨_, _, Value.type "tuple", Value.type "list", false, rfl, ClsV.ty _, tyx_T (by walk_at "sq"), kt_tuple_list, ?_⟩ | refine ⟨_, _, Value.type "int", Value.type "tuple", false, rfl, ClsV.ty _, TyX.base (TyOf.int _), kt_int_tuple, ?_⟩ | refine ⟨_, _, Value.type "bool", Value.type "tuple", false, rfl, ClsV.ty _, TyX.base (TyOf.bl _), kt_bool_tuple, ?_⟩ | refine ⟨_, _, Value.type "str", Value.type "tuple", false, rfl, ClsV.ty _, TyX.base (TyOf.str _), kt_str_tuple, ?_⟩ | refine ⟨_, _, Value.type "NoneType", Value.type "tuple", false, rfl, ClsV.ty _, TyX.base TyOf.non, kt_NoneType_tuple, ?_⟩ | refine ⟨_, _, Value.type "list", Value.type "tuple", false, rfl, ClsV.ty _, tyx_L (by walk_at "sq"), kt_list_tuple, ?_⟩ | refine ⟨_, _, Value.type "tuple", Value.type "tuple", true, rfl, ClsV.ty _, tyx_T (by walk_at "sq"), kt_tuple_tuple, ?_⟩ | refine ⟨_, _, Value.type "int", Value.type "bool", false, rfl, ClsV.ty _, TyX.base (TyOf.int _), kt_int_bool, ?_⟩ | refine ⟨_, _, Value.type "bool", Value.type "bool", true, rfl, ClsV.ty _, TyX.base (TyOf.bl _), kt_bool_bool, ?_⟩ | refine ⟨_, _, Value.type "str", Value.type "bool", false, rfl, ClsV.ty _, TyX.base (TyOf.str _), kt_str_bool, ?_⟩ | refine ⟨_, _, Value.type "NoneType", Value.type "bool", false, rfl, ClsV.ty _, TyX.base TyOf.non, kt_NoneType_bool, ?_⟩ | refine ⟨_, _, Value.type "list", Value.type "bool", false, rfl, ClsV.ty _, tyx_L (by walk_at "sq"), kt_list_bool, ?_⟩ | refine ⟨_, _, Value.type "tuple", Value.type "bool", false, rfl, ClsV.ty _, tyx_T (by walk_at "sq"), kt_tuple_bool, ?_⟩ | refine ⟨_, _, Value.type "int", Value.type "int", true, rfl, ClsV.ty _, TyX.base (TyOf.int _), kt_int_int, ?_⟩ | refine ⟨_, _, Value.type "bool", Value.type "int", true, rfl, ClsV.ty _, TyX.base (TyOf.bl _), kt_bool_int, ?_⟩ | refine ⟨_, _, Value.type "str", Value.type "int", false, rfl, ClsV.ty _, TyX.base (TyOf.str _), kt_str_int, ?_⟩ | refine ⟨_, _, Value.type "NoneType", Value.type "int", false, rfl, ClsV.ty _, TyX.base TyOf.non, kt_NoneType_int, ?_⟩ | refine ⟨_, _, Value.type "list", Value.type "int", false, rfl, ClsV.ty _, tyx_L (by walk_at "sq"), kt_list_int, ?_⟩ | refine ⟨_, _, Value.type "tuple", Value.type "int", false, rfl, ClsV.ty _, tyx_T (by walk_at "sq"), kt_tuple_int, ?_⟩ | refine ⟨_, _, Value.type "int", Value.type "str", false, rfl, ClsV.ty _, TyX.base (TyOf.int _), kt_int_str, ?_⟩ | refine ⟨_, _, Value.type "bool", Value.type "str", false, rfl, ClsV.ty _, TyX.base (TyOf.bl _), kt_bool_str, ?_⟩ | refine ⟨_, _, Value.type "str", Value.type "str", true, rfl, ClsV.ty _, TyX.base (TyOf.str _), kt_str_str, ?_⟩ | refine ⟨_, _, Value.type "NoneType", Value.type "str", false, rfl, ClsV.ty _, TyX.base TyOf.non, kt_NoneType_str, ?_⟩ | refine ⟨_, _, Value.type "list", Value.type "str", false, rfl, ClsV.ty _, tyx_L (by walk_at "sq"), kt_list_str, ?_⟩ | refine ⟨_, _, Value.type "tuple", Value.type "str", false, rfl, ClsV.ty _, tyx_T (by walk_at "sq"), kt_tuple_str, ?_⟩)
local macro_rules | `(tactic| walk_at "go1") => `(tactic| first
  | (refine ⟨_, rfl, ?_⟩)
  | (refine ⟨_, _, rfl, rfl, ?_⟩)
  | (refine ⟨_, _, _, _, rfl, rfl, SqL.of (by walk_at "hp"), rfl, ?_⟩)
  | (refine Or.inl ⟨_, rfl, ?_⟩)
  | (refine ⟨rfl, ?_⟩)
  | (refine ⟨_, _, rfl, .inl (SqL.of (by walk_at "hp")), ?_⟩)
  | (refine ⟨_, _, rfl, Or.inl (by assumption), ?_⟩)
  | (refine ⟨_, _, rfl, Or.inr (by assumption), ?_⟩)
  | (refine ⟨(by walk_at "ok"), ?_⟩)
  | (refine ⟨_, _, _, _, rfl, rfl, (by walk_at "hp"), rfl, ?_⟩))
local macro_rules | `(tactic| walk_at "go") => `(tactic| repeat (walk_at "go1"))
local macro_rules | `(tactic| walk_at "gt") => `(tactic| repeat (first | walk_at "go1" | walk_at "ty"))

section
variable {P : Program} {w : World} {K : PySem.W.Frag} {mg : Str → Option Value} {base : Heap}
-- [0=_law_script, 1=_law_bag_here, 2=_law_lap, 3=_law_row, 4=_law_limit, 5=_law_told, 6=_law_pair_here, 7=_law_powers_here, 8=_law_one]
def spLaw (K : PySem.W.Frag) : Sp := fun vs H Q _ => ∃ (a : Addr) (ns : List Int), vs = [.ref a] ∧ SqL K H a (ns.map V.int) ∧ ns.length ≤ 63 ∧ ∀ H', Q (.bl true) H'
theorem of_ets {σ : L2.St} {H : Hp} {i : Nat} {ta : TA} {es : List (List Int)} {B : Bg} {E : XK} {Q : VK} (hi : σ[i]? = some (some (.ref B.b))) (hB : Bag B H) (h : EvTs K ta σ H es) (hz : es.length ≤ 1000) (h0 : 0 < es.length)
    (q : ∀ t e H', Bag B H' → Kb B.b H H' → TAt K H' t e → e ∈ es → Q (.ref t) H') : tCall (spOf K) [] E (tCons (tVar i) (tCons (tLst ta) tNil)) σ H Q := by
  refine ⟨_, hi, h H (Same.refl _) _ fun ps H1 s1 hw => ⟨by rw [hw.1]; exact Nat.le_of_lt (Nat.lt_of_le_of_lt hz (by decide)), fun p hp => ?_⟩⟩
  have s2 := Same.new (o := .lst ps) hp
  refine ⟨B, p, ps, rfl, SqL.of upd_same, (hB.same s1).nb hp, by rw [hw.1]; exact h0, by rw [hw.1]; exact hz, hB.same (s1.trans s2), fun m v H' hv hB' kb => ?_⟩
  obtain ⟨t, e, rfl, he, ht⟩ := (hw.same s2).2 m v hv
  exact q t e H' hB' ((Kb.same (s1.trans s2)).trans kb) (ht.kb (hB.same (s1.trans s2)) kb) he
def moreE : List (List Int) := [[-5, 2, 2, -1, 0, 0], [-3, 2, -1, 2, -1, 0], [-7, -1, 1, 1, 1, 0], [10, 0, 0, 0, 0, 0], [-3, 0, -3, 1, 1, 1]]
theorem more_lim : ∀ x ∈ moreE, limB x = true := by decide +kernel
theorem ints_tdeq {n : Nat} {H : Hp} {a b : Addr} {ks : List Int} (h1 : SqT K H a (ks.map V.int)) (h2 : SqT K H b (ks.map V.int)) (hz : ks.length ≤ 10000) : DEq K H (n + 1) (.ref a) (.ref b) := .tup h1 h2 (by rw [List.length_map]; omega) rfl fun i x y hx hy => by
  rw [hx] at hy
  cases hy
  rw [List.getElem?_map] at hx
  obtain ⟨k, _, rfl⟩ := Option.map_eq_some_iff.mp hx
  exact .int _
theorem rows_len : ∀ row ∈ rowsN 6, row.length = 6 := by decide +kernel
def z6 : List Int := [0, 0, 0, 0, 0, 0]
theorem fits_z6 : Fits z6 := by
  have h1 : up z6 = 1 := by decide +kernel
  have h2 : dn z6 = 1 := by decide +kernel
  have h : 1 < 2 ^ 100000 := Nat.one_lt_two_pow (by decide)
  exact ⟨by rw [h1]; exact h, by rw [h2]; exact h⟩
theorem lt_z6 (e : List Int) : (up z6 * dn e < up e * dn z6) = (dn e < up e) := by
  have h1 : up z6 = 1 := by decide +kernel
  have h2 : dn z6 = 1 := by decide +kernel
  rw [h1, h2, Nat.one_mul, Nat.mul_one]
theorem ok_law (T : Tx K mg) : FnOk P w K mg base CX0 12 T.f_law T.d_law ["_law_script"] (spLaw K) := by
  have G_l_bag := ok_bag (P := P) (w := w) (base := base) T
  have G_l_draw := ok_draw (P := P) (w := w) (base := base) T
  have G_l_of := ok_of (P := P) (w := w) (base := base) T
  have G_l_menu := ok_l_menu (P := P) (w := w) (base := base) T
  have G_l_length := ok_l_length (P := P) (w := w) (base := base) T
  have G_l_ratio := ok_l_ratio (P := P) (w := w) (base := base) T
  have G_l_pair := ok_l_pair (P := P) (w := w) (base := base) T
  have G_l_huge := ok_l_huge (P := P) (w := w) (base := base) T
  have G_l_bit_row := ok_l_bit_row (P := P) (w := w) (base := base) T
  have G_l_powers := ok_l_powers (P := P) (w := w) (base := base) T
  have G_l_below := ok_l_below (P := P) (w := w) (base := base) T
  have G_l_like := ok_like (P := P) (w := w) (base := base) T 3
  have G_ratio_near := ok_ratio_near (P := P) (w := w) (base := base) T
  have G_Ratio_init := ok_rinit (P := P) (w := w) (base := base) T
  have G_Ratio_bits := ok_bits (P := P) (w := w) (base := base) T
  have G_Ratio_below := ok_below (P := P) (w := w) (base := base) T
  refine T.F_law.ok sc_law (fun vs H Q E h => ?_) (fun cdv A outer s H vs Q E hr h => ?_)
  · obtain ⟨a, ns, rfl, _⟩ := h
    rfl
  obtain ⟨a, ns, rfl, hS, h63, q⟩ := h
  have nd := sc_law.nd
  refine ⟨_, (pss_cons (ps_set (i := 1) nd rfl (Or.inl rfl) (pe_call G_l_bag (hr.mono (by decide)) (by rfl) T.m_l_bag T.F_l_bag.kp T.b_l_bag .nil pass0 (pa_cons (pv 0) pa_nil)))
    (pss_cons (ps_for PassesOwn.never rfl (pi_range1 (by rfl) T.z_range (pa_cons pe_int pa_nil)) (pg_name (i := 2) nd rfl (Or.inl rfl)) (pss_cons (ps_set (i := 3) nd rfl (Or.inl rfl) (pe_call G_l_of (hr.mono (by decide)) (by rfl) T.m_l_of T.F_l_of.kp T.b_l_of .nil pass0 (pa_cons (pv 1) (pa_cons (pe_lst (pa_cons (pe_call G_l_bit_row (hr.mono (by decide)) (by rfl) T.m_l_bit_row T.F_l_bit_row.kp T.b_l_bit_row .nil pass0 (pa_cons (pv 1) pa_nil)) (pa_cons (pe_lst (pa_cons pe_int (pa_cons pe_int (pa_cons pe_int (pa_cons pe_int (pa_cons pe_int (pa_cons pe_int pa_nil))))))) (pa_cons (pe_lst (pa_cons pe_int (pa_cons pe_int (pa_cons pe_int (pa_cons pe_int (pa_cons pe_int (pa_cons pe_int pa_nil))))))) pa_nil)))) pa_nil))))
    (pss_cons (ps_set (i := 4) nd rfl (Or.inl rfl) (pe_call G_l_of (hr.mono (by decide)) (by rfl) T.m_l_of T.F_l_of.kp T.b_l_of .nil pass0 (pa_cons (pv 1) (pa_cons (pe_lst (pa_cons (pe_call G_l_length (hr.mono (by decide)) (by rfl) T.m_l_length T.F_l_length.kp T.b_l_length .nil pass0 (pa_cons (pv 1) pa_nil)) (pa_cons (pe_call G_l_of (hr.mono (by decide)) (by rfl) T.m_l_of T.F_l_of.kp T.b_l_of .nil pass0 (pa_cons (pv 1) (pa_cons (pe_call0 G_l_menu (hr.mono (by decide)) (by rfl) T.m_l_menu T.F_l_menu.kp T.b_l_menu .nil pass0) pa_nil))) (pa_cons (pe_tup (pa_cons pe_int (pa_cons pe_int pa_nil))) (pa_cons (pe_tup (pa_cons pe_int (pa_cons pe_int pa_nil))) pa_nil))))) pa_nil))))
    (pss_cut (ps_if (pt_cmpR op_eq (pe_call G_l_draw (hr.mono (by decide)) (by rfl) T.m_l_draw T.F_l_draw.kp T.b_l_draw .nil pass0 (pa_cons (pv 1) (pa_cons pe_int pa_nil))) pe_int (nomark _)) (pss_one (ps_set (i := 4) nd rfl (Or.inl rfl) (pe_call G_l_of (hr.mono (by decide)) (by rfl) T.m_l_of T.F_l_of.kp T.b_l_of .nil pass0 (pa_cons (pv 1) (pa_cons (pe_lst (pa_cons (pe_tup (pa_cons pe_int (pa_cons pe_int pa_nil))) (pa_cons (pe_tup (pa_cons pe_int (pa_cons pe_int pa_nil))) (pa_cons (pe_tup (pa_cons pe_int (pa_cons pe_int pa_nil))) (pa_cons (pe_tup (pa_cons pe_int (pa_cons pe_int pa_nil))) (pa_cons (pe_tup (pa_cons pe_int (pa_cons pe_int pa_nil))) pa_nil)))))) pa_nil))))) pss_nil)
    (pss_cons (ps_set (i := 5) nd rfl (Or.inl rfl) (pe_call G_ratio_near (hr.mono (by decide)) (by rfl) T.m_ratio_near T.F_ratio_near.kp T.b_ratio_near .nil pass0 (pa_cons (pe_callTy (show CallR _ _ (rTup1 K) from call_tup1) (by rfl) T.z_tuple (by decide +kernel) (pa_cons (pv 3) pa_nil)) (pa_cons (pe_call G_l_ratio (hr.mono (by decide)) (by rfl) T.m_l_ratio T.F_l_ratio.kp T.b_l_ratio .nil pass0 (pa_cons (pv 4) pa_nil)) pa_nil))))
    (pss_cons (ps_set (i := 6) nd rfl (Or.inl rfl) (pe_call G_l_pair (hr.mono (by decide)) (by rfl) T.m_l_pair T.F_l_pair.kp T.b_l_pair .nil pass0 (pa_cons (pv 5) pa_nil)))
    (pss_cons (ps_if (pt_cmpR op_isN (pv 6) pe_non (nomark _)) (pss_one (ps_ret pe_bl)) pss_nil)
    (pss_cons (ps_if (PW.pt (pw_or (pt_not (pt_val (pe_call G_l_like (hr.mono (by decide)) (by rfl) T.m_l_like T.F_l_like.kp T.b_l_like .nil pass0 (pa_cons (pe_meth0 (pv 5) T.c_Ratio T.a_Ratio_bits G_Ratio_bits (hr.mono (by decide)) T.b_Ratio_bits .nil pass0) (pa_cons (pe_callTy (show CallR _ _ (rTup1 K) from call_tup1) (by rfl) T.z_tuple (by decide +kernel) (pa_cons (pv 3) pa_nil)) pa_nil))))) (pw_or (pt_not (pt_val (pe_meth (pe_make T.k_Ratio G_Ratio_init (hr.mono (by decide)) (by rfl) T.g_Ratio T.b1_Ratio_init T.v_Ratio_init pass0 (pa_cons pe_int pa_nil)) T.c_Ratio T.a_Ratio_below G_Ratio_below (hr.mono (by decide)) T.b_Ratio_below .nil pass0 (pa_cons (pv 5) pa_nil)))) (pw_or1 (pt_val (pe_meth (pe_call G_l_ratio (hr.mono (by decide)) (by rfl) T.m_l_ratio T.F_l_ratio.kp T.b_l_ratio .nil pass0 (pa_cons (pv 4) pa_nil)) T.c_Ratio T.a_Ratio_below G_Ratio_below (hr.mono (by decide)) T.b_Ratio_below .nil pass0 (pa_cons (pv 5) pa_nil))))))) (pss_one (ps_ret pe_bl)) pss_nil)
    (pss_cut (ps_if (pt_not (pt_val (pe_call G_l_huge (hr.mono (by decide)) (by rfl) T.m_l_huge T.F_l_huge.kp T.b_l_huge .nil pass0 (pa_cons (pe_lst (pa_cons (pv 6) pa_nil)) pa_nil)))) (pss_cons (ps_set (i := 7) nd rfl (Or.inl rfl) (pe_call G_l_powers (hr.mono (by decide)) (by rfl) T.m_l_powers T.F_l_powers.kp T.b_l_powers .nil pass0 (pa_cons (pv 6) pa_nil)))
    (pss_cons (ps_if (PW.pt (pw_or (pt_cmpR op_isN (pv 7) pe_non (nomark _)) (pw_or1 (pt_cmpR (show OpR _ _ (rNeD K) from op_neD hr.units) (pe_lc (own := [("_law_one", 8)]) (g := (gName 8)) rfl nd (show PI _ _ _ (iTup K _) from pi_tup (pv 7)) (blkOk_by (own := [("_law_one", 8)]) (N := N_law) (sc := defScope s_law) (by decide +kernel)) (fun _ _ _ _ _ => by exact (pg_name (i := 8) nd rfl (Or.inl rfl))) (fun _ _ _ _ _ => by exact pts_nil) (fun _ _ _ _ _ => by exact (pe_op op_modN (pe_callTy call_int1 (by rfl) T.z_int (by decide +kernel) (pa_cons (pv 8) pa_nil)) pe_int))) (pv 3) (nomark _))))) (pss_one (ps_ret pe_bl)) pss_nil)
    (pss_one (ps_if (PW.pt (pw_or (pt_not (pt_val (pe_call G_l_below (hr.mono (by decide)) (by rfl) T.m_l_below T.F_l_below.kp T.b_l_below .nil pass0 (pa_cons (pe_tup (pa_cons pe_int (pa_cons pe_int pa_nil))) (pa_cons (pv 6) pa_nil))))) (pw_or (pt_val (pe_call G_l_below (hr.mono (by decide)) (by rfl) T.m_l_below T.F_l_below.kp T.b_l_below .nil pass0 (pa_cons (pv 4) (pa_cons (pv 6) pa_nil)))) (pw_or1 (pt_not (pt_val (pe_call G_l_like (hr.mono (by decide)) (by rfl) T.m_l_like T.F_l_like.kp T.b_l_like .nil pass0 (pa_cons (pe_meth0 (pv 5) T.c_Ratio T.a_Ratio_bits G_Ratio_bits (hr.mono (by decide)) T.b_Ratio_bits .nil pass0) (pa_cons (pe_callTy (show CallR _ _ (rTup1 K) from call_tup1) (by rfl) T.z_tuple (by decide +kernel) (pa_cons (pv 3) pa_nil)) pa_nil))))))))) (pss_one (ps_ret pe_bl)) pss_nil)))) pss_nil)
    (pss_one (ps_if (pt_cmpR (show OpR _ _ (rNeD K) from op_neD hr.units) (pe_call G_l_pair (hr.mono (by decide)) (by rfl) T.m_l_pair T.F_l_pair.kp T.b_l_pair .nil pass0 (pa_cons (pe_callK0 G_ratio_near (hr.mono (by decide)) (by rfl) T.m_ratio_near T.F_ratio_near.kp T.kb_ratio_near pass0 (pk_cons (pe_call G_l_ratio (hr.mono (by decide)) (by rfl) T.m_l_ratio T.F_l_ratio.kp T.b_l_ratio .nil pass0 (pa_cons (pv 4) pa_nil)) (pk_cons (pe_callTy (show CallR _ _ (rTup1 K) from call_tup1) (by rfl) T.z_tuple (by decide +kernel) (pa_cons (pv 3) pa_nil)) pk_nil))) pa_nil)) (pv 6) (nomark _)) (pss_one (ps_ret pe_bl)) pss_nil)))))))))))
    (pss_one (ps_ret pe_bl)))), ?_⟩
  refine ⟨_, rfl, a, ns, rfl, hS, h63, fun B H1 s1 hB1 _ => ?_⟩
  refine ⟨3, rfl, by decide, by decide, for_it (walk_range (lo := 0) (n := 3)) (fun i σ H' => (∃ a2 a3 a4 a5 a6 a7, σ = [some (.ref a), some (.ref B.b), a2, a3, a4, a5, a6, a7, none]) ∧ Bag B H') ⟨⟨_, _, _, _, _, _, rfl⟩, hB1⟩ (fun _ _ _ _ _ => trivial) ?_ ?_⟩
  · clear hB1 s1
    rintro i v σ H3 H4 hi ⟨⟨a2, a3, a4, a5, a6, a7, rfl⟩, hB3⟩ ⟨rfl, rfl⟩
    refine ⟨_, rfl, _, rfl, B, rfl, hB3, fun tr0 row0 H5 hB5 kb5 htr0 hr5 hrow0 => ?_⟩
    refine ⟨(by show 6 ≤ sizeLine; decide), fun p1 hp1 => ⟨(by show 6 ≤ sizeLine; decide), fun p2 hp2 => ⟨(by show 3 ≤ sizeLine; decide), fun pl hpl => ?_⟩⟩⟩
    have b1 := Same.new (o := .lst [V.int 0, V.int 0, V.int 0, V.int 0, V.int 0, V.int 0]) hp1
    have b2 := Same.new (o := .lst [V.int 1, V.int 1, V.int 1, V.int 1, V.int 1, V.int 1]) hp2
    have b3 := Same.new (o := .lst [V.ref tr0, V.ref p1, V.ref p2]) hpl
    have b13 := (b1.trans b2).trans b3
    have hBl := hB5.same b13
    have hL3 := upd_same (H := upd (upd H5 p1 (.lst [V.int 0, V.int 0, V.int 0, V.int 0, V.int 0, V.int 0])) p2 (.lst [V.int 1, V.int 1, V.int 1, V.int 1, V.int 1, V.int 1])) (a := pl) (o := .lst [V.ref tr0, V.ref p1, V.ref p2])
    have hZ := (b2.trans b3) _ _ (upd_same (H := H5) (a := p1) (o := .lst [V.int 0, V.int 0, V.int 0, V.int 0, V.int 0, V.int 0]))
    have hO := b3 _ _ (upd_same (H := upd H5 p1 (.lst [V.int 0, V.int 0, V.int 0, V.int 0, V.int 0, V.int 0])) (a := p2) (o := .lst [V.int 1, V.int 1, V.int 1, V.int 1, V.int 1, V.int 1]))
    have n1 : p1 ≠ B.b := hB5.nb hp1
    have n2 : p2 ≠ B.b := (hB5.same b1).nb hp2
    have nl : pl ≠ B.b := (hB5.same (b1.trans b2)).nb hpl
    have n0 : tr0 ≠ B.b := hB3.nb htr0
    have hr5' := b13 _ _ hr5
    generalize upd (upd (upd H5 p1 (.lst [V.int 0, V.int 0, V.int 0, V.int 0, V.int 0, V.int 0])) p2 (.lst [V.int 1, V.int 1, V.int 1, V.int 1, V.int 1, V.int 1])) pl (.lst [V.ref tr0, V.ref p1, V.ref p2]) = H5b at *
    clear b1 b2 b3 hp1 hp2 hpl b13
    refine ⟨B, pl, [V.ref tr0, V.ref p1, V.ref p2], rfl, SqL.of hL3, nl, (by show 0 < 3; decide), (by show 3 ≤ 1000; decide), hBl, fun j v H6 hv hB6 kb6 => ?_⟩
    obtain ⟨tr, row, rfl, hrow, hr6, ntr⟩ : ∃ tr row, v = .ref tr ∧ row ∈ rowsN 6 ∧ H6 tr = some (.lst (row.map V.int)) ∧ tr ≠ B.b := by
      match j, hv with
      | 0, hv => cases hv; exact ⟨tr0, row0, rfl, hrow0, kb6 _ _ hr5' n0, n0⟩
      | 1, hv => cases hv; exact ⟨p1, z6, rfl, by decide +kernel, kb6 _ _ hZ n1, n1⟩
      | 2, hv => cases hv; exact ⟨p2, [1, 1, 1, 1, 1, 1], rfl, by decide +kernel, kb6 _ _ hO n2, n2⟩
    clear hL3 hZ hO hr5 hr5' hrow0 hBl hB5 kb5 hB3 kb6 htr0 n0 n1 n2 nl hv
    refine ⟨_, rfl, _, rfl, B, rfl, hB6, fun t1 x H7 hB7 kb7 tx lx => ?_⟩
    refine ⟨_, rfl, rfl, fun ps tm H8 s8 htm0 htm hT => ?_⟩
    have hB8 := hB7.same s8
    refine ⟨B, tm, ps, rfl, SqL.of htm, hB7.nb htm0, by rw [hT.1]; decide, by rw [hT.1]; decide, hB8, fun j2 v2 H9 hv2 hB9 kb9 => ?_⟩
    obtain ⟨t2, y2, rfl, hy2, ty2⟩ := hT.2 j2 v2 hv2
    have ty9 := ty2.kb hB8 kb9
    have tx9 := (tx.same s8).kb hB8 kb9
    have hr9 := kb9 _ _ (s8 _ _ (kb7 _ _ hr6 ntr)) ntr
    have ly2 := menu_lim y2 hy2
    refine ⟨(by show 2 ≤ sizeLine; decide), fun p3 hp3 => ⟨(by show 2 ≤ sizeLine; decide), fun p4 hp4 => ⟨(by show 4 ≤ sizeLine; decide), fun pl2 hpl2 => ?_⟩⟩⟩
    have c1 := Same.new (o := .tup [V.int 25, V.int 24]) hp3
    have c2 := Same.new (o := .tup [V.int 81, V.int 80]) hp4
    have c3 := Same.new (o := .lst [V.ref t1, V.ref t2, V.ref p3, V.ref p4]) hpl2
    have c13 := (c1.trans c2).trans c3
    have hT3 := (c2.trans c3) _ _ (upd_same (H := H9) (a := p3) (o := .tup [V.int 25, V.int 24]))
    have hT4 := c3 _ _ (upd_same (H := upd H9 p3 (.tup [V.int 25, V.int 24])) (a := p4) (o := .tup [V.int 81, V.int 80]))
    have hL4 := upd_same (H := upd (upd H9 p3 (.tup [V.int 25, V.int 24])) p4 (.tup [V.int 81, V.int 80])) (a := pl2) (o := .lst [V.ref t1, V.ref t2, V.ref p3, V.ref p4])
    have nl2 : pl2 ≠ B.b := (hB9.same (c1.trans c2)).nb hpl2
    have hB9b := hB9.same c13
    have tyb := ty9.same c13
    have txb := tx9.same c13
    have hrb := c13 _ _ hr9
    generalize upd (upd (upd H9 p3 (.tup [V.int 25, V.int 24])) p4 (.tup [V.int 81, V.int 80])) pl2 (.lst [V.ref t1, V.ref t2, V.ref p3, V.ref p4]) = H9b at *
    clear c1 c2 c3 c13 hp3 hp4 hpl2
    refine ⟨B, pl2, [V.ref t1, V.ref t2, V.ref p3, V.ref p4], rfl, SqL.of hL4, nl2, (by show 0 < 4; decide), (by show 4 ≤ 1000; decide), hB9b, fun j3 v3 H10 hv3 hB10 kb10 => ?_⟩
    have tz3 : TAt K H9b p3 [-3, -1, 2, 0, 0, 0] := ⟨SqT.of hT3, rfl⟩
    have tz4 : TAt K H9b p4 [-4, 4, -1, 0, 0, 0] := ⟨SqT.of hT4, rfl⟩
    obtain ⟨tl0, y0, rfl, ly0, ty0⟩ : ∃ tl y, v3 = .ref tl ∧ limB y = true ∧ TAt K H10 tl y := by
      match j3, hv3 with
      | 0, hv3 => cases hv3; exact ⟨t1, x, rfl, lx, txb.kb hB9b kb10⟩
      | 1, hv3 => cases hv3; exact ⟨t2, y2, rfl, ly2, tyb.kb hB9b kb10⟩
      | 2, hv3 => cases hv3; exact ⟨p3, _, rfl, by decide +kernel, tz3.kb hB9b kb10⟩
      | 3, hv3 => cases hv3; exact ⟨p4, _, rfl, by decide +kernel, tz4.kb hB9b kb10⟩
    have hr10 := kb10 _ _ hrb ntr
    clear tz3 tz4 hT3 hT4 hL4 nl2 hB9b tyb txb hrb hv3 kb10 ty9 tx9 hr9 ly2 hB9 kb9 hT ty2 hy2 hv2 htm htm0 s8 hB8 tx lx kb7 hB7 hr6 hB6
    refine ⟨fun σ H' => ∃ tl y, σ = [some (.ref a), some (.ref B.b), some (.int (0 + (i : Int))), some (.ref tr), some (.ref tl), a5, a6, a7, none] ∧ Bag B H' ∧ H' tr = some (.lst (row.map V.int)) ∧ TAt K H' tl y ∧ limB y = true, ?_, ?_⟩
    · refine ⟨_, rfl, B, 12, rfl, by decide, by decide, hB10, fun d H11 d0 d1 hB11 kb11 => ⟨rfl, _, rfl, ?_⟩⟩
      have hr11 := kb11 _ _ hr10 ntr
      refine ite2 (fun c => ?_) (fun c => ?_)
      · refine of_ets (K := K) (es := moreE) (B := B) rfl hB11 ?_ (by decide) (by decide) fun t e H12 hB12 kb12 ht he => ?_
        · repeat (first | exact ets_nil | refine ets_cons (by decide +kernel) (by decide +kernel) rfl ?_)
        exact ⟨t, e, rfl, hB12, kb12 _ _ hr11 ntr, ht, more_lim e he⟩
      · exact ⟨tl0, y0, rfl, hB11, hr11, ty0.kb hB10 kb11, ly0⟩
    clear hr10 hB10 ty0 ly0
    rintro σ H11 ⟨tl, y, rfl, hB11, hr11, hy11, ly⟩
    have hL := (lim_of ly).1
    have nf := near_facts hrow hL
    have fe := bnd_fits nf.2.1
    have fy := bnd_fits hL.1
    have rl := rows_len row hrow
    obtain ⟨e, he⟩ : ∃ e, e = nearE row y := ⟨_, rfl⟩
    have ebits : bitsE e = row := by
      have := (Bool.and_eq_true_iff.mp (Bool.and_eq_true_iff.mp nf.2.2.1).2).2
      rw [he]
      exact of_decide_eq_true this
    have eone : dn e < up e := by
      have := (Bool.and_eq_true_iff.mp (Bool.and_eq_true_iff.mp nf.2.2.1).2).1
      rw [he]
      exact of_decide_eq_true this
    have elim : (decide (up y * dn e < up e * dn y)) = false := by
      rw [he, ← lt1_sub (bnd_of hL.1).1 nf.1]
      exact nf.2.2.2
    rw [← he] at fe
    refine ⟨_, rfl, tr, _, rfl, .inl (SqL.of hr11), fun tt H12 s12 htt => ⟨_, rfl, tl, y, rfl, hy11.same s12, fun tq H13 s13 hq => ⟨tt, tq, row, y, rfl, seqT s13 htt, hrow, hq, hL, fun aN H14 s14 hN => ?_⟩⟩⟩
    rw [← he] at hN
    have s11 := (s12.trans s13).trans s14
    clear s12 s13 s14 htt hq
    refine ⟨_, rfl, aN, e, rfl, hN, fun tp H15 s15 hp => ?_⟩
    have s15' := s11.trans s15
    have hN15 := hN.same s15
    refine ⟨_, rfl, rfl, _, rfl, ?_⟩
    rw [decide_eq_false (by intro z; cases z)]
    refine iteF' rfl ?_
    have hr15 := s15' _ _ hr11
    have hy15 := hy11.same s15'
    obtain ⟨dxN, tN, hN1, hN2⟩ := hN15.ex
    refine ⟨_, rfl, aN, dxN, _, rfl, hN1, rf_no (by decide +kernel) (by decide +kernel) (by decide +kernel), aN, e, rfl, hN15, fun tb H16 s16 hb => ⟨_, rfl, tr, _, rfl, .inl (SqL.of (s16 _ _ hr15)), fun tt2 H17 s17 htt2 => ⟨1, .ref tb, .ref tt2, rfl, by decide, ints_tdeq (ks := row) (by rw [← ebits]; exact seqT s17 hb) htt2 (by omega), fun H18 s18 => ⟨_, rfl, ?_⟩⟩⟩⟩
    refine iteF' (c := !true) rfl ?_
    have u18 := (s16.trans s17).trans s18
    intro xo dxo nxo ndxo nexo
    refine ⟨xo, dxo, 1, z6, rfl, upd_same, by decide, by decide, rfl, fun H19 r19 kp => ⟨rfl, ?_⟩⟩
    have s19 : Same H18 H19 := fun b o z => kp b o (by rw [upd_ne (ne_of_none z nxo), upd_ne (ne_of_none z ndxo)]; exact z) (ne_of_none z nxo)
    have u19 := u18.trans s19
    obtain ⟨dxr, txr, hr1, hr2⟩ := r19.ex
    refine ⟨xo, dxr, _, rfl, hr1, rf_no (by decide +kernel) (by decide +kernel) (by decide +kernel), _, rfl, xo, aN, z6, e, rfl, r19, hN15.same u19, fits_z6, fe, fun H20 s20 => ⟨_, rfl, ?_⟩⟩
    refine iteF' (c := !decide _) (by rw [decide_eq_true (by rw [lt_z6]; exact eone)]; rfl) ?_
    have u20 := u19.trans s20
    refine ⟨_, rfl, tl, y, rfl, hy15.same u20, fun tq2 H21 s21 hq2 => ?_⟩
    obtain ⟨dxq, txq, hq3, hq4⟩ := hq2.ex
    have u21 := u20.trans s21
    refine ⟨tq2, dxq, _, rfl, hq3, rf_no (by decide +kernel) (by decide +kernel) (by decide +kernel), _, rfl, tq2, aN, y, e, rfl, hq2, hN15.same u21, fy, fe, fun H22 s22 => ⟨_, rfl, ?_⟩⟩
    refine iteF' elim ?_
    have u22 := s15'.trans (u21.trans s22)
    have hN22 := hN15.same (u21.trans s22)
    have hp22 := hp.same (u21.trans s22)
    have hr22 := u22 _ _ hr11
    have hy22 := hy11.same u22
    have hB22 := hB11.same u22
    clear u22 u21 u20 u19 u18 s15' s15 s11 s16 s17 s18 s19 s20 s21 s22 hq2 hq3 hq4 hr1 hr2 r19 kp hN1 hN2 hr15 hy15 hN15 hp hN hr11 hy11 hB11 hb htt2 nxo ndxo nexo
    refine ⟨fun σ H' => ∃ v7, σ = [some (.ref a), some (.ref B.b), some (.int (0 + (i : Int))), some (.ref tr), some (.ref tl), some (.ref aN), some (.ref tp), v7, none] ∧ Same H22 H', ?_, ?_⟩
    · refine ⟨_, rfl, (by show 1 ≤ sizeLine; decide), fun ph hph => ⟨ph, tp, e, rfl, SqL.of upd_same, hp22.same (Same.new hph), fun b H23 s23 => ⟨_, rfl, ?_⟩⟩⟩
      have w23 := (Same.new (o := .lst [V.ref tp]) hph).trans s23
      cases b with
      | true => exact iteF' (c := !true) rfl ⟨_, rfl, w23⟩
      | false =>
        refine iteT' (c := !false) rfl ?_
        refine ⟨_, rfl, tp, e, rfl, hp22.same w23, fun tw H24 s24 hw => ?_⟩
        have w24 := w23.trans s24
        refine ⟨_, rfl, rfl, _, rfl, ?_⟩
        rw [decide_eq_false (by intro z; cases z)]
        refine iteF' rfl ?_
        refine ⟨_, rfl, tw, rfl, ⟨_, hw⟩, fun D hD => ?_⟩
        refine lcm (walk_tup (K := K) (a := tw) (xs := e.map V.int)) (row.map V.int) (by rw [List.length_map, List.length_map, ← ebits]; simp [bitsE]) (by rw [List.length_map, hN22.len]; decide) hD (fun H' s' => seqT s' hw) ?_ fun H25 s25 hD25 => ?_
        · rintro j y5 x5 H1 H2 hj hy5 s1 ⟨rfl, hx5⟩ k hk
          refine ⟨rfl, ?_⟩
          rw [← ebits] at hy5
          unfold bitsE at hy5
          rw [List.getElem?_map] at hx5
          obtain ⟨n, hn, rfl⟩ := Option.map_eq_some_iff.mp hx5
          rw [List.getElem?_map, List.getElem?_map, hn] at hy5
          cases hy5
          exact ⟨_, rfl, .inl ⟨_, rfl, _, _, rfl, rfl, (by show (2 : Int) ≠ 0; decide), hk _ (Same.refl _)⟩⟩
        have w25 := w24.trans s25
        refine ⟨_, rfl, _, _, .lst (SqL.of hD25) (dpAll_ints row), .lst (SqL.of (w25 _ _ hr22)) (dpAll_ints row), shaped_lstI _, shaped_lstI _, ?_⟩
        rw [eqv_lstI, decide_eq_true rfl]
        refine ⟨_, rfl, ?_⟩
        refine iteF' rfl ?_
        refine ⟨(by show 2 ≤ sizeLine; decide), fun po hpo => ?_⟩
        have w26 := w25.trans (Same.new (o := .tup [V.int 1, V.int 1]) hpo)
        refine ⟨_, rfl, po, tp, z6, e, rfl, ⟨SqT.of upd_same, rfl⟩, hp22.same w26, fits_z6, fe, ⟨_, rfl, ?_⟩⟩
        refine iteF' (c := !decide _) (by rw [decide_eq_true (by rw [lt_z6]; exact eone)]; rfl) ?_
        refine ⟨_, rfl, _, rfl, tl, tp, y, e, rfl, hy22.same w26, hp22.same w26, fy, fe, ⟨_, rfl, ?_⟩⟩
        refine iteF' elim ?_
        have hN26 := hN22.same w26
        obtain ⟨dxN, tN, hN1, hN2⟩ := hN26.ex
        refine ⟨_, rfl, aN, dxN, _, rfl, hN1, rf_no (by decide +kernel) (by decide +kernel) (by decide +kernel), aN, e, rfl, hN26, fun tb H27 s27 hb => ⟨_, rfl, tr, _, rfl, .inl (SqL.of (s27 _ _ (w26 _ _ hr22))), fun tt2 H28 s28 htt2 => ⟨1, .ref tb, .ref tt2, rfl, by decide, ints_tdeq (ks := row) (by rw [← ebits]; exact seqT s28 hb) htt2 (by omega), fun H29 s29 => ⟨_, rfl, ?_⟩⟩⟩⟩
        refine iteF' (c := !true) rfl ?_
        exact ⟨_, rfl, w26.trans ((s27.trans s28).trans s29)⟩
    rintro σ H23 ⟨v7, rfl, s23⟩
    refine ⟨_, rfl, tl, y, rfl, hy22.same s23, fun tq5 H24 s24 hq5 => ⟨_, rfl, tr, _, rfl, .inl (SqL.of ((s23.trans s24) _ _ hr22)), fun tt5 H25 s25 htt5 => ⟨tt5, tq5, row, y, rfl, htt5, hrow, hq5.same s25, hL, fun aM H26 s26 hM => ⟨aM, nearE row y, rfl, hM, fun tp5 H27 s27 hp5 => ?_⟩⟩⟩⟩
    rw [← he] at hp5
    have x27 := (((s23.trans s24).trans s25).trans s26).trans s27
    have hp27 := hp22.same x27
    refine ⟨_, rfl, _, _, .tup (show SqT K _ _ ([((up e : Nat) : Int), ((dn e : Nat) : Int)].map V.int) from hp5.ex) (dpAll_ints _), .tup (show SqT K _ _ ([((up e : Nat) : Int), ((dn e : Nat) : Int)].map V.int) from hp27.ex) (dpAll_ints _), shaped_tupI _, shaped_tupI _, ?_⟩
    rw [eqv_tupI, decide_eq_true rfl]
    refine ⟨_, rfl, ?_⟩
    refine iteF' rfl ?_
    exact ⟨⟨_, _, _, _, _, _, rfl⟩, hB22.same x27⟩
  · rintro σ H1 ⟨⟨a2, a3, a4, a5, a6, a7, rfl⟩, hB⟩
    exact q H1
end
end TL
namespace TL
open PySem L2
/-! ### the end -/
def TupO (o : Obj) (xs : List V) : Prop := ∃ (its : Array Value) (n : Nat), o.cls = .type "tuple" ∧ o.data = .seq its n ∧ its.size ≤ sizeLine ∧ Vals xs its.toList
theorem tupO_sq {K : PySem.W.Frag} {H : Hp} {a : Addr} {o : Obj} {xs : List V} (l : K.lookup a = some o) (v : TupO o xs) : SqT K H a xs := by
  obtain ⟨its, n, h1, h2, h3, h4⟩ := v
  exact .inr ⟨o, its, n, l, h1, h2, h3, h4⟩
set_option maxHeartbeats 0 in
theorem all_mk {P : Program} {w : World} {K : PySem.W.Frag} {h : Heap} {mg : Str → Option Value} {fa : Addr} {C_Ratio : Addr} {e_PRIMES : Addr} {o_PRIMES : Obj} {e_NO_POWERS : Addr} {o_NO_POWERS : Obj} {e_LOGS : Addr} {o_LOGS : Obj} {t_SLACK : Tok} {t_MANY : Tok} {t_BASE : Tok} {t_HALF : Tok} {t_BEHIND : Tok} {t_CLOSE : Tok} {f1 : Addr} {od1 an1 : Option Addr} {sl1 : Array (Option Value)} {oc1 kV1 dc1 pm1 cd1 ct1 : Value} {f2 : Addr} {od2 an2 : Option Addr} {sl2 : Array (Option Value)} {oc2 kV2 dc2 pm2 cd2 ct2 : Value} {f3 : Addr} {od3 an3 : Option Addr} {sl3 : Array (Option Value)} {oc3 kV3 dc3 pm3 cd3 ct3 : Value} {dT3 : Addr} {oT3 : Obj} {f4 : Addr} {od4 an4 : Option Addr} {sl4 : Array (Option Value)} {oc4 kV4 dc4 pm4 cd4 ct4 : Value} {f5 : Addr} {od5 an5 : Option Addr} {sl5 : Array (Option Value)} {oc5 kV5 dc5 pm5 cd5 ct5 : Value} {f6 : Addr} {od6 an6 : Option Addr} {sl6 : Array (Option Value)} {oc6 kV6 dc6 pm6 cd6 ct6 : Value} {f7 : Addr} {od7 an7 : Option Addr} {sl7 : Array (Option Value)} {oc7 kV7 dc7 pm7 cd7 ct7 : Value} {f8 : Addr} {od8 an8 : Option Addr} {sl8 : Array (Option Value)} {oc8 kV8 dc8 pm8 cd8 ct8 : Value} {f9 : Addr} {od9 an9 : Option Addr} {sl9 : Array (Option Value)} {oc9 kV9 dc9 pm9 cd9 ct9 : Value} {f10 : Addr} {od10 an10 : Option Addr} {sl10 : Array (Option Value)} {oc10 kV10 dc10 pm10 cd10 ct10 : Value} {f11 : Addr} {od11 an11 : Option Addr} {sl11 : Array (Option Value)} {oc11 kV11 dc11 pm11 cd11 ct11 : Value} {f12 : Addr} {od12 an12 : Option Addr} {sl12 : Array (Option Value)} {oc12 kV12 dc12 pm12 cd12 ct12 : Value} {f13 : Addr} {od13 an13 : Option Addr} {sl13 : Array (Option Value)} {oc13 kV13 dc13 pm13 cd13 ct13 : Value} {f14 : Addr} {od14 an14 : Option Addr} {sl14 : Array (Option Value)} {oc14 kV14 dc14 pm14 cd14 ct14 : Value} {f15 : Addr} {od15 an15 : Option Addr} {sl15 : Array (Option Value)} {oc15 kV15 dc15 pm15 cd15 ct15 : Value} {f16 : Addr} {od16 an16 : Option Addr} {sl16 : Array (Option Value)} {oc16 kV16 dc16 pm16 cd16 ct16 : Value} {f17 : Addr} {od17 an17 : Option Addr} {sl17 : Array (Option Value)} {oc17 kV17 dc17 pm17 cd17 ct17 : Value} {f18 : Addr} {od18 an18 : Option Addr} {sl18 : Array (Option Value)} {oc18 kV18 dc18 pm18 cd18 ct18 : Value} {f19 : Addr} {od19 an19 : Option Addr} {sl19 : Array (Option Value)} {oc19 kV19 dc19 pm19 cd19 ct19 : Value} {f20 : Addr} {od20 an20 : Option Addr} {sl20 : Array (Option Value)} {oc20 kV20 dc20 pm20 cd20 ct20 : Value} {f21 : Addr} {od21 an21 : Option Addr} {sl21 : Array (Option Value)} {oc21 kV21 dc21 pm21 cd21 ct21 : Value} {f22 : Addr} {od22 an22 : Option Addr} {sl22 : Array (Option Value)} {oc22 kV22 dc22 pm22 cd22 ct22 : Value} {f23 : Addr} {od23 an23 : Option Addr} {sl23 : Array (Option Value)} {oc23 kV23 dc23 pm23 cd23 ct23 : Value} {f24 : Addr} {od24 an24 : Option Addr} {sl24 : Array (Option Value)} {oc24 kV24 dc24 pm24 cd24 ct24 : Value} {f25 : Addr} {od25 an25 : Option Addr} {sl25 : Array (Option Value)} {oc25 kV25 dc25 pm25 cd25 ct25 : Value} {f26 : Addr} {od26 an26 : Option Addr} {sl26 : Array (Option Value)} {oc26 kV26 dc26 pm26 cd26 ct26 : Value} {f27 : Addr} {od27 an27 : Option Addr} {sl27 : Array (Option Value)} {oc27 kV27 dc27 pm27 cd27 ct27 : Value} {f28 : Addr} {od28 an28 : Option Addr} {sl28 : Array (Option Value)} {oc28 kV28 dc28 pm28 cd28 ct28 : Value} {f29 : Addr} {od29 an29 : Option Addr} {sl29 : Array (Option Value)} {oc29 kV29 dc29 pm29 cd29 ct29 : Value} {f30 : Addr} {od30 an30 : Option Addr} {sl30 : Array (Option Value)} {oc30 kV30 dc30 pm30 cd30 ct30 : Value} {f31 : Addr} {od31 an31 : Option Addr} {sl31 : Array (Option Value)} {oc31 kV31 dc31 pm31 cd31 ct31 : Value} {f32 : Addr} {od32 an32 : Option Addr} {sl32 : Array (Option Value)} {oc32 kV32 dc32 pm32 cd32 ct32 : Value} {f33 : Addr} {od33 an33 : Option Addr} {sl33 : Array (Option Value)} {oc33 kV33 dc33 pm33 cd33 ct33 : Value} {f34 : Addr} {od34 an34 : Option Addr} {sl34 : Array (Option Value)} {oc34 kV34 dc34 pm34 cd34 ct34 : Value} {f35 : Addr} {od35 an35 : Option Addr} {sl35 : Array (Option Value)} {oc35 kV35 dc35 pm35 cd35 ct35 : Value} (X : K.In h) (G : h.Ns mainGlobals mg) (hfa : mg "law" = some (.ref fa))
    (z_len : PySem.W.nsIn K mainGlobals "len" = some none)
    (z_abs : PySem.W.nsIn K mainGlobals "abs" = some none)
    (z_int : PySem.W.nsIn K mainGlobals "int" = some none)
    (z_isinstance : PySem.W.nsIn K mainGlobals "isinstance" = some none)
    (z_list : PySem.W.nsIn K mainGlobals "list" = some none)
    (z_tuple : PySem.W.nsIn K mainGlobals "tuple" = some none)
    (z_bool : PySem.W.nsIn K mainGlobals "bool" = some none)
    (z_str : PySem.W.nsIn K mainGlobals "str" = some none)
    (z_all : PySem.W.nsIn K mainGlobals "all" = some none)
    (z_any : PySem.W.nsIn K mainGlobals "any" = some none)
    (z_zip : PySem.W.nsIn K mainGlobals "zip" = some none)
    (z_range : PySem.W.nsIn K mainGlobals "range" = some none)
    (z_enumerate : PySem.W.nsIn K mainGlobals "enumerate" = some none)
    (z_divmod : PySem.W.nsIn K mainGlobals "divmod" = some none)
    (z_max : PySem.W.nsIn K mainGlobals "max" = some none)
    (z_min : PySem.W.nsIn K mainGlobals "min" = some none)
    (z_reversed : PySem.W.nsIn K mainGlobals "reversed" = some none)
    (z_sum : PySem.W.nsIn K mainGlobals "sum" = some none)
    (aC_Ratio : PySem.W.nsIn K mainGlobals "Ratio" = some (some (.ref C_Ratio)))
    (pg_Ratio : PySem.W.plainGet K C_Ratio Str.empty = true)
    (hd_Ratio : PySem.W.hasDictIn K C_Ratio = true)
    (po_Ratio : PySem.W.plainOver K C_Ratio = true)
    (sa_Ratio : PySem.W.findIn K (.ref C_Ratio) "__setattr__" = some (some (.builtin "object.__setattr__")))
    (n_Ratio_over : PySem.W.findIn K (.ref C_Ratio) "over" = some none)
    (n_Ratio_under : PySem.W.findIn K (.ref C_Ratio) "under" = some none)
    (n_Ratio_powers : PySem.W.findIn K (.ref C_Ratio) "_powers" = some none)
    (ca_Ratio : PySem.W.findIn K (.ref C_Ratio) "__class__" = some (some (.builtin "object.__class__")))
    (cm_Ratio : PySem.W.mroIn K C_Ratio (.type "object") = some true)
    (cn_Ratio : PySem.W.specialIn K (.builtin "object.__class__") "__get__" = some (some (.builtin "getset_descriptor.__get__")))
    (ct_Ratio : PySem.W.takesIn K (.builtin "object.__class__") = some true)
    (aE_PRIMES : PySem.W.nsIn K mainGlobals "PRIMES" = some (some (.ref e_PRIMES)))
    (lE_PRIMES : K.lookup e_PRIMES = some o_PRIMES)
    (vE_PRIMES : TupO o_PRIMES [.int 2, .int 3, .int 5, .int 7, .int 11, .int 13])
    (aE_NO_POWERS : PySem.W.nsIn K mainGlobals "NO_POWERS" = some (some (.ref e_NO_POWERS)))
    (lE_NO_POWERS : K.lookup e_NO_POWERS = some o_NO_POWERS)
    (vE_NO_POWERS : TupO o_NO_POWERS [.int 0, .int 0, .int 0, .int 0, .int 0, .int 0])
    (aE_LOGS : PySem.W.nsIn K mainGlobals "LOGS" = some (some (.ref e_LOGS)))
    (lE_LOGS : K.lookup e_LOGS = some o_LOGS)
    (vE_LOGS : TupO o_LOGS [.int 69314718055994530941723212145817656807550013436025, .int 109861228866810969139524523692252570464749055782274, .int 160943791243410037460075933322618763952560135426851, .int 194591014905531330510535274344317972963708472958186, .int 239789527279837054406194357796512929982170685393741, .int 256494935746153673605348744156531860480526794476020])
    (gb_gcd : PySem.W.nsIn K mainGlobals "gcd" = some (some (.builtin "math.gcd")))
    (gi_SLACK : PySem.W.nsIn K mainGlobals "SLACK" = some (some (.int 1000000000000 t_SLACK)))
    (gi_MANY : PySem.W.nsIn K mainGlobals "MANY" = some (some (.int 500 t_MANY)))
    (gi_BASE : PySem.W.nsIn K mainGlobals "BASE" = some (some (.int 18446744073709551616 t_BASE)))
    (gi_HALF : PySem.W.nsIn K mainGlobals "HALF" = some (some (.int 9223372036854775808 t_HALF)))
    (gi_BEHIND : PySem.W.nsIn K mainGlobals "BEHIND" = some (some (.int 400 t_BEHIND)))
    (gi_CLOSE : PySem.W.nsIn K mainGlobals "CLOSE" = some (some (.int 470 t_CLOSE)))
    (a1 : PySem.W.nsIn K mainGlobals "log_of" = some (some (.ref f1)))
    (l1 : K.lookup f1 = some ⟨oc1, od1, .func (PySem.W.fnOf "log_of" "log_of" (defArgs s_log_of) (defBody s_log_of) (defScope s_log_of) .none kV1 dc1 pm1 an1 cd1 ct1), sl1⟩)
    (c1 : PySem.W.codeIn K cd1 "log_of" = true)
    (k1 : PySem.W.keepIn K (.ref f1) = true)
    (a2 : PySem.W.nsIn K mainGlobals "is_number" = some (some (.ref f2)))
    (l2 : K.lookup f2 = some ⟨oc2, od2, .func (PySem.W.fnOf "is_number" "is_number" (defArgs s_is_number) (defBody s_is_number) (defScope s_is_number) .none kV2 dc2 pm2 an2 cd2 ct2), sl2⟩)
    (c2 : PySem.W.codeIn K cd2 "is_number" = true)
    (k2 : PySem.W.keepIn K (.ref f2) = true)
    (a3 : PySem.W.findIn K (.ref C_Ratio) "__init__" = some (some (.ref f3)))
    (i3 : PySem.W.isFn K (.ref f3) = true)
    (l3 : K.lookup f3 = some ⟨oc3, od3, .func (PySem.W.fnOf "__init__" "Ratio.__init__" (defArgs s_Ratio_init) (defBody s_Ratio_init) (defScope s_Ratio_init) (.ref dT3) kV3 dc3 pm3 an3 cd3 ct3), sl3⟩)
    (c3 : PySem.W.codeIn K cd3 "Ratio.__init__" = true)
    (k3 : PySem.W.keepIn K (.ref f3) = true)
    (lT3 : K.lookup dT3 = some oT3)
    (vT3 : ∃ its n, oT3.data = .seq (List.toArray its) n ∧ Vals [V.int 1] its)
    (mk_Ratio : PySem.W.makesIn K C_Ratio = true)
    (kc_Ratio : PySem.W.keepIn K (.ref C_Ratio) = true)
    (a4 : PySem.W.findIn K (.ref C_Ratio) "powers" = some (some (.ref f4)))
    (i4 : PySem.W.isFn K (.ref f4) = true)
    (l4 : K.lookup f4 = some ⟨oc4, od4, .func (PySem.W.fnOf "powers" "Ratio.powers" (defArgs s_Ratio_powers) (defBody s_Ratio_powers) (defScope s_Ratio_powers) .none kV4 dc4 pm4 an4 cd4 ct4), sl4⟩)
    (c4 : PySem.W.codeIn K cd4 "Ratio.powers" = true)
    (k4 : PySem.W.keepIn K (.ref f4) = true)
    (a5 : PySem.W.findIn K (.ref C_Ratio) "bits" = some (some (.ref f5)))
    (i5 : PySem.W.isFn K (.ref f5) = true)
    (l5 : K.lookup f5 = some ⟨oc5, od5, .func (PySem.W.fnOf "bits" "Ratio.bits" (defArgs s_Ratio_bits) (defBody s_Ratio_bits) (defScope s_Ratio_bits) .none kV5 dc5 pm5 an5 cd5 ct5), sl5⟩)
    (c5 : PySem.W.codeIn K cd5 "Ratio.bits" = true)
    (k5 : PySem.W.keepIn K (.ref f5) = true)
    (a6 : PySem.W.findIn K (.ref C_Ratio) "below" = some (some (.ref f6)))
    (i6 : PySem.W.isFn K (.ref f6) = true)
    (l6 : K.lookup f6 = some ⟨oc6, od6, .func (PySem.W.fnOf "below" "Ratio.below" (defArgs s_Ratio_below) (defBody s_Ratio_below) (defScope s_Ratio_below) .none kV6 dc6 pm6 an6 cd6 ct6), sl6⟩)
    (c6 : PySem.W.codeIn K cd6 "Ratio.below" = true)
    (k6 : PySem.W.keepIn K (.ref f6) = true)
    (a7 : PySem.W.nsIn K mainGlobals "_raised" = some (some (.ref f7)))
    (l7 : K.lookup f7 = some ⟨oc7, od7, .func (PySem.W.fnOf "_raised" "_raised" (defArgs s__raised) (defBody s__raised) (defScope s__raised) .none kV7 dc7 pm7 an7 cd7 ct7), sl7⟩)
    (c7 : PySem.W.codeIn K cd7 "_raised" = true)
    (k7 : PySem.W.keepIn K (.ref f7) = true)
    (a8 : PySem.W.nsIn K mainGlobals "_made_of" = some (some (.ref f8)))
    (l8 : K.lookup f8 = some ⟨oc8, od8, .func (PySem.W.fnOf "_made_of" "_made_of" (defArgs s__made_of) (defBody s__made_of) (defScope s__made_of) .none kV8 dc8 pm8 an8 cd8 ct8), sl8⟩)
    (c8 : PySem.W.codeIn K cd8 "_made_of" = true)
    (k8 : PySem.W.keepIn K (.ref f8) = true)
    (a9 : PySem.W.nsIn K mainGlobals "_fraction_of" = some (some (.ref f9)))
    (l9 : K.lookup f9 = some ⟨oc9, od9, .func (PySem.W.fnOf "_fraction_of" "_fraction_of" (defArgs s__fraction_of) (defBody s__fraction_of) (defScope s__fraction_of) .none kV9 dc9 pm9 an9 cd9 ct9), sl9⟩)
    (c9 : PySem.W.codeIn K cd9 "_fraction_of" = true)
    (k9 : PySem.W.keepIn K (.ref f9) = true)
    (a10 : PySem.W.nsIn K mainGlobals "ratio_with" = some (some (.ref f10)))
    (l10 : K.lookup f10 = some ⟨oc10, od10, .func (PySem.W.fnOf "ratio_with" "ratio_with" (defArgs s_ratio_with) (defBody s_ratio_with) (defScope s_ratio_with) .none kV10 dc10 pm10 an10 cd10 ct10), sl10⟩)
    (c10 : PySem.W.codeIn K cd10 "ratio_with" = true)
    (k10 : PySem.W.keepIn K (.ref f10) = true)
    (a11 : PySem.W.nsIn K mainGlobals "_split" = some (some (.ref f11)))
    (l11 : K.lookup f11 = some ⟨oc11, od11, .func (PySem.W.fnOf "_split" "_split" (defArgs s__split) (defBody s__split) (defScope s__split) .none kV11 dc11 pm11 an11 cd11 ct11), sl11⟩)
    (c11 : PySem.W.codeIn K cd11 "_split" = true)
    (k11 : PySem.W.keepIn K (.ref f11) = true)
    (a12 : PySem.W.nsIn K mainGlobals "_powers_in" = some (some (.ref f12)))
    (l12 : K.lookup f12 = some ⟨oc12, od12, .func (PySem.W.fnOf "_powers_in" "_powers_in" (defArgs s__powers_in) (defBody s__powers_in) (defScope s__powers_in) .none kV12 dc12 pm12 an12 cd12 ct12), sl12⟩)
    (c12 : PySem.W.codeIn K cd12 "_powers_in" = true)
    (k12 : PySem.W.keepIn K (.ref f12) = true)
    (a13 : PySem.W.nsIn K mainGlobals "_powers_of" = some (some (.ref f13)))
    (l13 : K.lookup f13 = some ⟨oc13, od13, .func (PySem.W.fnOf "_powers_of" "_powers_of" (defArgs s__powers_of) (defBody s__powers_of) (defScope s__powers_of) .none kV13 dc13 pm13 an13 cd13 ct13), sl13⟩)
    (c13 : PySem.W.codeIn K cd13 "_powers_of" = true)
    (k13 : PySem.W.keepIn K (.ref f13) = true)
    (a14 : PySem.W.nsIn K mainGlobals "is_length" = some (some (.ref f14)))
    (l14 : K.lookup f14 = some ⟨oc14, od14, .func (PySem.W.fnOf "is_length" "is_length" (defArgs s_is_length) (defBody s_is_length) (defScope s_is_length) .none kV14 dc14 pm14 an14 cd14 ct14), sl14⟩)
    (c14 : PySem.W.codeIn K cd14 "is_length" = true)
    (k14 : PySem.W.keepIn K (.ref f14) = true)
    (a15 : PySem.W.nsIn K mainGlobals "key_of" = some (some (.ref f15)))
    (l15 : K.lookup f15 = some ⟨oc15, od15, .func (PySem.W.fnOf "key_of" "key_of" (defArgs s_key_of) (defBody s_key_of) (defScope s_key_of) .none kV15 dc15 pm15 an15 cd15 ct15), sl15⟩)
    (c15 : PySem.W.codeIn K cd15 "key_of" = true)
    (k15 : PySem.W.keepIn K (.ref f15) = true)
    (a16 : PySem.W.nsIn K mainGlobals "ratio_at" = some (some (.ref f16)))
    (l16 : K.lookup f16 = some ⟨oc16, od16, .func (PySem.W.fnOf "ratio_at" "ratio_at" (defArgs s_ratio_at) (defBody s_ratio_at) (defScope s_ratio_at) .none kV16 dc16 pm16 an16 cd16 ct16), sl16⟩)
    (c16 : PySem.W.codeIn K cd16 "ratio_at" = true)
    (k16 : PySem.W.keepIn K (.ref f16) = true)
    (a17 : PySem.W.nsIn K mainGlobals "is_below" = some (some (.ref f17)))
    (l17 : K.lookup f17 = some ⟨oc17, od17, .func (PySem.W.fnOf "is_below" "is_below" (defArgs s_is_below) (defBody s_is_below) (defScope s_is_below) .none kV17 dc17 pm17 an17 cd17 ct17), sl17⟩)
    (c17 : PySem.W.codeIn K cd17 "is_below" = true)
    (k17 : PySem.W.keepIn K (.ref f17) = true)
    (a18 : PySem.W.nsIn K mainGlobals "_key_near" = some (some (.ref f18)))
    (l18 : K.lookup f18 = some ⟨oc18, od18, .func (PySem.W.fnOf "_key_near" "_key_near" (defArgs s__key_near) (defBody s__key_near) (defScope s__key_near) .none kV18 dc18 pm18 an18 cd18 ct18), sl18⟩)
    (c18 : PySem.W.codeIn K cd18 "_key_near" = true)
    (k18 : PySem.W.keepIn K (.ref f18) = true)
    (a19 : PySem.W.nsIn K mainGlobals "ratio_near" = some (some (.ref f19)))
    (l19 : K.lookup f19 = some ⟨oc19, od19, .func (PySem.W.fnOf "ratio_near" "ratio_near" (defArgs s_ratio_near) (defBody s_ratio_near) (defScope s_ratio_near) .none kV19 dc19 pm19 an19 cd19 ct19), sl19⟩)
    (c19 : PySem.W.codeIn K cd19 "ratio_near" = true)
    (k19 : PySem.W.keepIn K (.ref f19) = true)
    (a20 : PySem.W.nsIn K mainGlobals "_law_bag" = some (some (.ref f20)))
    (l20 : K.lookup f20 = some ⟨oc20, od20, .func (PySem.W.fnOf "_law_bag" "_law_bag" (defArgs s_l_bag) (defBody s_l_bag) (defScope s_l_bag) .none kV20 dc20 pm20 an20 cd20 ct20), sl20⟩)
    (c20 : PySem.W.codeIn K cd20 "_law_bag" = true)
    (k20 : PySem.W.keepIn K (.ref f20) = true)
    (a21 : PySem.W.nsIn K mainGlobals "_law_draw" = some (some (.ref f21)))
    (l21 : K.lookup f21 = some ⟨oc21, od21, .func (PySem.W.fnOf "_law_draw" "_law_draw" (defArgs s_l_draw) (defBody s_l_draw) (defScope s_l_draw) .none kV21 dc21 pm21 an21 cd21 ct21), sl21⟩)
    (c21 : PySem.W.codeIn K cd21 "_law_draw" = true)
    (k21 : PySem.W.keepIn K (.ref f21) = true)
    (a22 : PySem.W.nsIn K mainGlobals "_law_of" = some (some (.ref f22)))
    (l22 : K.lookup f22 = some ⟨oc22, od22, .func (PySem.W.fnOf "_law_of" "_law_of" (defArgs s_l_of) (defBody s_l_of) (defScope s_l_of) .none kV22 dc22 pm22 an22 cd22 ct22), sl22⟩)
    (c22 : PySem.W.codeIn K cd22 "_law_of" = true)
    (k22 : PySem.W.keepIn K (.ref f22) = true)
    (a23 : PySem.W.nsIn K mainGlobals "_law_like" = some (some (.ref f23)))
    (l23 : K.lookup f23 = some ⟨oc23, od23, .func (PySem.W.fnOf "_law_like" "_law_like" (defArgs s_l_like) (defBody s_l_like) (defScope s_l_like) .none kV23 dc23 pm23 an23 cd23 ct23), sl23⟩)
    (c23 : PySem.W.codeIn K cd23 "_law_like" = true)
    (k23 : PySem.W.keepIn K (.ref f23) = true)
    (a24 : PySem.W.nsIn K mainGlobals "_law_gcd" = some (some (.ref f24)))
    (l24 : K.lookup f24 = some ⟨oc24, od24, .func (PySem.W.fnOf "_law_gcd" "_law_gcd" (defArgs s_l_gcd) (defBody s_l_gcd) (defScope s_l_gcd) .none kV24 dc24 pm24 an24 cd24 ct24), sl24⟩)
    (c24 : PySem.W.codeIn K cd24 "_law_gcd" = true)
    (k24 : PySem.W.keepIn K (.ref f24) = true)
    (a25 : PySem.W.nsIn K mainGlobals "_law_low" = some (some (.ref f25)))
    (l25 : K.lookup f25 = some ⟨oc25, od25, .func (PySem.W.fnOf "_law_low" "_law_low" (defArgs s_l_low) (defBody s_l_low) (defScope s_l_low) .none kV25 dc25 pm25 an25 cd25 ct25), sl25⟩)
    (c25 : PySem.W.codeIn K cd25 "_law_low" = true)
    (k25 : PySem.W.keepIn K (.ref f25) = true)
    (a26 : PySem.W.nsIn K mainGlobals "_law_times" = some (some (.ref f26)))
    (l26 : K.lookup f26 = some ⟨oc26, od26, .func (PySem.W.fnOf "_law_times" "_law_times" (defArgs s_l_times) (defBody s_l_times) (defScope s_l_times) .none kV26 dc26 pm26 an26 cd26 ct26), sl26⟩)
    (c26 : PySem.W.codeIn K cd26 "_law_times" = true)
    (k26 : PySem.W.keepIn K (.ref f26) = true)
    (a27 : PySem.W.nsIn K mainGlobals "_law_below" = some (some (.ref f27)))
    (l27 : K.lookup f27 = some ⟨oc27, od27, .func (PySem.W.fnOf "_law_below" "_law_below" (defArgs s_l_below) (defBody s_l_below) (defScope s_l_below) .none kV27 dc27 pm27 an27 cd27 ct27), sl27⟩)
    (c27 : PySem.W.codeIn K cd27 "_law_below" = true)
    (k27 : PySem.W.keepIn K (.ref f27) = true)
    (a28 : PySem.W.nsIn K mainGlobals "_law_powers" = some (some (.ref f28)))
    (l28 : K.lookup f28 = some ⟨oc28, od28, .func (PySem.W.fnOf "_law_powers" "_law_powers" (defArgs s_l_powers) (defBody s_l_powers) (defScope s_l_powers) .none kV28 dc28 pm28 an28 cd28 ct28), sl28⟩)
    (c28 : PySem.W.codeIn K cd28 "_law_powers" = true)
    (k28 : PySem.W.keepIn K (.ref f28) = true)
    (a29 : PySem.W.nsIn K mainGlobals "_law_menu" = some (some (.ref f29)))
    (l29 : K.lookup f29 = some ⟨oc29, od29, .func (PySem.W.fnOf "_law_menu" "_law_menu" (defArgs s_l_menu) (defBody s_l_menu) (defScope s_l_menu) .none kV29 dc29 pm29 an29 cd29 ct29), sl29⟩)
    (c29 : PySem.W.codeIn K cd29 "_law_menu" = true)
    (k29 : PySem.W.keepIn K (.ref f29) = true)
    (a30 : PySem.W.nsIn K mainGlobals "_law_length" = some (some (.ref f30)))
    (l30 : K.lookup f30 = some ⟨oc30, od30, .func (PySem.W.fnOf "_law_length" "_law_length" (defArgs s_l_length) (defBody s_l_length) (defScope s_l_length) .none kV30 dc30 pm30 an30 cd30 ct30), sl30⟩)
    (c30 : PySem.W.codeIn K cd30 "_law_length" = true)
    (k30 : PySem.W.keepIn K (.ref f30) = true)
    (a31 : PySem.W.nsIn K mainGlobals "_law_ratio" = some (some (.ref f31)))
    (l31 : K.lookup f31 = some ⟨oc31, od31, .func (PySem.W.fnOf "_law_ratio" "_law_ratio" (defArgs s_l_ratio) (defBody s_l_ratio) (defScope s_l_ratio) .none kV31 dc31 pm31 an31 cd31 ct31), sl31⟩)
    (c31 : PySem.W.codeIn K cd31 "_law_ratio" = true)
    (k31 : PySem.W.keepIn K (.ref f31) = true)
    (a32 : PySem.W.nsIn K mainGlobals "_law_pair" = some (some (.ref f32)))
    (l32 : K.lookup f32 = some ⟨oc32, od32, .func (PySem.W.fnOf "_law_pair" "_law_pair" (defArgs s_l_pair) (defBody s_l_pair) (defScope s_l_pair) .none kV32 dc32 pm32 an32 cd32 ct32), sl32⟩)
    (c32 : PySem.W.codeIn K cd32 "_law_pair" = true)
    (k32 : PySem.W.keepIn K (.ref f32) = true)
    (a33 : PySem.W.nsIn K mainGlobals "_law_huge" = some (some (.ref f33)))
    (l33 : K.lookup f33 = some ⟨oc33, od33, .func (PySem.W.fnOf "_law_huge" "_law_huge" (defArgs s_l_huge) (defBody s_l_huge) (defScope s_l_huge) .none kV33 dc33 pm33 an33 cd33 ct33), sl33⟩)
    (c33 : PySem.W.codeIn K cd33 "_law_huge" = true)
    (k33 : PySem.W.keepIn K (.ref f33) = true)
    (a34 : PySem.W.nsIn K mainGlobals "_law_bit_row" = some (some (.ref f34)))
    (l34 : K.lookup f34 = some ⟨oc34, od34, .func (PySem.W.fnOf "_law_bit_row" "_law_bit_row" (defArgs s_l_bit_row) (defBody s_l_bit_row) (defScope s_l_bit_row) .none kV34 dc34 pm34 an34 cd34 ct34), sl34⟩)
    (c34 : PySem.W.codeIn K cd34 "_law_bit_row" = true)
    (k34 : PySem.W.keepIn K (.ref f34) = true)
    (a35 : PySem.W.nsIn K mainGlobals "law" = some (some (.ref f35)))
    (l35 : K.lookup f35 = some ⟨oc35, od35, .func (PySem.W.fnOf "law" "law" (defArgs s_law) (defBody s_law) (defScope s_law) .none kV35 dc35 pm35 an35 cd35 ct35), sl35⟩)
    (c35 : PySem.W.codeIn K cd35 "law" = true)
    (k35 : PySem.W.keepIn K (.ref f35) = true)
    (h_jInt : PySem.W.mroIn K C_Ratio (.type "int") = some false)
    (h_jBool : PySem.W.mroIn K C_Ratio (.type "bool") = some false)
    (h_jList : PySem.W.mroIn K C_Ratio (.type "list") = some false)
    (h_jStr : PySem.W.mroIn K C_Ratio (.type "str") = some false)
    (h_jTuple : PySem.W.mroIn K C_Ratio (.type "tuple") = some false)
    : ∃ fd : FuncData, (∀ (s : Shared) (v : Value), BindsTo s fd ⟨[v], []⟩ [("_law_script", v)]) ∧ ∀ base : Heap, K.In base → base.Ns mainGlobals mg → FnOk P w K mg base CX0 12 fa fd ["_law_script"] (spLaw K) := by
  have e := hfa.symm.trans (PySem.W.mg_of X G a35)
  cases e
  have F1 := fun_mk (st := s_log_of) l1 c1 k1
  have b1 := F1.binds (ps := ["powers"]) fun _ _ _ _ _ _ us hl => match us, hl with | [_], _ => rfl
  have F2 := fun_mk (st := s_is_number) l2 c2 k2
  have b2 := F2.binds (ps := ["value"]) fun _ _ _ _ _ _ us hl => match us, hl with | [_], _ => rfl
  have F3 : FunD K "__init__" "Ratio.__init__" (defArgs s_Ratio_init) (defBody s_Ratio_init) (defScope s_Ratio_init) [V.int 1] [] f3 (PySem.W.fnOf "__init__" "Ratio.__init__" (defArgs s_Ratio_init) (defBody s_Ratio_init) (defScope s_Ratio_init) (.ref dT3) kV3 dc3 pm3 an3 cd3 ct3) := by
    obtain ⟨its, n, e1, e2⟩ := vT3
    exact ⟨⟨_, _, _, _, _, _, _, _, _, _, rfl, l3, c3, .inr ⟨by simp, dT3, _, its, n, rfl, lT3, e1, e2⟩, .inl rfl⟩, k3⟩
  obtain ⟨ds0_3, v0_3, b3⟩ := F3.binds1 (ps := ["self", "over", "under"]) 3 1 (by simp) rfl fun _ _ _ _ _ _ _ us its hu hi => match us, its, hu, hi with | [_, _, _], [_], _, _ => ⟨_, rfl, rfl⟩
  cases v0_3
  obtain ⟨ds1_3, v1_3, bb3⟩ := F3.binds1 (ps := ["self", "over", "under"]) 2 0 (by simp) rfl fun _ _ _ _ _ _ _ us its hu hi => match us, its, hu, hi with | [_, _], [_], _, _ => ⟨_, rfl, rfl⟩
  have F4 := fun_mk (st := s_Ratio_powers) l4 c4 k4
  have b4 := F4.binds (ps := ["self"]) fun _ _ _ _ _ _ us hl => match us, hl with | [_], _ => rfl
  have F5 := fun_mk (st := s_Ratio_bits) l5 c5 k5
  have b5 := F5.binds (ps := ["self"]) fun _ _ _ _ _ _ us hl => match us, hl with | [_], _ => rfl
  have F6 := fun_mk (st := s_Ratio_below) l6 c6 k6
  have b6 := F6.binds (ps := ["self", "other"]) fun _ _ _ _ _ _ us hl => match us, hl with | [_, _], _ => rfl
  have F7 := fun_mk (st := s__raised) l7 c7 k7
  have b7 := F7.binds (ps := ["base", "exponent"]) fun _ _ _ _ _ _ us hl => match us, hl with | [_, _], _ => rfl
  have F8 := fun_mk (st := s__made_of) l8 c8 k8
  have b8 := F8.binds (ps := ["powers"]) fun _ _ _ _ _ _ us hl => match us, hl with | [_], _ => rfl
  have F9 := fun_mk (st := s__fraction_of) l9 c9 k9
  have b9 := F9.binds (ps := ["powers"]) fun _ _ _ _ _ _ us hl => match us, hl with | [_], _ => rfl
  have F10 := fun_mk (st := s_ratio_with) l10 c10 k10
  have b10 := F10.binds (ps := ["powers"]) fun _ _ _ _ _ _ us hl => match us, hl with | [_], _ => rfl
  have F11 := fun_mk (st := s__split) l11 c11 k11
  have b11 := F11.binds (ps := ["number", "divisor"]) fun _ _ _ _ _ _ us hl => match us, hl with | [_, _], _ => rfl
  have F12 := fun_mk (st := s__powers_in) l12 c12 k12
  have b12 := F12.binds (ps := ["number"]) fun _ _ _ _ _ _ us hl => match us, hl with | [_], _ => rfl
  have F13 := fun_mk (st := s__powers_of) l13 c13 k13
  have b13 := F13.binds (ps := ["over", "under"]) fun _ _ _ _ _ _ us hl => match us, hl with | [_, _], _ => rfl
  have F14 := fun_mk (st := s_is_length) l14 c14 k14
  have b14 := F14.binds (ps := ["value"]) fun _ _ _ _ _ _ us hl => match us, hl with | [_], _ => rfl
  have F15 := fun_mk (st := s_key_of) l15 c15 k15
  have b15 := F15.binds (ps := ["ratio"]) fun _ _ _ _ _ _ us hl => match us, hl with | [_], _ => rfl
  have F16 := fun_mk (st := s_ratio_at) l16 c16 k16
  have b16 := F16.binds (ps := ["key"]) fun _ _ _ _ _ _ us hl => match us, hl with | [_], _ => rfl
  have F17 := fun_mk (st := s_is_below) l17 c17 k17
  have b17 := F17.binds (ps := ["one", "other"]) fun _ _ _ _ _ _ us hl => match us, hl with | [_, _], _ => rfl
  have F18 := fun_mk (st := s__key_near) l18 c18 k18
  have b18 := F18.binds (ps := ["bits", "room", "many"]) fun _ _ _ _ _ _ us hl => match us, hl with | [_, _, _], _ => rfl
  have F19 := fun_mk (st := s_ratio_near) l19 c19 k19
  have b19 := F19.binds (ps := ["bits", "most"]) fun _ _ _ _ _ _ us hl => match us, hl with | [_, _], _ => rfl
  have F20 := fun_mk (st := s_l_bag) l20 c20 k20
  have b20 := F20.binds (ps := ["_law_script"]) fun _ _ _ _ _ _ us hl => match us, hl with | [_], _ => rfl
  have F21 := fun_mk (st := s_l_draw) l21 c21 k21
  have b21 := F21.binds (ps := ["_law_bag_here", "_law_many"]) fun _ _ _ _ _ _ us hl => match us, hl with | [_, _], _ => rfl
  have F22 := fun_mk (st := s_l_of) l22 c22 k22
  have b22 := F22.binds (ps := ["_law_bag_here", "_law_things"]) fun _ _ _ _ _ _ us hl => match us, hl with | [_, _], _ => rfl
  have F23 := fun_mk (st := s_l_like) l23 c23 k23
  have b23 := F23.binds (ps := ["_law_found", "_law_due"]) fun _ _ _ _ _ _ us hl => match us, hl with | [_, _], _ => rfl
  have F24 := fun_mk (st := s_l_gcd) l24 c24 k24
  have b24 := F24.binds (ps := ["_law_one", "_law_other"]) fun _ _ _ _ _ _ us hl => match us, hl with | [_, _], _ => rfl
  have F25 := fun_mk (st := s_l_low) l25 c25 k25
  have b25 := F25.binds (ps := ["_law_over", "_law_under"]) fun _ _ _ _ _ _ us hl => match us, hl with | [_, _], _ => rfl
  have F26 := fun_mk (st := s_l_times) l26 c26 k26
  have b26 := F26.binds (ps := ["_law_one", "_law_other"]) fun _ _ _ _ _ _ us hl => match us, hl with | [_, _], _ => rfl
  have F27 := fun_mk (st := s_l_below) l27 c27 k27
  have b27 := F27.binds (ps := ["_law_one", "_law_other"]) fun _ _ _ _ _ _ us hl => match us, hl with | [_, _], _ => rfl
  have F28 := fun_mk (st := s_l_powers) l28 c28 k28
  have b28 := F28.binds (ps := ["_law_pair_here"]) fun _ _ _ _ _ _ us hl => match us, hl with | [_], _ => rfl
  have F29 := fun_mk (st := s_l_menu) l29 c29 k29
  have b29 := F29.binds (ps := []) fun _ _ _ _ _ _ us hl => match us, hl with | [], _ => rfl
  have F30 := fun_mk (st := s_l_length) l30 c30 k30
  have b30 := F30.binds (ps := ["_law_bag_here"]) fun _ _ _ _ _ _ us hl => match us, hl with | [_], _ => rfl
  have F31 := fun_mk (st := s_l_ratio) l31 c31 k31
  have b31 := F31.binds (ps := ["_law_pair_here"]) fun _ _ _ _ _ _ us hl => match us, hl with | [_], _ => rfl
  have F32 := fun_mk (st := s_l_pair) l32 c32 k32
  have b32 := F32.binds (ps := ["_law_thing"]) fun _ _ _ _ _ _ us hl => match us, hl with | [_], _ => rfl
  have F33 := fun_mk (st := s_l_huge) l33 c33 k33
  have b33 := F33.binds (ps := ["_law_pairs"]) fun _ _ _ _ _ _ us hl => match us, hl with | [_], _ => rfl
  have F34 := fun_mk (st := s_l_bit_row) l34 c34 k34
  have b34 := F34.binds (ps := ["_law_bag_here"]) fun _ _ _ _ _ _ us hl => match us, hl with | [_], _ => rfl
  have F35 := fun_mk (st := s_law) l35 c35 k35
  have b35 := F35.binds (ps := ["_law_script"]) fun _ _ _ _ _ _ us hl => match us, hl with | [_], _ => rfl
  have kb_ratio_near : KBinds K _ ["bits", "most"] ["most", "bits"] g02s g02s := Fun.kb02s F19 fun _ _ _ _ _ _ _ _ => rfl
  exact ⟨PySem.W.fnOf "law" "law" (defArgs s_law) (defBody s_law) (defScope s_law) .none kV35 dc35 pm35 an35 cd35 ct35, fun s v => .of_eq rfl, fun base _ _ => ok_law (T := {
    z_len := PySem.W.mg_none_of X G z_len
    z_abs := PySem.W.mg_none_of X G z_abs
    z_int := PySem.W.mg_none_of X G z_int
    z_isinstance := PySem.W.mg_none_of X G z_isinstance
    z_list := PySem.W.mg_none_of X G z_list
    z_tuple := PySem.W.mg_none_of X G z_tuple
    z_bool := PySem.W.mg_none_of X G z_bool
    z_str := PySem.W.mg_none_of X G z_str
    z_all := PySem.W.mg_none_of X G z_all
    z_any := PySem.W.mg_none_of X G z_any
    z_zip := PySem.W.mg_none_of X G z_zip
    z_range := PySem.W.mg_none_of X G z_range
    z_enumerate := PySem.W.mg_none_of X G z_enumerate
    z_divmod := PySem.W.mg_none_of X G z_divmod
    z_max := PySem.W.mg_none_of X G z_max
    z_min := PySem.W.mg_none_of X G z_min
    z_reversed := PySem.W.mg_none_of X G z_reversed
    z_sum := PySem.W.mg_none_of X G z_sum
    C_Ratio := C_Ratio
    c_Ratio := ⟨pg_Ratio, hd_Ratio, po_Ratio, sa_Ratio⟩
    g_Ratio := PySem.W.mg_of X G aC_Ratio
    n_Ratio_over := n_Ratio_over
    n_Ratio_under := n_Ratio_under
    n_Ratio_powers := n_Ratio_powers
    i_Ratio := ⟨ca_Ratio, cn_Ratio, ct_Ratio, cm_Ratio, if_pos (beq_self_eq_true _)⟩
    e_PRIMES := e_PRIMES
    m_PRIMES := PySem.W.mg_of X G aE_PRIMES
    q_PRIMES := fun H => tupO_sq lE_PRIMES vE_PRIMES
    e_NO_POWERS := e_NO_POWERS
    m_NO_POWERS := PySem.W.mg_of X G aE_NO_POWERS
    q_NO_POWERS := fun H => tupO_sq lE_NO_POWERS vE_NO_POWERS
    e_LOGS := e_LOGS
    m_LOGS := PySem.W.mg_of X G aE_LOGS
    q_LOGS := fun H => tupO_sq lE_LOGS vE_LOGS
    m_gcd := PySem.W.mg_of X G gb_gcd
    t_SLACK := t_SLACK
    m_SLACK := PySem.W.mg_of X G gi_SLACK
    t_MANY := t_MANY
    m_MANY := PySem.W.mg_of X G gi_MANY
    t_BASE := t_BASE
    m_BASE := PySem.W.mg_of X G gi_BASE
    t_HALF := t_HALF
    m_HALF := PySem.W.mg_of X G gi_HALF
    t_BEHIND := t_BEHIND
    m_BEHIND := PySem.W.mg_of X G gi_BEHIND
    t_CLOSE := t_CLOSE
    m_CLOSE := PySem.W.mg_of X G gi_CLOSE
    f_log_of := f1
    d_log_of := PySem.W.fnOf "log_of" "log_of" (defArgs s_log_of) (defBody s_log_of) (defScope s_log_of) .none kV1 dc1 pm1 an1 cd1 ct1
    F_log_of := F1
    b_log_of := b1
    m_log_of := PySem.W.mg_of X G a1
    f_is_number := f2
    d_is_number := PySem.W.fnOf "is_number" "is_number" (defArgs s_is_number) (defBody s_is_number) (defScope s_is_number) .none kV2 dc2 pm2 an2 cd2 ct2
    F_is_number := F2
    b_is_number := b2
    m_is_number := PySem.W.mg_of X G a2
    f_Ratio_init := f3
    d_Ratio_init := PySem.W.fnOf "__init__" "Ratio.__init__" (defArgs s_Ratio_init) (defBody s_Ratio_init) (defScope s_Ratio_init) (.ref dT3) kV3 dc3 pm3 an3 cd3 ct3
    F_Ratio_init := F3
    ds_Ratio_init := ds1_3
    v_Ratio_init := v1_3
    b_Ratio_init := b3
    b1_Ratio_init := bb3
    k_Ratio := ⟨mk_Ratio, a3, i3, kc_Ratio⟩
    f_Ratio_powers := f4
    d_Ratio_powers := PySem.W.fnOf "powers" "Ratio.powers" (defArgs s_Ratio_powers) (defBody s_Ratio_powers) (defScope s_Ratio_powers) .none kV4 dc4 pm4 an4 cd4 ct4
    F_Ratio_powers := F4
    b_Ratio_powers := b4
    a_Ratio_powers := ⟨a4, i4, k4⟩
    f_Ratio_bits := f5
    d_Ratio_bits := PySem.W.fnOf "bits" "Ratio.bits" (defArgs s_Ratio_bits) (defBody s_Ratio_bits) (defScope s_Ratio_bits) .none kV5 dc5 pm5 an5 cd5 ct5
    F_Ratio_bits := F5
    b_Ratio_bits := b5
    a_Ratio_bits := ⟨a5, i5, k5⟩
    f_Ratio_below := f6
    d_Ratio_below := PySem.W.fnOf "below" "Ratio.below" (defArgs s_Ratio_below) (defBody s_Ratio_below) (defScope s_Ratio_below) .none kV6 dc6 pm6 an6 cd6 ct6
    F_Ratio_below := F6
    b_Ratio_below := b6
    a_Ratio_below := ⟨a6, i6, k6⟩
    f__raised := f7
    d__raised := PySem.W.fnOf "_raised" "_raised" (defArgs s__raised) (defBody s__raised) (defScope s__raised) .none kV7 dc7 pm7 an7 cd7 ct7
    F__raised := F7
    b__raised := b7
    m__raised := PySem.W.mg_of X G a7
    f__made_of := f8
    d__made_of := PySem.W.fnOf "_made_of" "_made_of" (defArgs s__made_of) (defBody s__made_of) (defScope s__made_of) .none kV8 dc8 pm8 an8 cd8 ct8
    F__made_of := F8
    b__made_of := b8
    m__made_of := PySem.W.mg_of X G a8
    f__fraction_of := f9
    d__fraction_of := PySem.W.fnOf "_fraction_of" "_fraction_of" (defArgs s__fraction_of) (defBody s__fraction_of) (defScope s__fraction_of) .none kV9 dc9 pm9 an9 cd9 ct9
    F__fraction_of := F9
    b__fraction_of := b9
    m__fraction_of := PySem.W.mg_of X G a9
    f_ratio_with := f10
    d_ratio_with := PySem.W.fnOf "ratio_with" "ratio_with" (defArgs s_ratio_with) (defBody s_ratio_with) (defScope s_ratio_with) .none kV10 dc10 pm10 an10 cd10 ct10
    F_ratio_with := F10
    b_ratio_with := b10
    m_ratio_with := PySem.W.mg_of X G a10
    f__split := f11
    d__split := PySem.W.fnOf "_split" "_split" (defArgs s__split) (defBody s__split) (defScope s__split) .none kV11 dc11 pm11 an11 cd11 ct11
    F__split := F11
    b__split := b11
    m__split := PySem.W.mg_of X G a11
    f__powers_in := f12
    d__powers_in := PySem.W.fnOf "_powers_in" "_powers_in" (defArgs s__powers_in) (defBody s__powers_in) (defScope s__powers_in) .none kV12 dc12 pm12 an12 cd12 ct12
    F__powers_in := F12
    b__powers_in := b12
    m__powers_in := PySem.W.mg_of X G a12
    f__powers_of := f13
    d__powers_of := PySem.W.fnOf "_powers_of" "_powers_of" (defArgs s__powers_of) (defBody s__powers_of) (defScope s__powers_of) .none kV13 dc13 pm13 an13 cd13 ct13
    F__powers_of := F13
    b__powers_of := b13
    m__powers_of := PySem.W.mg_of X G a13
    f_is_length := f14
    d_is_length := PySem.W.fnOf "is_length" "is_length" (defArgs s_is_length) (defBody s_is_length) (defScope s_is_length) .none kV14 dc14 pm14 an14 cd14 ct14
    F_is_length := F14
    b_is_length := b14
    m_is_length := PySem.W.mg_of X G a14
    f_key_of := f15
    d_key_of := PySem.W.fnOf "key_of" "key_of" (defArgs s_key_of) (defBody s_key_of) (defScope s_key_of) .none kV15 dc15 pm15 an15 cd15 ct15
    F_key_of := F15
    b_key_of := b15
    m_key_of := PySem.W.mg_of X G a15
    f_ratio_at := f16
    d_ratio_at := PySem.W.fnOf "ratio_at" "ratio_at" (defArgs s_ratio_at) (defBody s_ratio_at) (defScope s_ratio_at) .none kV16 dc16 pm16 an16 cd16 ct16
    F_ratio_at := F16
    b_ratio_at := b16
    m_ratio_at := PySem.W.mg_of X G a16
    f_is_below := f17
    d_is_below := PySem.W.fnOf "is_below" "is_below" (defArgs s_is_below) (defBody s_is_below) (defScope s_is_below) .none kV17 dc17 pm17 an17 cd17 ct17
    F_is_below := F17
    b_is_below := b17
    m_is_below := PySem.W.mg_of X G a17
    f__key_near := f18
    d__key_near := PySem.W.fnOf "_key_near" "_key_near" (defArgs s__key_near) (defBody s__key_near) (defScope s__key_near) .none kV18 dc18 pm18 an18 cd18 ct18
    F__key_near := F18
    b__key_near := b18
    m__key_near := PySem.W.mg_of X G a18
    f_ratio_near := f19
    d_ratio_near := PySem.W.fnOf "ratio_near" "ratio_near" (defArgs s_ratio_near) (defBody s_ratio_near) (defScope s_ratio_near) .none kV19 dc19 pm19 an19 cd19 ct19
    F_ratio_near := F19
    b_ratio_near := b19
    m_ratio_near := PySem.W.mg_of X G a19
    f_l_bag := f20
    d_l_bag := PySem.W.fnOf "_law_bag" "_law_bag" (defArgs s_l_bag) (defBody s_l_bag) (defScope s_l_bag) .none kV20 dc20 pm20 an20 cd20 ct20
    F_l_bag := F20
    b_l_bag := b20
    m_l_bag := PySem.W.mg_of X G a20
    f_l_draw := f21
    d_l_draw := PySem.W.fnOf "_law_draw" "_law_draw" (defArgs s_l_draw) (defBody s_l_draw) (defScope s_l_draw) .none kV21 dc21 pm21 an21 cd21 ct21
    F_l_draw := F21
    b_l_draw := b21
    m_l_draw := PySem.W.mg_of X G a21
    f_l_of := f22
    d_l_of := PySem.W.fnOf "_law_of" "_law_of" (defArgs s_l_of) (defBody s_l_of) (defScope s_l_of) .none kV22 dc22 pm22 an22 cd22 ct22
    F_l_of := F22
    b_l_of := b22
    m_l_of := PySem.W.mg_of X G a22
    f_l_like := f23
    d_l_like := PySem.W.fnOf "_law_like" "_law_like" (defArgs s_l_like) (defBody s_l_like) (defScope s_l_like) .none kV23 dc23 pm23 an23 cd23 ct23
    F_l_like := F23
    b_l_like := b23
    m_l_like := PySem.W.mg_of X G a23
    f_l_gcd := f24
    d_l_gcd := PySem.W.fnOf "_law_gcd" "_law_gcd" (defArgs s_l_gcd) (defBody s_l_gcd) (defScope s_l_gcd) .none kV24 dc24 pm24 an24 cd24 ct24
    F_l_gcd := F24
    b_l_gcd := b24
    m_l_gcd := PySem.W.mg_of X G a24
    f_l_low := f25
    d_l_low := PySem.W.fnOf "_law_low" "_law_low" (defArgs s_l_low) (defBody s_l_low) (defScope s_l_low) .none kV25 dc25 pm25 an25 cd25 ct25
    F_l_low := F25
    b_l_low := b25
    m_l_low := PySem.W.mg_of X G a25
    f_l_times := f26
    d_l_times := PySem.W.fnOf "_law_times" "_law_times" (defArgs s_l_times) (defBody s_l_times) (defScope s_l_times) .none kV26 dc26 pm26 an26 cd26 ct26
    F_l_times := F26
    b_l_times := b26
    m_l_times := PySem.W.mg_of X G a26
    f_l_below := f27
    d_l_below := PySem.W.fnOf "_law_below" "_law_below" (defArgs s_l_below) (defBody s_l_below) (defScope s_l_below) .none kV27 dc27 pm27 an27 cd27 ct27
    F_l_below := F27
    b_l_below := b27
    m_l_below := PySem.W.mg_of X G a27
    f_l_powers := f28
    d_l_powers := PySem.W.fnOf "_law_powers" "_law_powers" (defArgs s_l_powers) (defBody s_l_powers) (defScope s_l_powers) .none kV28 dc28 pm28 an28 cd28 ct28
    F_l_powers := F28
    b_l_powers := b28
    m_l_powers := PySem.W.mg_of X G a28
    f_l_menu := f29
    d_l_menu := PySem.W.fnOf "_law_menu" "_law_menu" (defArgs s_l_menu) (defBody s_l_menu) (defScope s_l_menu) .none kV29 dc29 pm29 an29 cd29 ct29
    F_l_menu := F29
    b_l_menu := b29
    m_l_menu := PySem.W.mg_of X G a29
    f_l_length := f30
    d_l_length := PySem.W.fnOf "_law_length" "_law_length" (defArgs s_l_length) (defBody s_l_length) (defScope s_l_length) .none kV30 dc30 pm30 an30 cd30 ct30
    F_l_length := F30
    b_l_length := b30
    m_l_length := PySem.W.mg_of X G a30
    f_l_ratio := f31
    d_l_ratio := PySem.W.fnOf "_law_ratio" "_law_ratio" (defArgs s_l_ratio) (defBody s_l_ratio) (defScope s_l_ratio) .none kV31 dc31 pm31 an31 cd31 ct31
    F_l_ratio := F31
    b_l_ratio := b31
    m_l_ratio := PySem.W.mg_of X G a31
    f_l_pair := f32
    d_l_pair := PySem.W.fnOf "_law_pair" "_law_pair" (defArgs s_l_pair) (defBody s_l_pair) (defScope s_l_pair) .none kV32 dc32 pm32 an32 cd32 ct32
    F_l_pair := F32
    b_l_pair := b32
    m_l_pair := PySem.W.mg_of X G a32
    f_l_huge := f33
    d_l_huge := PySem.W.fnOf "_law_huge" "_law_huge" (defArgs s_l_huge) (defBody s_l_huge) (defScope s_l_huge) .none kV33 dc33 pm33 an33 cd33 ct33
    F_l_huge := F33
    b_l_huge := b33
    m_l_huge := PySem.W.mg_of X G a33
    f_l_bit_row := f34
    d_l_bit_row := PySem.W.fnOf "_law_bit_row" "_law_bit_row" (defArgs s_l_bit_row) (defBody s_l_bit_row) (defScope s_l_bit_row) .none kV34 dc34 pm34 an34 cd34 ct34
    F_l_bit_row := F34
    b_l_bit_row := b34
    m_l_bit_row := PySem.W.mg_of X G a34
    f_law := fa
    d_law := PySem.W.fnOf "law" "law" (defArgs s_law) (defBody s_law) (defScope s_law) .none kV35 dc35 pm35 an35 cd35 ct35
    F_law := F35
    b_law := b35
    m_law := PySem.W.mg_of X G a35
    kb_ratio_near := kb_ratio_near
    jInt := h_jInt
    jBool := h_jBool
    jList := h_jList
    jStr := h_jStr
    jTuple := h_jTuple
  } )⟩
theorem walk {l : PySem.W.OpenLaw} {q : Program} {loose : List Str} {XP : (Str → Option Value) → Heap → Prop} {YP : World → Heap → Prop} {d : DefRec} {K : Params → PySem.W.Frag} (hn : l.most = some 63) (hdf : d.params.defaults = [])
    (hY : ∀ (w : World) (h : Heap), YP w h → (K w.params).In h)
    (F : ∀ (w : World) (mg : Str → Option Value) (fa : Addr) (h : Heap), (K w.params).In h → h.Ns mainGlobals mg → mg d.name = some (.ref fa) →
      ∃ fd : FuncData, (∀ (s : Shared) (u : Value), BindsTo s fd ⟨[u], []⟩ [("_law_script", u)]) ∧ ∀ base : Heap, (K w.params).In base → base.Ns mainGlobals mg → FnOk l.prog w (K w.params) mg base CX0 12 fa fd ["_law_script"] (spLaw (K w.params))) :
    PySem.W.WalkO q loose XP YP l.row.toRowW d [] (fun f vs => PySem.call f vs) :=
  L2.walk_of (n := 63) (k := 12) (x := "_law_script") (CX := fun _ => CX0) (sp := fun w => spLaw (K w.params)) hn (by decide) hdf ⟨rfl, by decide, by decide⟩ hY F (fun _ _ a ns hl _ hS => ⟨a, ns, rfl, hS, hl, fun _ => rfl⟩) fun _ _ _ _ _ z => z
end TL
open PySem PySem.W PyProof.Rows
set_option maxRecDepth 100000 in
set_option maxHeartbeats 0 in
theorem PySem.Challenge.cw_turnsleft_k38_ratios_near_one_holds : PySem.Challenge.rw_turnsleft_k38_ratios_near_one.Holds := by
  w_on; o_law; k_head; (case hw => w_witness2)
  k_fill
  refine TL.walk (l := PySem.Challenge.rw_turnsleft_k38_ratios_near_one) rfl rfl (fun w h Y => PySem.W.kIn_of Y) ?F
  case F =>
    intro w mg fa h KX G hmg
    refine' TL.all_mk KX G hmg ?z_len ?z_abs ?z_int ?z_isinstance ?z_list ?z_tuple ?z_bool ?z_str ?z_all ?z_any ?z_zip ?z_range ?z_enumerate ?z_divmod ?z_max ?z_min ?z_reversed ?z_sum ?aC_Ratio ?pg_Ratio ?hd_Ratio ?po_Ratio ?sa_Ratio ?n_Ratio_over ?n_Ratio_under ?n_Ratio_powers ?ca_Ratio ?cm_Ratio ?cn_Ratio ?ct_Ratio ?aE_PRIMES ?lE_PRIMES ?vE_PRIMES ?aE_NO_POWERS ?lE_NO_POWERS ?vE_NO_POWERS ?aE_LOGS ?lE_LOGS ?vE_LOGS ?gb_gcd ?gi_SLACK ?gi_MANY ?gi_BASE ?gi_HALF ?gi_BEHIND ?gi_CLOSE ?a1 ?l1 ?c1 ?k1 ?a2 ?l2 ?c2 ?k2 ?a3 ?i3 ?l3 ?c3 ?k3 ?lT3 ?vT3 ?mk_Ratio ?kc_Ratio ?a4 ?i4 ?l4 ?c4 ?k4 ?a5 ?i5 ?l5 ?c5 ?k5 ?a6 ?i6 ?l6 ?c6 ?k6 ?a7 ?l7 ?c7 ?k7 ?a8 ?l8 ?c8 ?k8 ?a9 ?l9 ?c9 ?k9 ?a10 ?l10 ?c10 ?k10 ?a11 ?l11 ?c11 ?k11 ?a12 ?l12 ?c12 ?k12 ?a13 ?l13 ?c13 ?k13 ?a14 ?l14 ?c14 ?k14 ?a15 ?l15 ?c15 ?k15 ?a16 ?l16 ?c16 ?k16 ?a17 ?l17 ?c17 ?k17 ?a18 ?l18 ?c18 ?k18 ?a19 ?l19 ?c19 ?k19 ?a20 ?l20 ?c20 ?k20 ?a21 ?l21 ?c21 ?k21 ?a22 ?l22 ?c22 ?k22 ?a23 ?l23 ?c23 ?k23 ?a24 ?l24 ?c24 ?k24 ?a25 ?l25 ?c25 ?k25 ?a26 ?l26 ?c26 ?k26 ?a27 ?l27 ?c27 ?k27 ?a28 ?l28 ?c28 ?k28 ?a29 ?l29 ?c29 ?k29 ?a30 ?l30 ?c30 ?k30 ?a31 ?l31 ?c31 ?k31 ?a32 ?l32 ?c32 ?k32 ?a33 ?l33 ?c33 ?k33 ?a34 ?l34 ?c34 ?k34 ?a35 ?l35 ?c35 ?k35 ?h_jInt ?h_jBool ?h_jList ?h_jStr ?h_jTuple
    (case z_len => k_is)
    (case z_abs => k_is)
    (case z_int => k_is)
    (case z_isinstance => k_is)
    (case z_list => k_is)
    (case z_tuple => k_is)
    (case z_bool => k_is)
    (case z_str => k_is)
    (case z_all => k_is)
    (case z_any => k_is)
    (case z_zip => k_is)
    (case z_range => k_is)
    (case z_enumerate => k_is)
    (case z_divmod => k_is)
    (case z_max => k_is)
    (case z_min => k_is)
    (case z_reversed => k_is)
    (case z_sum => k_is)
    (case aC_Ratio => k_is)
    (case pg_Ratio => k_is)
    (case hd_Ratio => k_is)
    (case po_Ratio => k_is)
    (case sa_Ratio => k_is)
    (case n_Ratio_over => k_is)
    (case n_Ratio_under => k_is)
    (case n_Ratio_powers => k_is)
    (case ca_Ratio => k_is)
    (case cm_Ratio => k_is)
    (case cn_Ratio => k_is)
    (case ct_Ratio => k_is)
    (case aE_PRIMES => k_is)
    (case lE_PRIMES => k_is)
    (case vE_PRIMES => exact ⟨_, _, rfl, rfl, by decide, .cons ⟨_, rfl⟩ (.cons ⟨_, rfl⟩ (.cons ⟨_, rfl⟩ (.cons ⟨_, rfl⟩ (.cons ⟨_, rfl⟩ (.cons ⟨_, rfl⟩ (.nil))))))⟩)
    (case aE_NO_POWERS => k_is)
    (case lE_NO_POWERS => k_is)
    (case vE_NO_POWERS => exact ⟨_, _, rfl, rfl, by decide, .cons ⟨_, rfl⟩ (.cons ⟨_, rfl⟩ (.cons ⟨_, rfl⟩ (.cons ⟨_, rfl⟩ (.cons ⟨_, rfl⟩ (.cons ⟨_, rfl⟩ (.nil))))))⟩)
    (case aE_LOGS => k_is)
    (case lE_LOGS => k_is)
    (case vE_LOGS => exact ⟨_, _, rfl, rfl, by decide, .cons ⟨_, rfl⟩ (.cons ⟨_, rfl⟩ (.cons ⟨_, rfl⟩ (.cons ⟨_, rfl⟩ (.cons ⟨_, rfl⟩ (.cons ⟨_, rfl⟩ (.nil))))))⟩)
    (case gb_gcd => k_is)
    (case gi_SLACK => k_is)
    (case gi_MANY => k_is)
    (case gi_BASE => k_is)
    (case gi_HALF => k_is)
    (case gi_BEHIND => k_is)
    (case gi_CLOSE => k_is)
    (case a1 => k_is)
    (case l1 => k_is)
    (case c1 => k_is)
    (case k1 => k_is)
    (case a2 => k_is)
    (case l2 => k_is)
    (case c2 => k_is)
    (case k2 => k_is)
    (case a3 => k_is)
    (case i3 => k_is)
    (case l3 => k_is)
    (case c3 => k_is)
    (case k3 => k_is)
    (case lT3 => k_is)
    (case vT3 => exact ⟨[_], _, rfl, .cons ⟨_, rfl⟩ .nil⟩)
    (case mk_Ratio => k_is)
    (case kc_Ratio => k_is)
    (case a4 => k_is)
    (case i4 => k_is)
    (case l4 => k_is)
    (case c4 => k_is)
    (case k4 => k_is)
    (case a5 => k_is)
    (case i5 => k_is)
    (case l5 => k_is)
    (case c5 => k_is)
    (case k5 => k_is)
    (case a6 => k_is)
    (case i6 => k_is)
    (case l6 => k_is)
    (case c6 => k_is)
    (case k6 => k_is)
    (case a7 => k_is)
    (case l7 => k_is)
    (case c7 => k_is)
    (case k7 => k_is)
    (case a8 => k_is)
    (case l8 => k_is)
    (case c8 => k_is)
    (case k8 => k_is)
    (case a9 => k_is)
    (case l9 => k_is)
    (case c9 => k_is)
    (case k9 => k_is)
    (case a10 => k_is)
    (case l10 => k_is)
    (case c10 => k_is)
    (case k10 => k_is)
    (case a11 => k_is)
    (case l11 => k_is)
    (case c11 => k_is)
    (case k11 => k_is)
    (case a12 => k_is)
    (case l12 => k_is)
    (case c12 => k_is)
    (case k12 => k_is)
    (case a13 => k_is)
    (case l13 => k_is)
    (case c13 => k_is)
    (case k13 => k_is)
    (case a14 => k_is)
    (case l14 => k_is)
    (case c14 => k_is)
    (case k14 => k_is)
    (case a15 => k_is)
    (case l15 => k_is)
    (case c15 => k_is)
    (case k15 => k_is)
    (case a16 => k_is)
    (case l16 => k_is)
    (case c16 => k_is)
    (case k16 => k_is)
    (case a17 => k_is)
    (case l17 => k_is)
    (case c17 => k_is)
    (case k17 => k_is)
    (case a18 => k_is)
    (case l18 => k_is)
    (case c18 => k_is)
    (case k18 => k_is)
    (case a19 => k_is)
    (case l19 => k_is)
    (case c19 => k_is)
    (case k19 => k_is)
    (case a20 => k_is)
    (case l20 => k_is)
    (case c20 => k_is)
    (case k20 => k_is)
    (case a21 => k_is)
    (case l21 => k_is)
    (case c21 => k_is)
    (case k21 => k_is)
    (case a22 => k_is)
    (case l22 => k_is)
    (case c22 => k_is)
    (case k22 => k_is)
    (case a23 => k_is)
    (case l23 => k_is)
    (case c23 => k_is)
    (case k23 => k_is)
    (case a24 => k_is)
    (case l24 => k_is)
    (case c24 => k_is)
    (case k24 => k_is)
    (case a25 => k_is)
    (case l25 => k_is)
    (case c25 => k_is)
    (case k25 => k_is)
    (case a26 => k_is)
    (case l26 => k_is)
    (case c26 => k_is)
    (case k26 => k_is)
    (case a27 => k_is)
    (case l27 => k_is)
    (case c27 => k_is)
    (case k27 => k_is)
    (case a28 => k_is)
    (case l28 => k_is)
    (case c28 => k_is)
    (case k28 => k_is)
    (case a29 => k_is)
    (case l29 => k_is)
    (case c29 => k_is)
    (case k29 => k_is)
    (case a30 => k_is)
    (case l30 => k_is)
    (case c30 => k_is)
    (case k30 => k_is)
    (case a31 => k_is)
    (case l31 => k_is)
    (case c31 => k_is)
    (case k31 => k_is)
    (case a32 => k_is)
    (case l32 => k_is)
    (case c32 => k_is)
    (case k32 => k_is)
    (case a33 => k_is)
    (case l33 => k_is)
    (case c33 => k_is)
    (case k33 => k_is)
    (case a34 => k_is)
    (case l34 => k_is)
    (case c34 => k_is)
    (case k34 => k_is)
    (case a35 => k_is)
    (case l35 => k_is)
    (case c35 => k_is)
    (case k35 => k_is)
    (case h_jInt => first | rfl | k_is)
    (case h_jBool => first | rfl | k_is)
    (case h_jList => first | rfl | k_is)
    (case h_jStr => first | rfl | k_is)
    (case h_jTuple => first | rfl | k_is)
