import PyProof.Rows.All
import Wide.All
import OpenK.AllK
import Wide.FinOn
import HandS.ForMost
import HandS.OwnEq
import HandS.SlotsOwn
import KE.KOpsOwn
import PyProof.ListMulAny
import PyProof.ConsumeWalk
import PyProof.WalksMore
import HandS.IsInst
import HandS.Wide
import HandS.Zip
import HandS.Defaults
import HandS.Walk
import KE.BitLaws
import KE.KCallOwn
import HandS.ClsMeth
import HandS.MakeKwOnly
import HandS.List
import PyProof.WalkInts
import HandS.RevRange
import HandS.Conv
import HandS.Gcd
import HandS.Property
import HandS.WideBits
import HandS.Iter
import KE.GoesEnum
import KE.GoesZip
import HandS.FStr
import HandS.Style
import PySem.Challenge.RW_turnsleft_k08_whole_wedges_of_ratios
set_option Elab.async false
set_option linter.all false
set_option maxRecDepth 100000
namespace TL
open PySem PySem.Spec PyProof.Rows L2
section
variable {X : Cx} {pins : List (Addr × Obj)} {σ : L2.St} {H : Hp} {s : Shared} {a b C dx dy f : Addr} {fs gs : List (Str × V)} {k : Nat} {fd : FuncData} {ps : List Str} {sp : Sp} {CX : CXT} {E : XK}
theorem inst_at (I : Inv X pins σ H s) (h : H a = some (.ins C dx fs)) : ∃ od, PySem.W.InstAt s.heap a (PySem.W.instObj C dx) C (some od) := by
  obtain ⟨mA, J, _⟩ := ins_get I.hok h
  obtain ⟨od, J, _⟩ := J.look
  exact ⟨od, J⟩
/-- what an own operator's def asks: the def that stands at f in the class at C under a name -/
structure OpAt (K : PySem.W.Frag) (C f : Addr) (name : Str) : Prop where
  sf : PySem.W.selfFirst K C = true
  at_ : PySem.W.findIn K (.ref C) name = some (some (.ref f))
  fn : PySem.W.isFn K (.ref f) = true
/-- x op y, both instances of the class at C -/
def rOw (C : Addr) (sp : Sp) (E : XK) : R2 := fun x y H Q => ∃ a dx fs b dy gs, x = .ref a ∧ y = .ref b ∧ H a = some (.ins C dx fs) ∧ H b = some (.ins C dy gs) ∧ sp [x, y] H Q E
theorem cb {P : Value → Shared → Prop} {z : V} {v : Value} {s' : Shared} (r : RelV z v) (h : P v s') : PySem.W.CmpBack P v s' := by
  cases z with
  | non => cases (show v = Value.none from r); exact h
  | bl b => cases (show v = Value.bool b from r); exact h
  | int i => obtain ⟨t, e⟩ := (show ∃ t, v = Value.int i t from r); cases e; exact h
  | str x => obtain ⟨t, e⟩ := (show ∃ t, v = Value.str x t from r); cases e; exact h
  | byt b => obtain ⟨t, e⟩ := (show ∃ t, v = Value.bytes b t from r); cases e; exact h
  | flt b => obtain ⟨t, e⟩ := (show ∃ t, v = Value.float b t from r); cases e; exact h
  | ref a => cases (show v = Value.ref a from r); exact h
  | ty n => cases (show v = Value.type n from r); exact h
theorem op_ow {op : Operator} (o : OpAt X.K C f (PySem.dunder op.info.2)) (F : FnOk X.prog X.w X.K X.mg X.base CX k f fd ps sp) (hr : Room k X.A) (hb : Binds X.K fd ps []) (hx : Passes CX X E) : OpR X (binaryOp op) (rOw C sp E) := by
  intro pins s σ H x y v u Q I rx ry h
  obtain ⟨a, dx, fs, b, dy, gs, rfl, rfl, ha, hb', q⟩ := h
  cases (show v = Value.ref a from rx)
  cases (show u = Value.ref b from ry)
  obtain ⟨od, J⟩ := inst_at I ha
  obtain ⟨od', J'⟩ := inst_at I hb'
  obtain ⟨m, hF⟩ := I.fr
  refine PySem.W.binop_K hF I.ok.mod.kin J J'.type o.sf o.at_ o.fn ?_
  refine wpAny_mono (run_fn (us := [.ref a, .ref b]) (vs := [.ref a, .ref b]) F hr hb .nil hx I (.cons rfl (.cons rfl .nil)) q) (fun w s' z => ?_) fun _ _ x => x
  obtain ⟨z', H', I', rz, qz⟩ := z
  exact cb rz ⟨z', H', I', rz, qz⟩
/-- x op n, x an instance of the class at C, n a whole number -/
def rOwI (C : Addr) (sp : Sp) (E : XK) : R2 := fun x y H Q => ∃ a dx fs n, x = .ref a ∧ y = .int n ∧ H a = some (.ins C dx fs) ∧ sp [x, y] H Q E
theorem op_owI {op : Operator} {g : Addr} {fo ro : Option Value} (o : OpAt X.K C f (PySem.dunder op.info.2)) (hr1 : PySem.W.findIn X.K (.ref C) (PySem.dunderR op.info.2) = some (some (.ref g)))
    (h1 : PySem.W.findIn X.K (.type "int") (PySem.dunder op.info.2) = some fo) (h2 : PySem.W.findIn X.K (.type "int") (PySem.dunderR op.info.2) = some ro) (hsub : PySem.W.subIn X.K (.type "int") (.ref C) = some false)
    (F : FnOk X.prog X.w X.K X.mg X.base CX k f fd ps sp) (hr : Room k X.A) (hb : Binds X.K fd ps []) (hx : Passes CX X E) : OpR X (binaryOp op) (rOwI C sp E) := by
  intro pins s σ H x y v u Q I rx ry h
  obtain ⟨a, dx, fs, n, rfl, rfl, ha, q⟩ := h
  cases (show v = Value.ref a from rx)
  obtain ⟨t, rfl⟩ := (show ∃ t, u = Value.int n t from ry)
  obtain ⟨od, J⟩ := inst_at I ha
  obtain ⟨m, hF⟩ := I.fr
  refine PySem.W.ksp_binT (T := "int") hF I.ok.mod.kin J rfl o.sf o.at_ o.fn hr1 (.inr ⟨_, rfl⟩) h1 h2 hsub ?_
  refine wpAny_mono (run_fn (us := [.ref a, .int n t]) (vs := [.ref a, .int n]) F hr hb .nil hx I (.cons rfl (.cons ⟨_, rfl⟩ .nil)) q) (fun w s' z => ?_) fun _ _ x => x
  obtain ⟨z', H', I', rz, qz⟩ := z
  exact cb rz ⟨z', H', I', rz, qz⟩
/-- -x -/
def rNeg (C : Addr) (sp : Sp) (E : XK) : V → Hp → VK → Prop := fun x H Q => ∃ a dx fs, x = .ref a ∧ H a = some (.ins C dx fs) ∧ sp [x] H Q E
theorem un_ow (at_ : PySem.W.findIn X.K (.ref C) "__neg__" = some (some (.ref f))) (fn : PySem.W.isFn X.K (.ref f) = true) (F : FnOk X.prog X.w X.K X.mg X.base CX k f fd ps sp) (hr : Room k X.A) (hb : Binds X.K fd ps []) (hx : Passes CX X E) :
    UnR X (unaryOp .USub) (rNeg C sp E) := by
  intro pins s σ H x v Q I rx h
  obtain ⟨a, dx, fs, rfl, ha, q⟩ := h
  cases (show v = Value.ref a from rx)
  obtain ⟨od, J⟩ := inst_at I ha
  obtain ⟨m, hF⟩ := I.fr
  refine PySem.W.ksp_neg hF I.ok.mod.kin J at_ fn ?_
  exact run_fn (us := [.ref a]) (vs := [.ref a]) F hr hb .nil hx I (.cons rfl .nil) q
/-- x == y, both instances of the class at C -/
theorem op_owEq (at_ : PySem.W.findIn X.K (.ref C) "__eq__" = some (some (.ref f))) (fn : PySem.W.isFn X.K (.ref f) = true) (F : FnOk X.prog X.w X.K X.mg X.base CX k f fd ps sp) (hr : Room k X.A) (hb : Binds X.K fd ps []) (hx : Passes CX X E) :
    OpR X (compareOp .Eq) (rOw C sp E) := by
  intro pins s σ H x y v u Q I rx ry h
  obtain ⟨a, dx, fs, b, dy, gs, rfl, rfl, ha, hb', q⟩ := h
  cases (show v = Value.ref a from rx)
  cases (show u = Value.ref b from ry)
  obtain ⟨od, J⟩ := inst_at I ha
  obtain ⟨od', J'⟩ := inst_at I hb'
  obtain ⟨m, hF⟩ := I.fr
  refine PySem.W.cmp_K (op := .Eq) (tb := .ref C) hr.units0 hF I.ok.mod.kin J J'.type (by simp [PySem.W.notFirst]) at_ fn ?_
  refine wpAny_mono (run_fn (us := [.ref a, .ref b]) (vs := [.ref a, .ref b]) F hr hb .nil hx I (.cons rfl (.cons rfl .nil)) q) (fun w s' z => ?_) fun _ _ x => x
  obtain ⟨z', H', I', rz, qz⟩ := z
  exact cb rz ⟨z', H', I', rz, qz⟩
/-- any(t), t a tuple of whole numbers -/
theorem iter_anyT {prog : Program} {w : World} {A : Around} {E : Value → Shared → Prop} {s : Shared} {l : Addr} {items : Array Value} {Q : Value → Shared → Prop} (hl : s.heap.IsTuple l items)
    (h : ∀ s₂ : Shared, s₂ = { s with heap := s.heap.push { cls := .type "tuple_iterator", data := .fields #[.ref l, .int 0 0] } } →
      (s₂.heap.IsTupleIter s.heap.objs.size l 0 ∧ s₂.heap.IsTuple l items) → l ≠ s.heap.objs.size → Q (.ref s.heap.objs.size) s₂) : wpAny (model prog w) A (pyIter (.ref l)) Q E s := by
  have hlt : l < s.heap.objs.size := by obtain ⟨_, e, _⟩ := hl; exact Heap.lt_size e
  exact wpAny_pyIter_tuple hl (h _ rfl ⟨⟨_, Heap.get?_push_size _ rfl, rfl, rfl⟩, hl.push _⟩ (Nat.ne_of_lt hlt))
theorem truth_ints {prog : Program} {w : World} {A : Around} {ns : List Int} {its : List Value} (e : Vals (ns.map V.int) its) :
    TruthOf prog w A (fun i v => its.toArray[i]? = some v) (fun i => ns.getD i 0 != 0) := fun i v s Q E hv hq => by
  have hv' : its[i]? = some v := by simpa using hv
  have hl := e.length
  rw [List.length_map] at hl
  have hi : i < its.length := (List.getElem?_eq_some_iff.mp hv').1
  have hi2 : i < ns.length := by omega
  obtain ⟨u, hu, ru⟩ := e.get (i := i) (x := V.int ns[i]) (by rw [List.getElem?_map, List.getElem?_eq_getElem hi2]; rfl)
  rw [hv'] at hu
  cases hu
  obtain ⟨t, rfl⟩ := ru
  have hg : ns.getD i 0 = ns[i] := by rw [List.getD_eq_getElem?_getD, List.getElem?_eq_getElem hi2]; rfl
  have hq' : Q (ns.getD i 0 != 0) s := hq
  rw [hg] at hq'
  exact PyProof.Rows.truthy_int hq'
theorem any_rangeI : ∀ ns : List Int, (List.range ns.length).any (fun i => ns.getD i 0 != 0) = ns.any (fun n => n != 0)
  | [] => rfl
  | b :: bs => by
    rw [List.length_cons, List.range_succ_eq_map, List.any_cons, List.any_map, List.any_cons, ← any_rangeI bs]
    all_goals rfl
def rAnyT (K : PySem.W.Frag) : List V → Hp → VK → Prop := fun vs H Q => ∃ (a : Addr) (ns : List Int), vs = [V.ref a] ∧ SqT K H a (ns.map V.int) ∧ Q (.bl (ns.any fun n => n != 0)) H
theorem cr_anyT (hc : X.calm = true) : CallR X (.builtin "any") (rAnyT X.K) := by
  intro pins s σ H vs us Q I r h
  obtain ⟨a, ns, rfl, hs, q⟩ := h
  obtain ⟨its, rv, hl, _⟩ := I.tuple hs
  rw [Vals.ref1 r]
  have hlen := rv.length
  rw [List.length_map] at hlen
  refine call_any_walk (iter_anyT (items := its.toArray) (show s.heap.IsTuple a its.toArray from hl) fun s₂ e2 st hne => ?_)
  subst e2
  refine ⟨_, _, _, _, _, _, _, rfl, Walks.tuple (A := X.A.in1) (I.ok.hd hc) _ a hne its.toArray, st, truth_ints rv, fun h' tk hk => ?_⟩
  refine ⟨.bl _, H, I.kept fun b o eo => hk b o (fun hmem => ?_) (Heap.get?_push_of_some _ eo), ?_, q⟩
  · rcases List.mem_cons.mp hmem with e1 | hmem
    · exact absurd (e1 ▸ Heap.lt_size eo) (Nat.lt_irrefl _)
    · cases hmem
  · show Value.bool _ = Value.bool _
    rw [← any_rangeI, List.size_toArray, ← hlen]
/-- bool(x), x an instance with its own __bool__ -/
theorem truthy_X {M : Model} {A : Around} {E' : Value → Shared → Prop} {s : Shared} {K : PySem.W.Frag} {x C f : Addr} {ox : Obj} {od : Option Obj} {Q : Bool → Shared → Prop} (X₀ : K.In s.heap) (I : PySem.W.InstAt s.heap x ox C od) (hs : PySem.W.findIn K (.ref C) "__bool__" = some (some (.ref f))) (hf : PySem.W.isFn K (.ref f) = true)
    (h : wpAny M A (call (.ref f) [.ref x]) (fun r s' => ∃ b, r = Value.bool b ∧ Q b s') E' s) : wpAny M A (truthy (.ref x)) Q E' s := by
  unfold truthy
  refine wpAny_bind (m := callSpecial? (.ref x) (Str.ofString "__bool__")) (PySem.W.special_fn X₀ I hs (beq_iff_eq.mp hf) (wpAny_mono h (fun r s' hr => ?_) fun _ _ y => y))
  obtain ⟨b, rfl, hr⟩ := hr
  exact wpAny_pure hr
theorem bool_own {prog : Program} {w : World} {A : Around} {E' : Value → Shared → Prop} {s : Shared} {K : PySem.W.Frag} {x C f : Addr} {ox : Obj} {od : Option Obj} {Q : Value → Shared → Prop} (X₀ : K.In s.heap) (I : PySem.W.InstAt s.heap x ox C od) (hs : PySem.W.findIn K (.ref C) "__bool__" = some (some (.ref f))) (hf : PySem.W.isFn K (.ref f) = true)
    (h : wpAny (model prog w) A.in1.in1 (call (.ref f) [.ref x]) (fun r s' => ∃ b, r = Value.bool b ∧ Q r s') E' s) : wpAny (model prog w) A (call (.type "bool") [.ref x]) Q E' s := by
  refine callType_codes (T := "bool") (Bi := Builtin.«object.__init__») (Q₁ := fun r s₁ => ∃ b, r = Value.bool b ∧ Q r s₁) PySem.F.called_bool (PySem.F.typeCall_bool_1 _) PySem.F.entry_object_init ?_ ?_
  · refine codeAny_of_tree ?_
    show wpAny _ A.in1.in1 (do checkBuiltinCall "bool.__new__" ⟨[.type "bool", .ref x], []⟩; again (.builtin "bool.__new__" ⟨[.type "bool", .ref x], []⟩)) _ _ s
    refine wpAny_bind (wpAny_of_eq (PySem.F.newCall_bool_1 _) (wpAny_pure ⟨plainId_quiet (by decide +kernel) _, codeAny_builtin PySem.F.entry_bool_new ?_⟩))
    rw [Around.under_plainId (by decide +kernel) _]
    unfold Builtin.«bool.__new__»
    refine wpAny_bind (wpAny_of_eq (a := true) rfl ?_)
    refine PySem.W.KFB.if_not rfl ?_
    refine wpAny_bind (wpAny_of_eq (a := true) PySem.F.conv_sub_bool ?_)
    refine PySem.W.KFB.if_not rfl ?_
    refine wpAny_bind (wpAny_of_eq (a := [Value.ref x]) rfl ?_)
    refine wpAny_bind (truthy_X X₀ I hs hf (wpAny_mono h (fun r s₁ hr => ?_) fun _ _ y => y))
    obtain ⟨b, rfl, hq⟩ := hr
    exact ⟨b, rfl, wpAny_pure ⟨b, rfl, hq⟩⟩
  · rintro obj s₁ ⟨b, rfl, hq⟩
    exact ⟨PySem.typeIs_bool _ _, PySem.F.args_object_init_2 _ _, object_init_meets PySem.F.called_bool.init.lookup PySem.F.called_bool.made (by decide) prog w A.in1 _ s₁ ⟨PySem.typeIs_bool _ _, rfl, hq⟩⟩
def rBoolOw (C : Addr) (sp : Sp) (E : XK) : List V → Hp → VK → Prop := fun vs H Q => ∃ a dx fs, vs = [.ref a] ∧ H a = some (.ins C dx fs) ∧ sp [.ref a] H (fun v H' => ∃ b, v = .bl b ∧ Q v H') E
theorem run_at2 {A : Around} {Q : VK} {us : List Value} {ws : List V} (F : FnOk X.prog X.w X.K X.mg X.base CX k f fd ps sp) (hr : Room k A) (e0 : Env0 X.prog X.w X.K X.mg X.base A X.stack s H) (hb : Binds X.K fd ps []) (hx : Passes CX X E) (I : Inv X pins σ H s) (r : Vals ws us) (h : sp ws H Q E) :
    wpAny (model X.prog X.w) A (call (.ref f) us) (EP X pins σ Q) X.xe s := by
  have hl : us.length = ps.length := by rw [← r.length]; exact F.len _ _ _ _ h
  refine wpAny_call (codeAny_mono (F.run A X.stack s H ⟨us, []⟩ us ws Q E hr e0 (by have := hb s us I.kIn (by simpa using hl); simpa using this) r h) fun r s' hq => ?_)
  cases r with
  | error e => exact hx pins σ H s e s' I hq
  | ok fl =>
    cases fl with
    | ret u => exact I.after hq
    | next => exact False.elim hq
    | brk => exact False.elim hq
    | cont => exact False.elim hq
theorem call_boolOw (at_ : PySem.W.findIn X.K (.ref C) "__bool__" = some (some (.ref f))) (fn : PySem.W.isFn X.K (.ref f) = true) (F : FnOk X.prog X.w X.K X.mg X.base CX k f fd ps sp) (hr : Room (k + 2) X.A) (hb : Binds X.K fd ps []) (hx : Passes CX X E) :
    CallR X (.type "bool") (rBoolOw C sp E) := by
  intro pins s σ H vs us Q I r h
  obtain ⟨a, dx, fs, rfl, ha, q⟩ := h
  obtain rfl := Vals.ref1 r
  obtain ⟨od, J⟩ := inst_at I ha
  have hr2 : Room k X.A.in1.in1 := (show Room (k + 1) X.A.in1 from Room.in1 hr).in1
  refine bool_own I.kIn J at_ fn (wpAny_mono (run_at2 (us := [.ref a]) (ws := [.ref a]) F hr2 I.env0.in1.in1 hb hx I (.cons rfl .nil) q) (fun w s' z => ?_) fun _ _ x => x)
  obtain ⟨z', H', I', rz, b, rfl, qz⟩ := z
  cases (show w = Value.bool b from rz)
  exact ⟨b, rfl, .bl b, H', I', rfl, qz⟩
/-- n op x, n a whole number, x an instance of the class at C with the reflected def -/
theorem int_mul_ref (a : Int) (t : Tok) (x C dx : Addr) :
    Meets (Builtin.«int.__mul__» ⟨[.int a t, .ref x], []⟩) (fun _ R s => (∃ od, s.heap.get? x = some (PySem.W.instObj C dx) ∧ od = dx) ∧ R (.ok (.ret Value.notImplemented)) s) :=
  .of_wp fun prog w A R s h => by obtain ⟨hp, g, d, tk, os⟩ := s; obtain ⟨⟨_, hl, _⟩, h⟩ := h; wp_walk; exact ⟨_, rfl, h⟩
def rIOw (C : Addr) (sp : Sp) (E : XK) : R2 := fun x y H Q => ∃ a dx fs n, x = .int n ∧ y = .ref a ∧ H a = some (.ins C dx fs) ∧ sp [y, x] H Q E
set_option maxHeartbeats 2000000 in
theorem binR {prog : Program} {w : World} {A : Around} {E' : Value → Shared → Prop} {s : Shared} {K : PySem.W.Frag} {x C f g : Addr} {dx : Addr} {od : Option Obj} {n : Int} {t : Tok} {Q : Value → Shared → Prop}
    (X : K.In s.heap) (I : PySem.W.InstAt s.heap x (PySem.W.instObj C dx) C od) (hc : PySem.W.selfFirst K C = true) (hs : PySem.W.findIn K (.ref C) (PySem.dunder "mul") = some (some (.ref g)))
    (hr : PySem.W.findIn K (.ref C) (PySem.dunderR "mul") = some (some (.ref f))) (hf : PySem.W.isFn K (.ref f) = true) (hsub : PySem.W.subIn K (.ref C) (.type "int") = some false) (hx : s.heap.get? x = some (PySem.W.instObj C dx))
    (h : wpAny (model prog w) A (call (.ref f) [.ref x, .int n t]) (PySem.W.CmpBack Q) E' s) : wpAny (model prog w) A (binaryOp .Mult (.int n t) (.ref x)) Q E' s := by
  obtain ⟨cd, rest, hcd, hm⟩ := PySem.W.ksp_first hc
  have one := PySem.W.ksp_try (name := PySem.dunderR "mul") X I hr hf h
  obtain ⟨hh, gg, d, tt, os⟩ := s
  have L1 : PySem.W.Looks (model prog w) hh (typeOf (.ref x)) (.ref C) := I.type
  have L2 : PySem.W.Looks (model prog w) hh (typeOf (.int n t)) (.type "int") := PySem.W.Looks.of_pure rfl
  have L3 : PySem.W.Looks (model prog w) hh (fillsNumberSlot (.ref C) "mul") true := PySem.W.fills_K (nm := "mul") X hcd hm hs
  have L4 : PySem.W.Looks (model prog w) hh (fillsNumberSlot (.type "int") "mul") true := PySem.W.Looks.of_pure PySem.F.fills_int_mul
  have L5 : PySem.W.Looks (model prog w) hh (isSubtype (.ref C) (.type "int")) false := PySem.W.looks_subIn X hsub
  have L7 : PySem.W.Looks (model prog w) hh (numberSlotInPython (.type "int") "mul") false := PySem.W.Looks.of_pure rfl
  have hne : (Value.type "int" == Value.ref C) = false := Bool.eq_false_iff.mpr fun q => by cases beq_iff_eq.mp q
  show wpAny _ _ (binaryOp .Mult (.int n t) (.ref x)) _ _ _
  simp only [binaryOp, Operator.info]
  refine wpAny_holding (wpAny_bind ?_)
  unfold binaryOp1
  refine wpAny_bind (L2.at (wpAny_bind (L1.at (wpAny_bind (L4.at ?_)))))
  simp only [hne, Bool.false_eq_true, if_false]
  refine wpAny_bind (L3.at ?_)
  simp only [Bool.and_self, if_true]
  refine wpAny_bind (L5.at ?_)
  simp only [Bool.false_eq_true, if_false, Bool.not_false, Bool.and_self, if_true, pure_bind]
  refine wpAny_bind (L7.at ?_)
  simp only [Bool.false_eq_true, if_false, pure_bind]
  refine wpAny_bind (wpAny_tryMethod_declines (PySem.typeIs_int _ n t) PySem.F.slot_int_mul (call_meets PySem.F.slot_int_mul (PySem.typeIs_int _ n t) PySem.F.entry_int_mul (PySem.F.args_int_mul_2 _ _) (int_mul_ref n t x C dx) ⟨⟨dx, hx, rfl⟩, rfl, ?_⟩))
  simp only [Bool.false_eq_true, if_false, pure_bind]
  refine wpAny_bind (wpAny_mono one (fun r s' hr' => ?_) fun _ _ e => e)
  obtain ⟨v, rfl, hq⟩ := hr'
  exact wpAny_bind (wpAny_rule (wpAny_pure (wpAny_pure hq)))
theorem op_IOw (o : OpAt X.K C f (PySem.dunderR "mul")) {g : Addr} (hm : PySem.W.findIn X.K (.ref C) (PySem.dunder "mul") = some (some (.ref g))) (hsub : PySem.W.subIn X.K (.ref C) (.type "int") = some false)
    (F : FnOk X.prog X.w X.K X.mg X.base CX k f fd ps sp) (hr : Room k X.A) (hb : Binds X.K fd ps []) (hx : Passes CX X E) : OpR X (binaryOp .Mult) (rIOw C sp E) := by
  intro pins s σ H x y v u Q I rx ry h
  obtain ⟨a, dx, fs, n, rfl, rfl, ha, q⟩ := h
  obtain ⟨t, rfl⟩ := (show ∃ t, v = Value.int n t from rx)
  cases (show u = Value.ref a from ry)
  obtain ⟨mA, O, _⟩ := ins_get I.hok ha
  obtain ⟨od, J, _⟩ := O.look
  refine binR I.kIn J o.sf hm o.at_ o.fn hsub O.obj ?_
  refine wpAny_mono (run_fn (us := [.ref a, .int n t]) (vs := [.ref a, .int n]) F hr hb .nil hx I (.cons rfl (.cons ⟨_, rfl⟩ .nil)) q) (fun w s' z => ?_) fun _ _ x => x
  obtain ⟨z', H', I', rz, qz⟩ := z
  exact cb rz ⟨z', H', I', rz, qz⟩
end
theorem d_add : PySem.dunder Operator.Add.info.2 = ("__add__" : Str) := by decide +kernel
theorem d_sub : PySem.dunder Operator.Sub.info.2 = ("__sub__" : Str) := by decide +kernel
theorem d_mul : PySem.dunder Operator.Mult.info.2 = ("__mul__" : Str) := by decide +kernel
theorem d_mul' : PySem.dunder "mul" = ("__mul__" : Str) := by decide +kernel
theorem d_rmul : PySem.dunderR Operator.Mult.info.2 = ("__rmul__" : Str) := by decide +kernel
theorem d_rmul' : PySem.dunderR "mul" = ("__rmul__" : Str) := by decide +kernel
end TL
namespace TL
open PySem L2
/-! ### heaps -/
theorem Same.new {H : Hp} {p : Addr} {o : HO} (h : H p = none) : Same H (upd H p o) := fun b u q => by rw [upd_ne (ne_of_none q h)]; exact q
theorem seqT {K : PySem.W.Frag} {H H' : Hp} {a : Addr} {xs : List V} (e : Same H H') (h : SqT K H a xs) : SqT K H' a xs := by
  rcases h with (h | ⟨o, h⟩) | h
  · exact .inl (.inl (e _ _ h))
  · exact .inl (.inr ⟨o, e _ _ h⟩)
  · exact .inr h
/-- but for what stands at g, all that was tracked is as it was -/
def Kb (g : Addr) (H H' : Hp) : Prop := ∀ a o, H a = some o → a ≠ g → H' a = some o
theorem Kb.refl (g : Addr) (H : Hp) : Kb g H H := fun _ _ h _ => h
theorem Kb.trans {g : Addr} {H H1 H2 : Hp} (a : Kb g H H1) (b : Kb g H1 H2) : Kb g H H2 := fun c o h n => b c o (a c o h n) n
theorem Kb.same {g : Addr} {H H' : Hp} (a : Same H H') : Kb g H H' := fun c o h _ => a c o h
theorem Kb.at {g : Addr} {H : Hp} {o : HO} : Kb g H (upd H g o) := fun c u h n => by rw [upd_ne n]; exact h
theorem Kb.new {g p : Addr} {H H' : Hp} {o : HO} (a : Kb g H H') (h : H' p = none) : Kb g H (upd H' p o) := a.trans (Kb.same (Same.new h))
theorem tyx_L {K : PySem.W.Frag} {H : Hp} {a : Addr} {xs : List V} (h : SqL K H a xs) : TyX K H (.ref a) (.type "list") := by
  rcases h with (h | ⟨o, h⟩) | ⟨o, its, n, h, c, _⟩
  · exact .base (.lst h)
  · exact .base (.frz h)
  · exact .kList h c
theorem tyx_T {K : PySem.W.Frag} {H : Hp} {a : Addr} {xs : List V} (h : SqT K H a xs) : TyX K H (.ref a) (.type "tuple") := by
  rcases h with (h | ⟨o, h⟩) | ⟨o, its, n, h, c, _⟩
  · exact .base (.tup h)
  · exact .fTuple h
  · exact .kTuple h c
theorem fm {i j : Int} (h : 0 < j) : 0 ≤ i.fmod j ∧ i.fmod j < j := ⟨Int.fmod_nonneg_of_pos _ h, Int.fmod_lt_of_pos _ h⟩
theorem kt_int_list {K : PySem.W.Frag} : PySem.W.kitOne K (.type "int") (.type "list") = some false := kit_ty (by decide +kernel)
theorem kt_int_tuple {K : PySem.W.Frag} : PySem.W.kitOne K (.type "int") (.type "tuple") = some false := kit_ty (by decide +kernel)
theorem kt_int_bool {K : PySem.W.Frag} : PySem.W.kitOne K (.type "int") (.type "bool") = some false := kit_ty (by decide +kernel)
theorem kt_int_int {K : PySem.W.Frag} : PySem.W.kitOne K (.type "int") (.type "int") = some true := kit_ty (by decide +kernel)
theorem kt_int_str {K : PySem.W.Frag} : PySem.W.kitOne K (.type "int") (.type "str") = some false := kit_ty (by decide +kernel)
theorem kt_int_dict {K : PySem.W.Frag} : PySem.W.kitOne K (.type "int") (.type "dict") = some false := kit_ty (by decide +kernel)
theorem kt_bool_list {K : PySem.W.Frag} : PySem.W.kitOne K (.type "bool") (.type "list") = some false := kit_ty (by decide +kernel)
theorem kt_bool_tuple {K : PySem.W.Frag} : PySem.W.kitOne K (.type "bool") (.type "tuple") = some false := kit_ty (by decide +kernel)
theorem kt_bool_bool {K : PySem.W.Frag} : PySem.W.kitOne K (.type "bool") (.type "bool") = some true := kit_ty (by decide +kernel)
theorem kt_bool_int {K : PySem.W.Frag} : PySem.W.kitOne K (.type "bool") (.type "int") = some true := kit_ty (by decide +kernel)
theorem kt_bool_str {K : PySem.W.Frag} : PySem.W.kitOne K (.type "bool") (.type "str") = some false := kit_ty (by decide +kernel)
theorem kt_bool_dict {K : PySem.W.Frag} : PySem.W.kitOne K (.type "bool") (.type "dict") = some false := kit_ty (by decide +kernel)
theorem kt_str_list {K : PySem.W.Frag} : PySem.W.kitOne K (.type "str") (.type "list") = some false := kit_ty (by decide +kernel)
theorem kt_str_tuple {K : PySem.W.Frag} : PySem.W.kitOne K (.type "str") (.type "tuple") = some false := kit_ty (by decide +kernel)
theorem kt_str_bool {K : PySem.W.Frag} : PySem.W.kitOne K (.type "str") (.type "bool") = some false := kit_ty (by decide +kernel)
theorem kt_str_int {K : PySem.W.Frag} : PySem.W.kitOne K (.type "str") (.type "int") = some false := kit_ty (by decide +kernel)
theorem kt_str_str {K : PySem.W.Frag} : PySem.W.kitOne K (.type "str") (.type "str") = some true := kit_ty (by decide +kernel)
theorem kt_str_dict {K : PySem.W.Frag} : PySem.W.kitOne K (.type "str") (.type "dict") = some false := kit_ty (by decide +kernel)
theorem kt_NoneType_list {K : PySem.W.Frag} : PySem.W.kitOne K (.type "NoneType") (.type "list") = some false := kit_ty (by decide +kernel)
theorem kt_NoneType_tuple {K : PySem.W.Frag} : PySem.W.kitOne K (.type "NoneType") (.type "tuple") = some false := kit_ty (by decide +kernel)
theorem kt_NoneType_bool {K : PySem.W.Frag} : PySem.W.kitOne K (.type "NoneType") (.type "bool") = some false := kit_ty (by decide +kernel)
theorem kt_NoneType_int {K : PySem.W.Frag} : PySem.W.kitOne K (.type "NoneType") (.type "int") = some false := kit_ty (by decide +kernel)
theorem kt_NoneType_str {K : PySem.W.Frag} : PySem.W.kitOne K (.type "NoneType") (.type "str") = some false := kit_ty (by decide +kernel)
theorem kt_NoneType_dict {K : PySem.W.Frag} : PySem.W.kitOne K (.type "NoneType") (.type "dict") = some false := kit_ty (by decide +kernel)
theorem kt_list_list {K : PySem.W.Frag} : PySem.W.kitOne K (.type "list") (.type "list") = some true := kit_ty (by decide +kernel)
theorem kt_list_tuple {K : PySem.W.Frag} : PySem.W.kitOne K (.type "list") (.type "tuple") = some false := kit_ty (by decide +kernel)
theorem kt_list_bool {K : PySem.W.Frag} : PySem.W.kitOne K (.type "list") (.type "bool") = some false := kit_ty (by decide +kernel)
theorem kt_list_int {K : PySem.W.Frag} : PySem.W.kitOne K (.type "list") (.type "int") = some false := kit_ty (by decide +kernel)
theorem kt_list_str {K : PySem.W.Frag} : PySem.W.kitOne K (.type "list") (.type "str") = some false := kit_ty (by decide +kernel)
theorem kt_list_dict {K : PySem.W.Frag} : PySem.W.kitOne K (.type "list") (.type "dict") = some false := kit_ty (by decide +kernel)
theorem kt_tuple_list {K : PySem.W.Frag} : PySem.W.kitOne K (.type "tuple") (.type "list") = some false := kit_ty (by decide +kernel)
theorem kt_tuple_tuple {K : PySem.W.Frag} : PySem.W.kitOne K (.type "tuple") (.type "tuple") = some true := kit_ty (by decide +kernel)
theorem kt_tuple_bool {K : PySem.W.Frag} : PySem.W.kitOne K (.type "tuple") (.type "bool") = some false := kit_ty (by decide +kernel)
theorem kt_tuple_int {K : PySem.W.Frag} : PySem.W.kitOne K (.type "tuple") (.type "int") = some false := kit_ty (by decide +kernel)
theorem kt_tuple_str {K : PySem.W.Frag} : PySem.W.kitOne K (.type "tuple") (.type "str") = some false := kit_ty (by decide +kernel)
theorem kt_tuple_dict {K : PySem.W.Frag} : PySem.W.kitOne K (.type "tuple") (.type "dict") = some false := kit_ty (by decide +kernel)
theorem rIsi_mk {K : PySem.W.Frag} {H : Hp} {Q : VK} {x c : V} {t u : Value} {b : Bool} (ty : TyX K H x t) (cl : ClsV c u) (e : PySem.W.kitOne K t u = some b) (q : Q (.bl b) H) : rIsi K [x, c] H Q := ⟨x, c, t, u, b, rfl, cl, ty, e, q⟩
theorem ri_int_list {K : PySem.W.Frag} {H : Hp} {Q : VK} {i : Int} (q : Q (.bl false) H) : rIsi K [.int i, .ty "list"] H Q := rIsi_mk (TyX.base (TyOf.int _)) (ClsV.ty _) kt_int_list q
theorem ri_int_tuple {K : PySem.W.Frag} {H : Hp} {Q : VK} {i : Int} (q : Q (.bl false) H) : rIsi K [.int i, .ty "tuple"] H Q := rIsi_mk (TyX.base (TyOf.int _)) (ClsV.ty _) kt_int_tuple q
theorem ri_int_bool {K : PySem.W.Frag} {H : Hp} {Q : VK} {i : Int} (q : Q (.bl false) H) : rIsi K [.int i, .ty "bool"] H Q := rIsi_mk (TyX.base (TyOf.int _)) (ClsV.ty _) kt_int_bool q
theorem ri_int_int {K : PySem.W.Frag} {H : Hp} {Q : VK} {i : Int} (q : Q (.bl true) H) : rIsi K [.int i, .ty "int"] H Q := rIsi_mk (TyX.base (TyOf.int _)) (ClsV.ty _) kt_int_int q
theorem ri_int_str {K : PySem.W.Frag} {H : Hp} {Q : VK} {i : Int} (q : Q (.bl false) H) : rIsi K [.int i, .ty "str"] H Q := rIsi_mk (TyX.base (TyOf.int _)) (ClsV.ty _) kt_int_str q
theorem ri_int_dict {K : PySem.W.Frag} {H : Hp} {Q : VK} {i : Int} (q : Q (.bl false) H) : rIsi K [.int i, .ty "dict"] H Q := rIsi_mk (TyX.base (TyOf.int _)) (ClsV.ty _) kt_int_dict q
theorem ri_bool_list {K : PySem.W.Frag} {H : Hp} {Q : VK} {c : Bool} (q : Q (.bl false) H) : rIsi K [.bl c, .ty "list"] H Q := rIsi_mk (TyX.base (TyOf.bl _)) (ClsV.ty _) kt_bool_list q
theorem ri_bool_tuple {K : PySem.W.Frag} {H : Hp} {Q : VK} {c : Bool} (q : Q (.bl false) H) : rIsi K [.bl c, .ty "tuple"] H Q := rIsi_mk (TyX.base (TyOf.bl _)) (ClsV.ty _) kt_bool_tuple q
theorem ri_bool_bool {K : PySem.W.Frag} {H : Hp} {Q : VK} {c : Bool} (q : Q (.bl true) H) : rIsi K [.bl c, .ty "bool"] H Q := rIsi_mk (TyX.base (TyOf.bl _)) (ClsV.ty _) kt_bool_bool q
theorem ri_bool_int {K : PySem.W.Frag} {H : Hp} {Q : VK} {c : Bool} (q : Q (.bl true) H) : rIsi K [.bl c, .ty "int"] H Q := rIsi_mk (TyX.base (TyOf.bl _)) (ClsV.ty _) kt_bool_int q
theorem ri_bool_str {K : PySem.W.Frag} {H : Hp} {Q : VK} {c : Bool} (q : Q (.bl false) H) : rIsi K [.bl c, .ty "str"] H Q := rIsi_mk (TyX.base (TyOf.bl _)) (ClsV.ty _) kt_bool_str q
theorem ri_bool_dict {K : PySem.W.Frag} {H : Hp} {Q : VK} {c : Bool} (q : Q (.bl false) H) : rIsi K [.bl c, .ty "dict"] H Q := rIsi_mk (TyX.base (TyOf.bl _)) (ClsV.ty _) kt_bool_dict q
theorem ri_str_list {K : PySem.W.Frag} {H : Hp} {Q : VK} {z : Str} (q : Q (.bl false) H) : rIsi K [.str z, .ty "list"] H Q := rIsi_mk (TyX.base (TyOf.str _)) (ClsV.ty _) kt_str_list q
theorem ri_str_tuple {K : PySem.W.Frag} {H : Hp} {Q : VK} {z : Str} (q : Q (.bl false) H) : rIsi K [.str z, .ty "tuple"] H Q := rIsi_mk (TyX.base (TyOf.str _)) (ClsV.ty _) kt_str_tuple q
theorem ri_str_bool {K : PySem.W.Frag} {H : Hp} {Q : VK} {z : Str} (q : Q (.bl false) H) : rIsi K [.str z, .ty "bool"] H Q := rIsi_mk (TyX.base (TyOf.str _)) (ClsV.ty _) kt_str_bool q
theorem ri_str_int {K : PySem.W.Frag} {H : Hp} {Q : VK} {z : Str} (q : Q (.bl false) H) : rIsi K [.str z, .ty "int"] H Q := rIsi_mk (TyX.base (TyOf.str _)) (ClsV.ty _) kt_str_int q
theorem ri_str_str {K : PySem.W.Frag} {H : Hp} {Q : VK} {z : Str} (q : Q (.bl true) H) : rIsi K [.str z, .ty "str"] H Q := rIsi_mk (TyX.base (TyOf.str _)) (ClsV.ty _) kt_str_str q
theorem ri_str_dict {K : PySem.W.Frag} {H : Hp} {Q : VK} {z : Str} (q : Q (.bl false) H) : rIsi K [.str z, .ty "dict"] H Q := rIsi_mk (TyX.base (TyOf.str _)) (ClsV.ty _) kt_str_dict q
theorem ri_NoneType_list {K : PySem.W.Frag} {H : Hp} {Q : VK}  (q : Q (.bl false) H) : rIsi K [.non, .ty "list"] H Q := rIsi_mk (TyX.base TyOf.non) (ClsV.ty _) kt_NoneType_list q
theorem ri_NoneType_tuple {K : PySem.W.Frag} {H : Hp} {Q : VK}  (q : Q (.bl false) H) : rIsi K [.non, .ty "tuple"] H Q := rIsi_mk (TyX.base TyOf.non) (ClsV.ty _) kt_NoneType_tuple q
theorem ri_NoneType_bool {K : PySem.W.Frag} {H : Hp} {Q : VK}  (q : Q (.bl false) H) : rIsi K [.non, .ty "bool"] H Q := rIsi_mk (TyX.base TyOf.non) (ClsV.ty _) kt_NoneType_bool q
theorem ri_NoneType_int {K : PySem.W.Frag} {H : Hp} {Q : VK}  (q : Q (.bl false) H) : rIsi K [.non, .ty "int"] H Q := rIsi_mk (TyX.base TyOf.non) (ClsV.ty _) kt_NoneType_int q
theorem ri_NoneType_str {K : PySem.W.Frag} {H : Hp} {Q : VK}  (q : Q (.bl false) H) : rIsi K [.non, .ty "str"] H Q := rIsi_mk (TyX.base TyOf.non) (ClsV.ty _) kt_NoneType_str q
theorem ri_NoneType_dict {K : PySem.W.Frag} {H : Hp} {Q : VK}  (q : Q (.bl false) H) : rIsi K [.non, .ty "dict"] H Q := rIsi_mk (TyX.base TyOf.non) (ClsV.ty _) kt_NoneType_dict q
theorem ri_list_list {K : PySem.W.Frag} {H : Hp} {Q : VK} {a : Addr} {xs : List V} (h : SqL K H a xs) (q : Q (.bl true) H) : rIsi K [.ref a, .ty "list"] H Q := rIsi_mk (tyx_L h) (ClsV.ty _) kt_list_list q
theorem ri_list_tuple {K : PySem.W.Frag} {H : Hp} {Q : VK} {a : Addr} {xs : List V} (h : SqL K H a xs) (q : Q (.bl false) H) : rIsi K [.ref a, .ty "tuple"] H Q := rIsi_mk (tyx_L h) (ClsV.ty _) kt_list_tuple q
theorem ri_list_bool {K : PySem.W.Frag} {H : Hp} {Q : VK} {a : Addr} {xs : List V} (h : SqL K H a xs) (q : Q (.bl false) H) : rIsi K [.ref a, .ty "bool"] H Q := rIsi_mk (tyx_L h) (ClsV.ty _) kt_list_bool q
theorem ri_list_int {K : PySem.W.Frag} {H : Hp} {Q : VK} {a : Addr} {xs : List V} (h : SqL K H a xs) (q : Q (.bl false) H) : rIsi K [.ref a, .ty "int"] H Q := rIsi_mk (tyx_L h) (ClsV.ty _) kt_list_int q
theorem ri_list_str {K : PySem.W.Frag} {H : Hp} {Q : VK} {a : Addr} {xs : List V} (h : SqL K H a xs) (q : Q (.bl false) H) : rIsi K [.ref a, .ty "str"] H Q := rIsi_mk (tyx_L h) (ClsV.ty _) kt_list_str q
theorem ri_list_dict {K : PySem.W.Frag} {H : Hp} {Q : VK} {a : Addr} {xs : List V} (h : SqL K H a xs) (q : Q (.bl false) H) : rIsi K [.ref a, .ty "dict"] H Q := rIsi_mk (tyx_L h) (ClsV.ty _) kt_list_dict q
theorem ri_tuple_list {K : PySem.W.Frag} {H : Hp} {Q : VK} {a : Addr} {xs : List V} (h : SqT K H a xs) (q : Q (.bl false) H) : rIsi K [.ref a, .ty "list"] H Q := rIsi_mk (tyx_T h) (ClsV.ty _) kt_tuple_list q
theorem ri_tuple_tuple {K : PySem.W.Frag} {H : Hp} {Q : VK} {a : Addr} {xs : List V} (h : SqT K H a xs) (q : Q (.bl true) H) : rIsi K [.ref a, .ty "tuple"] H Q := rIsi_mk (tyx_T h) (ClsV.ty _) kt_tuple_tuple q
theorem ri_tuple_bool {K : PySem.W.Frag} {H : Hp} {Q : VK} {a : Addr} {xs : List V} (h : SqT K H a xs) (q : Q (.bl false) H) : rIsi K [.ref a, .ty "bool"] H Q := rIsi_mk (tyx_T h) (ClsV.ty _) kt_tuple_bool q
theorem ri_tuple_int {K : PySem.W.Frag} {H : Hp} {Q : VK} {a : Addr} {xs : List V} (h : SqT K H a xs) (q : Q (.bl false) H) : rIsi K [.ref a, .ty "int"] H Q := rIsi_mk (tyx_T h) (ClsV.ty _) kt_tuple_int q
theorem ri_tuple_str {K : PySem.W.Frag} {H : Hp} {Q : VK} {a : Addr} {xs : List V} (h : SqT K H a xs) (q : Q (.bl false) H) : rIsi K [.ref a, .ty "str"] H Q := rIsi_mk (tyx_T h) (ClsV.ty _) kt_tuple_str q
theorem ri_tuple_dict {K : PySem.W.Frag} {H : Hp} {Q : VK} {a : Addr} {xs : List V} (h : SqT K H a xs) (q : Q (.bl false) H) : rIsi K [.ref a, .ty "dict"] H Q := rIsi_mk (tyx_T h) (ClsV.ty _) kt_tuple_dict q
def rLenSq (K : PySem.W.Frag) : List V → Hp → VK → Prop := fun xs H Q => ∃ p ys, xs = [.ref p] ∧ (SqL K H p ys ∨ SqT K H p ys) ∧ Q (.int ys.length) H
def rListOf (K : PySem.W.Frag) : List V → Hp → VK → Prop := fun xs H Q => ∃ p ys, xs = [.ref p] ∧ (SqL K H p ys ∨ SqT K H p ys) ∧ ∀ l, H l = none → Q (.ref l) (upd H l (.lst ys))
def rTupOf (K : PySem.W.Frag) : List V → Hp → VK → Prop := fun xs H Q => ∃ p ys, xs = [.ref p] ∧ ((SqL K H p ys ∧ ∀ l, H l = none → Q (.ref l) (upd H l (.tup ys))) ∨ (SqT K H p ys ∧ Q (.ref p) H))
/-- a list or a tuple -/
def Sq (K : PySem.W.Frag) (H : Hp) (a : Addr) (xs : List V) : Prop := SqL K H a xs ∨ SqT K H a xs
theorem Sq.same {K : PySem.W.Frag} {H H' : Hp} {a : Addr} {xs : List V} (h : Sq K H a xs) (s : Same H H') : Sq K H' a xs := h.elim (fun q => .inl (s.seq q)) fun q => .inr (seqT s q)
theorem seqL_ins {K : PySem.W.Frag} {H : Hp} {a p C dx : Addr} {fs : List (Str × V)} {o : HO} {xs : List V} (hp : H p = some (.ins C dx fs)) (h : SqL K H a xs) : SqL K (upd H p o) a xs := by
  rcases h with (h | ⟨u, h⟩) | h
  · exact .inl (.inl (by rw [upd_ne (ne_of h hp (by intro z; cases z))]; exact h))
  · exact .inl (.inr ⟨u, by rw [upd_ne (ne_of h hp (by intro z; cases z))]; exact h⟩)
  · exact .inr h
theorem seqT_ins {K : PySem.W.Frag} {H : Hp} {a p C dx : Addr} {fs : List (Str × V)} {o : HO} {xs : List V} (hp : H p = some (.ins C dx fs)) (h : SqT K H a xs) : SqT K (upd H p o) a xs := by
  rcases h with (h | ⟨u, h⟩) | h
  · exact .inl (.inl (by rw [upd_ne (ne_of h hp (by intro z; cases z))]; exact h))
  · exact .inl (.inr ⟨u, by rw [upd_ne (ne_of h hp (by intro z; cases z))]; exact h⟩)
  · exact .inr h
theorem Sq.ins {K : PySem.W.Frag} {H : Hp} {a p C dx : Addr} {fs : List (Str × V)} {o : HO} {xs : List V} (h : Sq K H a xs) (hp : H p = some (.ins C dx fs)) : Sq K (upd H p o) a xs := h.elim (fun q => .inl (seqL_ins hp q)) fun q => .inr (seqT_ins hp q)
/-- tuple(x) of either -/
def rTup1 (K : PySem.W.Frag) : List V → Hp → VK → Prop := fun vs H Q => ∃ p xs, vs = [.ref p] ∧ Sq K H p xs ∧ ∀ t H', Same H H' → SqT K H' t xs → Q (.ref t) H'
theorem call_tup1 {X : Cx} : CallR X (.type "tuple") (rTup1 X.K) := by
  intro pins s σ H xs us Q I r h
  obtain ⟨p, ys, rfl, hq, q⟩ := h
  refine call_tuple_of pins s σ H _ us Q I r ⟨p, ys, rfl, ?_⟩
  rcases hq with hq | hq
  · exact .inl ⟨hq, fun l hl => q l _ (Same.new hl) (SqT.of upd_same)⟩
  · exact .inr ⟨hq, q p H (Same.refl H) hq⟩
/-! ### a statement, then the rest, with a word between them -/
def tCut (t u : TS) : TS := fun D σ H => ∃ Mid : L2.St → Hp → Prop, t { D with nx := Mid } σ H ∧ ∀ σ' H', Mid σ' H' → u D σ' H'
theorem pss_cut {X : Cx} {st : Stmt} {rest : List Stmt} {t u : TS} (h1 : PS X st t) (h2 : PSs X rest u) : PSs X (st :: rest) (tCut t u) := by
  refine ⟨fun pins s σ H D I h => ?_⟩
  obtain ⟨Mid, hm, hu⟩ := h
  refine wpAny_execs_cons (thn (h1.run pins s σ H { D with nx := Mid } I hm) fun f s1 q => ?_)
  cases f with
  | next =>
    obtain ⟨σ', H', I', q⟩ := q
    exact h2.run pins s1 σ' H' D I' (hu σ' H' q)
  | ret v => exact q
  | brk => exact q
  | cont => exact q
/-! ### the law's bag: the cells, how many were taken, the rest of a great cell, a mixed number, a count -/
structure Bg where
  b : Addr
  L : Addr
  ns : List Int
structure Bag (B : Bg) (H : Hp) : Prop where
  ex : ∃ (i r s c : Int), H B.b = some (.lst [.ref B.L, .int i, .int r, .int s, .int c]) ∧ 0 ≤ i ∧ 0 ≤ r ∧ 0 ≤ s ∧ s < 2147483648
  cells : H B.L = some (.lst (B.ns.map V.int))
  ne : B.L ≠ B.b
theorem Bag.same {B : Bg} {H H' : Hp} (h : Bag B H) (s : Same H H') : Bag B H' := by
  obtain ⟨i, r, z, c, h1, h2⟩ := h.ex
  exact ⟨⟨i, r, z, c, s _ _ h1, h2⟩, s _ _ h.cells, h.ne⟩
theorem Bag.nb {B : Bg} {H : Hp} {p : Addr} (h : Bag B H) (hp : H p = none) : p ≠ B.b := by
  obtain ⟨i, r, z, c, h1, h2⟩ := h.ex
  exact Ne.symm (ne_of_none h1 hp)
theorem Bag.nL {B : Bg} {H : Hp} {p : Addr} (h : Bag B H) (hp : H p = none) : p ≠ B.L := Ne.symm (ne_of_none h.cells hp)
theorem Bag.upd {B : Bg} {H : Hp} {p : Addr} {o : HO} (h : Bag B H) (h1 : p ≠ B.b) (h2 : p ≠ B.L) : Bag B (L2.upd H p o) := by
  obtain ⟨i, r, z, c, e1, e2⟩ := h.ex
  exact ⟨⟨i, r, z, c, by rw [upd_ne (Ne.symm h1)]; exact e1, e2⟩, by rw [upd_ne (Ne.symm h2)]; exact h.cells, h.ne⟩
theorem Bag.new {B : Bg} {H : Hp} {p : Addr} {o : HO} (h : Bag B H) (hp : H p = none) : Bag B (L2.upd H p o) := h.upd (h.nb hp) (h.nL hp)
/-! ### comprehensions: what each turn gives is known (Same), or only bounded, while the bag changes (Kb) -/
section
variable {J : It} {n : Nat} {G : Hp → Prop} {Y : Nat → Hp → V → Hp → Prop} {K : PySem.W.Frag} {a b D : Addr} {xs ys : List V} {g : TG} {te : TE} {vs : List Nat} {σ : L2.St} {H0 : Hp} {Qd : Hp → Prop} {j : Nat}
theorem take_app {ys : List V} {i : Nat} {y : V} (h : ys[i]? = some y) : ys.take i ++ [y] = ys.take (i + 1) := by
  rw [List.take_add_one, h]
  rfl
/-- what is to be shown of a comprehension -/
def LcGoal (J : It) (g : TG) (te : TE) (vs : List Nat) (σ : L2.St) (H0 : Hp) (D : Addr) (Qd : Hp → Prop) : Prop :=
  ∃ W : Nat → Nat → Hp → Prop, (∃ m, W 0 m (upd H0 D (.lst []))) ∧ ∀ i m H, W i m H →
      (J.stop i H ∧ Qd H) ∨ (J.go i H ∧ ∃ Nx : Hp → Prop, (∀ H', Nx H' → ∃ m', m' < m ∧ W (i + 1) m' H') ∧ ∀ x H', J.yld i H x H' → g x (wipe σ vs) H' fun σ2 H2 => wipe σ2 vs = wipe σ vs ∧ tYes σ2 H2 fun b H3 =>
        if b = true then te σ2 H3 fun y H4 => ∃ acc, H4 D = some (.lst acc) ∧ acc.length < sizeLine ∧ Nx (upd H4 D (.lst (acc ++ [y]))) else Nx H3)
theorem lcm (w : Walk J n G Y) (ys : List V) (hn : ys.length = n) (hz : n ≤ 100000) (hD : H0 D = none) (hG : ∀ H, Same H0 H → G H)
    (hs : ∀ i y x H H', i < n → ys[i]? = some y → Same H0 H → Y i H x H' → ∀ k : VK, (∀ H4, Same H H4 → k y H4) → g x (wipe σ vs) H' fun σ2 H2 => wipe σ2 vs = wipe σ vs ∧ te σ2 H2 k)
    (hd : ∀ H, Same H0 H → H D = some (.lst ys) → Qd H) : LcGoal J g te vs σ H0 D Qd := by
  refine lc_it w (fun i H => Same H0 H ∧ H D = some (.lst (ys.take i))) ⟨Same.new hD, upd_same⟩ (fun i H _ h => hG H h.1) (fun i x H H' hi h hy => ?_) (fun H h => ?_)
  · have hi2 : i < ys.length := by omega
    refine hs i ys[i] x H H' hi (List.getElem?_eq_getElem hi2) h.1 hy _ fun H4 s4 => ⟨ys.take i, s4 _ _ h.2, ?_, fun c u q => ?_, ?_⟩
    · refine Nat.lt_of_le_of_lt (Nat.le_trans (List.length_take_le' _ _) (by omega : ys.length ≤ 100000)) (by decide)
    · rw [upd_ne (ne_of_none q hD)]
      exact s4 _ _ (h.1 _ _ q)
    · rw [upd_same, take_app (List.getElem?_eq_getElem hi2)]
  · refine hd H h.1 ?_
    rw [h.2, ← hn, List.take_length]
theorem lcb {B : Bg} (w : Walk J n G Y) (P : V → Prop) (hz : n ≤ 100000) (hB : Bag B H0) (hD : H0 D = none) (hG : ∀ H, Kb B.b H0 H → G H)
    (hs : ∀ i x H H', i < n → Kb B.b H0 H → Bag B H → Y i H x H' → ∀ k : VK, (∀ y H4, P y → Kb B.b H H4 → Bag B H4 → k y H4) → g x (wipe σ vs) H' fun σ2 H2 => wipe σ2 vs = wipe σ vs ∧ te σ2 H2 k)
    (hd : ∀ ys H, ys.length = n → (∀ y ∈ ys, P y) → Kb B.b H0 H → Bag B H → H D = some (.lst ys) → Qd H) : LcGoal J g te vs σ H0 D Qd := by
  have nb := hB.nb hD
  have nL := hB.nL hD
  refine lc_it w (fun i H => Kb B.b H0 H ∧ Bag B H ∧ ∃ ys, H D = some (.lst ys) ∧ ys.length = i ∧ ∀ y ∈ ys, P y) ⟨Kb.same (Same.new hD), hB.new hD, [], upd_same, rfl, fun y hy => by cases hy⟩ (fun i H _ h => hG H h.1) (fun i x H H' hi h hy => ?_) (fun H h => ?_)
  · obtain ⟨h1, h2, ys, h3, h4, h5⟩ := h
    refine hs i x H H' hi h1 h2 hy _ fun y H4 p kb b4 => ⟨ys, kb _ _ h3 nb, ?_, fun c u q ne => ?_, b4.upd nb nL, ys ++ [y], upd_same, ?_, ?_⟩
    · exact Nat.lt_of_le_of_lt (by omega : ys.length ≤ 100000) (by decide)
    · rw [upd_ne (ne_of_none q hD)]
      exact kb _ _ (h1 _ _ q ne) ne
    · rw [List.length_append, h4]
      rfl
    · intro z hz
      rcases List.mem_append.mp hz with q | q
      · exact h5 z q
      · rw [List.mem_singleton.mp q]
        exact p
  · obtain ⟨h1, h2, ys, h3, h4, h5⟩ := h
    exact hd ys H h4 h5 h1 h2 h3
end
theorem walk_zipT {K : PySem.W.Frag} {a b : Addr} {xs ys : List V} {n : Nat} (hn : n = min xs.length ys.length) : Walk (RZ.ItzT K a b) n (fun H => SqT K H a xs ∧ SqT K H b ys) (YPair (fun i => xs[i]?) (fun i => ys[i]?)) := by
  subst hn
  refine ⟨fun i _ hi q => ?_, fun _ q => ⟨xs, ys, q.1, q.2, by omega⟩, fun i H v H' _ q y => ?_⟩
  · have h1 : i < xs.length := by omega
    have h2 : i < ys.length := by omega
    exact ⟨xs, ys, xs[i], ys[i], q.1, q.2, by simp [h1], by simp [h2]⟩
  · obtain ⟨T, x, z, h1, h2, h3, h4, h5⟩ := y
    exact ⟨T, x, z, h1, h2, h3, h4 xs q.1, h5 ys q.2⟩
theorem ite_dec {p A B : Prop} [Decidable p] (h : p) (q : A) : if decide p = true then A else B := by
  rw [decide_eq_true h]
  exact q
theorem ite_dec' {p A B : Prop} [Decidable p] (h : ¬ p) (q : B) : if decide p = true then A else B := by
  rw [decide_eq_false h]
  exact q
theorem all_rep (n : Nat) : (List.replicate n true).all id = true := by
  rw [List.all_eq_true]
  intro x hx
  rw [(List.mem_replicate.mp hx).2]
  rfl
theorem rep_get {n i : Nat} {x y : V} (h : (List.replicate n x)[i]? = some y) : y = x := (List.mem_replicate.mp (List.mem_of_getElem? h)).2
theorem lc_zipT {K : PySem.W.Frag} {a b D : Addr} {xs ys : List Int} {f : Int → Int → Int} {te : TE} {vs : List Nat} {σ : L2.St} {H0 : Hp} {Qd : Hp → Prop} {i j : Nat} (h1 : SqT K H0 a (xs.map V.int)) (h2 : SqT K H0 b (ys.map V.int)) (hl : xs.length = ys.length) (hz : xs.length ≤ 1000) (hD : H0 D = none)
    (hw : ∀ u v, wipe (((wipe σ vs).set i (some u)).set j (some v)) vs = wipe σ vs)
    (hs : ∀ (u v : Int) (H : Hp) (k : VK), u ∈ xs → v ∈ ys → k (.int (f u v)) H → te (((wipe σ vs).set i (some (.int u))).set j (some (.int v))) H k)
    (hd : ∀ H, Same H0 H → H D = some (.lst ((List.zipWith f xs ys).map V.int)) → Qd H) : LcGoal (RZ.ItzT K a b) (gTup K 2 (gCons (gName i) (gCons (gName j) gNil))) te vs σ H0 D Qd := by
  refine lcm (walk_zipT (n := xs.length) (by rw [List.length_map, List.length_map]; omega)) ((List.zipWith f xs ys).map V.int) (by rw [List.length_map, List.length_zipWith]; omega) (by omega) hD (fun H' s => ⟨seqT s h1, seqT s h2⟩) ?_ hd
  rintro t y x H1 H2 hi hy s1 ⟨Tp, u, z, rfl, hT, rfl, hu, hz'⟩ k hk
  replace hu : (xs.map V.int)[t]? = some u := hu
  replace hz' : (ys.map V.int)[t]? = some z := hz'
  rw [List.getElem?_map] at hy hu hz'
  obtain ⟨y', hy1, rfl⟩ := Option.map_eq_some_iff.mp hy
  obtain ⟨u', hu1, rfl⟩ := Option.map_eq_some_iff.mp hu
  obtain ⟨z', hz1, rfl⟩ := Option.map_eq_some_iff.mp hz'
  rw [List.getElem?_zipWith, hu1, hz1] at hy1
  obtain rfl : f u' z' = y' := Option.some.inj hy1
  refine ⟨Tp, [.int u', .int z'], rfl, SqT.of upd_same, rfl, .int u', [.int z'], rfl, .int z', [], rfl, rfl, hw _ _, ?_⟩
  exact hs u' z' _ k (List.mem_of_getElem? hu1) (List.mem_of_getElem? hz1) (hk _ (Same.new hT))
theorem lc_zipL {K : PySem.W.Frag} {a b D : Addr} {xs ys : List Int} {f : Int → Int → Int} {te : TE} {vs : List Nat} {σ : L2.St} {H0 : Hp} {Qd : Hp → Prop} {i j : Nat} (h1 : SqL K H0 a (xs.map V.int)) (h2 : SqL K H0 b (ys.map V.int)) (hl : xs.length = ys.length) (hz : xs.length ≤ 1000) (hD : H0 D = none)
    (hw : ∀ u v, wipe (((wipe σ vs).set i (some u)).set j (some v)) vs = wipe σ vs)
    (hs : ∀ (u v : Int) (H : Hp) (k : VK), u ∈ xs → v ∈ ys → k (.int (f u v)) H → te (((wipe σ vs).set i (some (.int u))).set j (some (.int v))) H k)
    (hd : ∀ H, Same H0 H → H D = some (.lst ((List.zipWith f xs ys).map V.int)) → Qd H) : LcGoal (Itz K a b) (gTup K 2 (gCons (gName i) (gCons (gName j) gNil))) te vs σ H0 D Qd := by
  refine lcm (walk_zip (n := xs.length) (by rw [List.length_map, List.length_map]; omega)) ((List.zipWith f xs ys).map V.int) (by rw [List.length_map, List.length_zipWith]; omega) (by omega) hD (fun H' s => ⟨s.seq h1, s.seq h2⟩) ?_ hd
  rintro t y x H1 H2 hi hy s1 ⟨Tp, u, z, rfl, hT, rfl, hu, hz'⟩ k hk
  replace hu : (xs.map V.int)[t]? = some u := hu
  replace hz' : (ys.map V.int)[t]? = some z := hz'
  rw [List.getElem?_map] at hy hu hz'
  obtain ⟨y', hy1, rfl⟩ := Option.map_eq_some_iff.mp hy
  obtain ⟨u', hu1, rfl⟩ := Option.map_eq_some_iff.mp hu
  obtain ⟨z', hz1, rfl⟩ := Option.map_eq_some_iff.mp hz'
  rw [List.getElem?_zipWith, hu1, hz1] at hy1
  obtain rfl : f u' z' = y' := Option.some.inj hy1
  refine ⟨Tp, [.int u', .int z'], rfl, SqT.of upd_same, rfl, .int u', [.int z'], rfl, .int z', [], rfl, rfl, hw _ _, ?_⟩
  exact hs u' z' _ k (List.mem_of_getElem? hu1) (List.mem_of_getElem? hz1) (hk _ (Same.new hT))
theorem lc_mapT {K : PySem.W.Frag} {a D : Addr} {xs : List Int} {f : Int → Int} {te : TE} {vs : List Nat} {σ : L2.St} {H0 : Hp} {Qd : Hp → Prop} {i : Nat} (h1 : SqT K H0 a (xs.map V.int)) (hz : xs.length ≤ 1000) (hD : H0 D = none)
    (hw : ∀ u, wipe ((wipe σ vs).set i (some u)) vs = wipe σ vs) (hs : ∀ (u : Int) (H : Hp) (k : VK), u ∈ xs → k (.int (f u)) H → te ((wipe σ vs).set i (some (.int u))) H k)
    (hd : ∀ H, Same H0 H → H D = some (.lst ((xs.map f).map V.int)) → Qd H) : LcGoal (Itt K a) (gName i) te vs σ H0 D Qd := by
  refine lcm (walk_tup (K := K) (a := a) (xs := xs.map V.int)) ((xs.map f).map V.int) (by simp) (by rw [List.length_map]; omega) hD (fun H' s => seqT s h1) ?_ hd
  rintro t y x H1 H2 hi hy s1 ⟨rfl, hu⟩ k hk
  rw [List.getElem?_map] at hy hu
  obtain ⟨y', hy1, rfl⟩ := Option.map_eq_some_iff.mp hy
  obtain ⟨u', hu1, rfl⟩ := Option.map_eq_some_iff.mp hu
  rw [List.getElem?_map, hu1] at hy1
  obtain rfl : f u' = y' := Option.some.inj hy1
  exact ⟨hw _, hs u' _ k (List.mem_of_getElem? hu1) (hk _ (Same.refl _))⟩
theorem lc_mapL {K : PySem.W.Frag} {a D : Addr} {xs : List Int} {f : Int → Int} {te : TE} {vs : List Nat} {σ : L2.St} {H0 : Hp} {Qd : Hp → Prop} {i : Nat} (h1 : SqL K H0 a (xs.map V.int)) (hz : xs.length ≤ 1000) (hD : H0 D = none)
    (hw : ∀ u, wipe ((wipe σ vs).set i (some u)) vs = wipe σ vs) (hs : ∀ (u : Int) (H : Hp) (k : VK), u ∈ xs → k (.int (f u)) H → te ((wipe σ vs).set i (some (.int u))) H k)
    (hd : ∀ H, Same H0 H → H D = some (.lst ((xs.map f).map V.int)) → Qd H) : LcGoal (Itl K a) (gName i) te vs σ H0 D Qd := by
  refine lcm (walk_list (K := K) (a := a) (xs := xs.map V.int)) ((xs.map f).map V.int) (by simp) (by rw [List.length_map]; omega) hD (fun H' s => s.seq h1) ?_ hd
  rintro t y x H1 H2 hi hy s1 ⟨rfl, hu⟩ k hk
  rw [List.getElem?_map] at hy hu
  obtain ⟨y', hy1, rfl⟩ := Option.map_eq_some_iff.mp hy
  obtain ⟨u', hu1, rfl⟩ := Option.map_eq_some_iff.mp hu
  rw [List.getElem?_map, hu1] at hy1
  obtain rfl : f u' = y' := Option.some.inj hy1
  exact ⟨hw _, hs u' _ k (List.mem_of_getElem? hu1) (hk _ (Same.refl _))⟩
/-! ### whole data: lists and tuples of whole numbers -/
theorem dpAll_ints {K : PySem.W.Frag} {H : Hp} : ∀ ns : List Int, DpAll K H (ns.map V.int) (ns.map PyData.int)
  | [] => .nil
  | n :: ns => .cons (.int n) (dpAll_ints ns)
theorem lay_ints : ∀ ns : List Int, PyData.canLayAll0 (ns.map PyData.int) = true
  | [] => by simp [PyData.canLayAll0]
  | n :: ns => by simp [PyData.canLayAll0, PyData.canLay0, lay_ints ns]
theorem depth_ints : ∀ ns : List Int, PyData.depthAll (ns.map PyData.int) = 0
  | [] => by simp [PyData.depthAll]
  | n :: ns => by simp [PyData.depthAll, PyData.depth, depth_ints ns]
theorem shaped_tupI (ns : List Int) : SeqAt.shaped (.tuple (ns.map PyData.int)) = true := by simp [SeqAt.shaped, PyData.canLay0, PyData.depth, lay_ints, depth_ints]
theorem shaped_lstI (ns : List Int) : SeqAt.shaped (.list (ns.map PyData.int)) = true := by simp [SeqAt.shaped, PyData.canLay0, PyData.depth, lay_ints, depth_ints]
theorem shaped_two (xs ys : List Int) : SeqAt.shaped (.tuple [.list (xs.map PyData.int), .list (ys.map PyData.int)]) = true := by simp [SeqAt.shaped, PyData.canLay0, PyData.canLayAll0, PyData.depth, PyData.depthAll, lay_ints, depth_ints]
theorem eqv_ints : ∀ xs ys : List Int, PyData.eqvAll (xs.map PyData.int) (ys.map PyData.int) = decide (xs = ys)
  | [], [] => by simp [PyData.eqvAll]
  | [], y :: ys => by simp [PyData.eqvAll]
  | x :: xs, [] => by simp [PyData.eqvAll]
  | x :: xs, y :: ys => by
    simp only [List.map_cons, PyData.eqvAll, PyData.eqv, eqv_ints xs ys, List.cons.injEq]
    by_cases h1 : x = y <;> by_cases h2 : xs = ys <;> simp [h1, h2]
theorem eqv_tupI (xs ys : List Int) : PyData.eqv (.tuple (xs.map PyData.int)) (.tuple (ys.map PyData.int)) = decide (xs = ys) := by simp only [PyData.eqv, eqv_ints]
theorem eqv_lstI (xs ys : List Int) : PyData.eqv (.list (xs.map PyData.int)) (.list (ys.map PyData.int)) = decide (xs = ys) := by simp only [PyData.eqv, eqv_ints]
theorem eqv_two (x y : List Int × List Int) : PyData.eqv (.tuple [.list (x.1.map PyData.int), .list (x.2.map PyData.int)]) (.tuple [.list (y.1.map PyData.int), .list (y.2.map PyData.int)]) = decide (x = y) := by
  obtain ⟨a, b⟩ := x
  obtain ⟨c, d⟩ := y
  simp only [PyData.eqv, PyData.eqvAll, eqv_ints, Prod.mk.injEq]
  by_cases h1 : a = c <;> by_cases h2 : b = d <;> simp [h1, h2]
/-- == of two tuples of whole numbers -/
def rEqTI (K : PySem.W.Frag) : R2 := fun x y H Q => ∃ (a b : Addr) (xs ys : List Int), x = .ref a ∧ y = .ref b ∧ SqT K H a (xs.map V.int) ∧ SqT K H b (ys.map V.int) ∧ Q (.bl (decide (xs = ys))) H
theorem op_eqTI {X : Cx} (hu : X.A.units + 64 < cLine) : OpR X (compareOp .Eq) (rEqTI X.K) := by
  intro pins s σ H x y v u Q I rx ry h
  obtain ⟨a, b, xs, ys, rfl, rfl, h1, h2, q⟩ := h
  exact op_eqD hu pins s σ H _ _ v u Q I rx ry ⟨_, _, .tup h1 (dpAll_ints xs), .tup h2 (dpAll_ints ys), shaped_tupI xs, shaped_tupI ys, by rw [eqv_tupI]; exact q⟩
theorem and1 (n : Int) : Builtin.bitAnd n 1 = n.fmod 2 := by
  have h := PyProof.Rows.bitAnd_m1 n
  rw [Int.fmod_eq_emod_of_nonneg _ (by decide)]
  exact h
/-- a tuple that is read stands when a list is changed -/
theorem seqT_lst {K : PySem.W.Frag} {H : Hp} {a p : Addr} {zs : List V} {o : HO} {xs : List V} (hp : H p = some (.lst zs)) (h : SqT K H a xs) : SqT K (upd H p o) a xs := by
  rcases h with (h | ⟨u, h⟩) | h
  · exact .inl (.inl (by rw [upd_ne (ne_of h hp (by intro z; cases z))]; exact h))
  · exact .inl (.inr ⟨u, by rw [upd_ne (ne_of h hp (by intro z; cases z))]; exact h⟩)
  · exact .inr h
theorem seqT_kb {K : PySem.W.Frag} {H H' : Hp} {b a : Addr} {zs xs : List V} (hb : H b = some (.lst zs)) (k : Kb b H H') (h : SqT K H a xs) : SqT K H' a xs := by
  rcases h with (h | ⟨u, h⟩) | h
  · exact .inl (.inl (k _ _ h (ne_of h hb (by intro z; cases z))))
  · exact .inl (.inr ⟨u, k _ _ h (ne_of h hb (by intro z; cases z))⟩)
  · exact .inr h
section
variable {J : It} {n : Nat} {G : Hp → Prop} {Y : Nat → Hp → V → Hp → Prop} {D : Addr} {g : TG} {te : TE} {vs : List Nat} {σ : L2.St} {H0 : Hp} {Qd : Hp → Prop}
/-- a comprehension whose turns give new things, of which something is known -/
theorem lcs (w : Walk J n G Y) (P : Nat → V → Hp → Prop) (hP : ∀ i y H H', Same H H' → P i y H → P i y H') (hPD : ∀ i y H zs zs', H D = some (.lst zs) → P i y H → P i y (upd H D (.lst zs'))) (hz : n ≤ 100000) (hD : H0 D = none) (hG : ∀ H, Same H0 H → G H)
    (hs : ∀ i x H H', i < n → Same H0 H → Y i H x H' → ∀ k : VK, (∀ y H4, Same H H4 → P i y H4 → k y H4) → g x (wipe σ vs) H' fun σ2 H2 => wipe σ2 vs = wipe σ vs ∧ te σ2 H2 k)
    (hd : ∀ (ys : List V) H, ys.length = n → (∀ (i : Nat) y, ys[i]? = some y → P i y H) → Same H0 H → H D = some (.lst ys) → Qd H) : LcGoal J g te vs σ H0 D Qd := by
  refine lc_it w (fun i H => Same H0 H ∧ ∃ ys : List V, H D = some (.lst ys) ∧ ys.length = i ∧ ∀ (t : Nat) y, ys[t]? = some y → P t y H) ⟨Same.new hD, [], upd_same, rfl, fun t y h => by cases h⟩ (fun i H _ h => hG H h.1) (fun i x H H' hi h hy => ?_) (fun H h => ?_)
  · obtain ⟨h1, ys, h3, h4, h5⟩ := h
    refine hs i x H H' hi h1 hy _ fun y H4 s4 p => ⟨ys, s4 _ _ h3, ?_, fun c u q => ?_, ys ++ [y], upd_same, ?_, ?_⟩
    · exact Nat.lt_of_le_of_lt (by omega : ys.length ≤ 100000) (by decide)
    · rw [upd_ne (ne_of_none q hD)]
      exact s4 _ _ (h1 _ _ q)
    · rw [List.length_append, h4]
      rfl
    · intro t z hz
      refine hPD t z H4 ys _ (s4 _ _ h3) ?_
      rcases Nat.lt_or_ge t ys.length with q | q
      · rw [List.getElem?_append_left q] at hz
        exact hP _ _ _ _ s4 (h5 t z hz)
      · rw [List.getElem?_append_right q] at hz
        have e : t - ys.length = 0 := by
          have := (List.getElem?_eq_some_iff.mp hz).1
          simp at this
          omega
        rw [e] at hz
        obtain rfl : y = z := Option.some.inj hz
        have : t = i := by omega
        rw [this]
        exact p
  · obtain ⟨h1, ys, h3, h4, h5⟩ := h
    exact hd ys H h4 h5 h1 h3
end
end TL
namespace TL
/-! ### products of powers of primes -/
def pp : List Nat → List Nat → Nat
  | p :: ps, a :: as => p ^ a * pp ps as
  | _, _ => 1
def prs : List Nat := [2, 3, 5, 7, 11, 13]
def PC : List Nat → Prop
  | [] => True
  | p :: ps => 1 < p ∧ (∀ q ∈ ps, Nat.Coprime p q) ∧ PC ps
theorem pc_prs : PC prs := by simp only [PC, prs]; decide
theorem pc_drop : ∀ (n : Nat) {ps : List Nat}, PC ps → PC (ps.drop n)
  | 0, _, h => h
  | n + 1, [], h => h
  | n + 1, p :: ps, h => pc_drop n h.2.2
theorem pc_take : ∀ (n : Nat) {ps : List Nat}, PC ps → PC (ps.take n)
  | 0, _, _ => trivial
  | n + 1, [], h => h
  | n + 1, p :: ps, h => ⟨h.1, fun q hq => h.2.1 q (List.mem_of_mem_take hq), pc_take n h.2.2⟩
theorem pp_pos : ∀ {ps : List Nat} (as : List Nat), PC ps → 0 < pp ps as
  | [], _, _ => Nat.one_pos
  | p :: ps, [], _ => Nat.one_pos
  | p :: ps, a :: as, h => Nat.mul_pos (Nat.pow_pos (Nat.lt_trans Nat.one_pos h.1)) (pp_pos as h.2.2)
theorem cop_pp {k : Nat} : ∀ {ps : List Nat} (as : List Nat), (∀ q ∈ ps, Nat.Coprime k q) → Nat.Coprime k (pp ps as)
  | [], _, _ => Nat.coprime_one_right k
  | p :: ps, [], _ => Nat.coprime_one_right k
  | p :: ps, a :: as, h => Nat.Coprime.mul_right ((h p (List.mem_cons_self ..)).pow_right a) (cop_pp as fun q hq => h q (List.mem_cons_of_mem _ hq))
def Apart : List Nat → List Nat → Prop
  | a :: as, b :: bs => (a = 0 ∨ b = 0) ∧ Apart as bs
  | _, _ => True
theorem cop_ud : ∀ {ps as bs : List Nat}, PC ps → Apart as bs → Nat.Coprime (pp ps as) (pp ps bs)
  | [], _, _, _, _ => Nat.coprime_one_left _
  | p :: ps, [], _, _, _ => Nat.coprime_one_left _
  | p :: ps, a :: as, [], _, _ => Nat.coprime_one_right _
  | p :: ps, a :: as, b :: bs, h, d => by
    have ih := cop_ud h.2.2 d.2
    have h1 : Nat.Coprime (p ^ a) (pp ps bs) := (cop_pp bs h.2.1).pow_left a
    have h2 : Nat.Coprime (pp ps as) (p ^ b) := (Nat.Coprime.symm (cop_pp as h.2.1)).pow_right b
    have h3 : Nat.Coprime (p ^ a) (p ^ b) := by
      rcases d.1 with e | e
      · rw [e, Nat.pow_zero]
        exact Nat.coprime_one_left _
      · rw [e, Nat.pow_zero]
        exact Nat.coprime_one_right _
    exact Nat.Coprime.mul_left (Nat.Coprime.mul_right h3 h1) (Nat.Coprime.mul_right h2 ih)
theorem pp_add : ∀ (ps as bs : List Nat), as.length = bs.length → pp ps as * pp ps bs = pp ps (List.zipWith (· + ·) as bs)
  | [], _, _, _ => by simp [pp]
  | p :: ps, [], [], _ => by simp [pp]
  | p :: ps, a :: as, b :: bs, h => by
    have ih := pp_add ps as bs (by simpa using h)
    simp only [pp, List.zipWith_cons_cons, ← ih, Nat.pow_add]
    ac_rfl
theorem pp_pow (n : Nat) : ∀ (ps as : List Nat), pp ps as ^ n = pp ps (as.map (n * ·))
  | [], _ => by simp [pp]
  | p :: ps, [] => by simp [pp]
  | p :: ps, a :: as => by
    simp only [pp, List.map_cons, ← pp_pow n ps as, Nat.mul_pow]
    rw [← Nat.pow_mul, Nat.mul_comm a n]
/-! ### a ratio by its exponents -/
def upE (e : List Int) : List Nat := e.map Int.toNat
def dnE (e : List Int) : List Nat := e.map fun x => (-x).toNat
def up (e : List Int) : Nat := pp prs (upE e)
def dn (e : List Int) : Nat := pp prs (dnE e)
def addE (e f : List Int) : List Int := List.zipWith (· + ·) e f
def subE (e f : List Int) : List Int := List.zipWith (· - ·) e f
def mulE (n : Int) (e : List Int) : List Int := e.map (n * ·)
def negE (e : List Int) : List Int := e.map (- ·)
theorem up_pos (e : List Int) : 0 < up e := pp_pos _ pc_prs
theorem dn_pos (e : List Int) : 0 < dn e := pp_pos _ pc_prs
theorem apart_ud : ∀ e : List Int, Apart (upE e) (dnE e)
  | [] => trivial
  | x :: e => ⟨(show x.toNat = 0 ∨ (-x).toNat = 0 by omega), apart_ud e⟩
theorem cop_e (e : List Int) : Nat.Coprime (up e) (dn e) := cop_ud pc_prs (apart_ud e)
theorem up_neg (e : List Int) : up (negE e) = dn e := by
  unfold up dn upE dnE negE
  rw [List.map_map]
  rfl
theorem dn_neg (e : List Int) : dn (negE e) = up e := by
  unfold up dn upE dnE negE
  rw [List.map_map]
  congr 1
  apply List.map_congr_left
  intro x _
  simp
def both (e f : List Int) : List Nat := List.zipWith (fun x y => x.toNat + y.toNat - (x + y).toNat) e f
theorem up_mul (e f : List Int) (h : e.length = f.length) : up e * up f = pp prs (both e f) * up (addE e f) := by
  unfold up
  rw [pp_add _ _ _ (by simpa [upE] using h), pp_add _ _ _ (by simp [both, upE, addE])]
  congr 1
  apply List.ext_getElem
  · simp [both, upE, addE]
  · intro i h1 h2
    simp [both, upE, addE]
    omega
theorem dn_mul (e f : List Int) (h : e.length = f.length) : dn e * dn f = pp prs (both e f) * dn (addE e f) := by
  unfold dn
  rw [pp_add _ _ _ (by simpa [dnE] using h), pp_add _ _ _ (by simp [both, dnE, addE])]
  congr 1
  apply List.ext_getElem
  · simp [both, dnE, addE]
  · intro i h1 h2
    simp [both, dnE, addE]
    omega
/-- a fraction told over a common factor -/
theorem gcd_of {a b e m : Nat} (g : Nat.Coprime a b) : Nat.gcd (m * a) (m * b) = m := by
  rw [Nat.gcd_mul_left, g.gcd_eq_one, Nat.mul_one]
theorem ud_nil_iff {e : List Int} (h : e.length = 6) : up e = 1 → (∀ x ∈ e, x ≤ 0) := by
  intro u
  suffices H : ∀ {ps : List Nat} {as : List Nat}, PC ps → as.length ≤ ps.length → pp ps as = 1 → ∀ a ∈ as, a = 0 by
    intro x hx
    have := H pc_prs (by simp [upE, prs, h]) u x.toNat (List.mem_map.mpr ⟨x, hx, rfl⟩)
    omega
  intro ps
  induction ps with
  | nil =>
    intro as _ hl _ a ha
    have := List.length_eq_zero_iff.mp (Nat.le_zero.mp hl)
    rw [this] at ha
    cases ha
  | cons p ps ih =>
    intro as hp hl hu a ha
    cases as with
    | nil => cases ha
    | cons b bs =>
      have hu' : p ^ b = 1 ∧ pp ps bs = 1 := ⟨Nat.eq_one_of_mul_eq_one_right hu, Nat.eq_one_of_mul_eq_one_left hu⟩
      rcases List.mem_cons.mp ha with e | e
      · subst e
        have h1 := hu'.1
        rcases Nat.eq_zero_or_pos a with z | z
        · exact z
        · have := Nat.one_lt_pow (by omega : a ≠ 0) hp.1
          omega
      · exact ih hp.2.2 (by simpa using hl) hu'.2 a e
theorem pp_one : ∀ {ps as : List Nat}, PC ps → as.length ≤ ps.length → pp ps as = 1 → ∀ a ∈ as, a = 0
  | _, [], _, _, _, a, ha => by cases ha
  | [], b :: bs, _, hl, _, a, ha => by simp at hl
  | p :: ps, b :: bs, hp, hl, hu, a, ha => by
    have h1 : p ^ b = 1 := Nat.eq_one_of_mul_eq_one_right hu
    have h2 : pp ps bs = 1 := Nat.eq_one_of_mul_eq_one_left hu
    rcases List.mem_cons.mp ha with e | e
    · subst e
      rcases Nat.eq_zero_or_pos a with z | z
      · exact z
      · have := Nat.one_lt_pow (by omega : a ≠ 0) hp.1
        omega
    · exact pp_one hp.2.2 (by simpa using hl) h2 a e
theorem pp_drop {as : List Nat} {i : Nat} (hi : i < 6) (hl : as.length = 6) : ∃ p a, prs[i]? = some p ∧ as[i]? = some a ∧ 1 < p ∧ p ≤ 13 ∧ pp (prs.drop i) (as.drop i) = p ^ a * pp (prs.drop (i + 1)) (as.drop (i + 1)) ∧
    Nat.Coprime p (pp (prs.drop (i + 1)) (as.drop (i + 1))) ∧ 0 < pp (prs.drop (i + 1)) (as.drop (i + 1)) := by
  have h1 : i < prs.length := hi
  have h2 : i < as.length := by omega
  have hp := pc_drop i pc_prs
  rw [List.drop_eq_getElem_cons h1] at hp
  refine ⟨prs[i], as[i], List.getElem?_eq_getElem h1, List.getElem?_eq_getElem h2, hp.1, ?_, ?_, cop_pp _ hp.2.1, pp_pos _ hp.2.2⟩
  · have : ∀ p ∈ prs, p ≤ 13 := by decide
    exact this _ (List.getElem_mem h1)
  · rw [List.drop_eq_getElem_cons h1, List.drop_eq_getElem_cons h2]
    rfl
theorem pp_take : ∀ {ps as : List Nat} {i p a : Nat}, ps[i]? = some p → as[i]? = some a → pp (ps.take (i + 1)) (as.take (i + 1)) = pp (ps.take i) (as.take i) * p ^ a
  | [], _, _, _, _, h, _ => by simp at h
  | q :: ps, [], _, _, _, _, h => by simp at h
  | q :: ps, b :: bs, 0, p, a, h1, h2 => by
    simp at h1 h2
    subst h1 h2
    simp [pp]
  | q :: ps, b :: bs, i + 1, p, a, h1, h2 => by
    have ih := pp_take (ps := ps) (as := bs) (i := i) (p := p) (a := a) (by simpa using h1) (by simpa using h2)
    simp only [List.take_succ_cons, pp] at ih ⊢
    rw [ih, Nat.mul_assoc]
theorem pp_split : ∀ (i : Nat) (ps as : List Nat), ps.length = as.length → pp ps as = pp (ps.take i) (as.take i) * pp (ps.drop i) (as.drop i)
  | 0, ps, as, _ => by simp [pp]
  | i + 1, [], [], _ => by simp [pp]
  | i + 1, p :: ps, a :: as, h => by
    simp only [List.take_succ_cons, List.drop_succ_cons, pp]
    rw [pp_split i ps as (by simpa using h), Nat.mul_assoc]
theorem pp_take_le {i : Nat} {as : List Nat} (hl : as.length = 6) : pp (prs.take i) (as.take i) ≤ pp prs as := by
  rw [pp_split i prs as (by rw [hl]; rfl)]
  exact Nat.le_mul_of_pos_right _ (pp_pos _ (pc_drop i pc_prs))
def fill (as : List Nat) (i : Nat) : List Nat := as.take i ++ List.replicate (6 - i) 0
theorem fill_len {as : List Nat} {i : Nat} (hl : as.length = 6) (hi : i ≤ 6) : (fill as i).length = 6 := by
  simp [fill, hl]
  omega
theorem fill_all {as : List Nat} (hl : as.length = 6) : fill as 6 = as := by simp [fill, List.take_of_length_le (Nat.le_of_eq hl)]
theorem fill_set {as : List Nat} {i a : Nat} (hi : i < 6) (hl : as.length = 6) (ha : as[i]? = some a) : (fill as i).set i a = fill as (i + 1) := by
  apply List.ext_getElem
  · rw [List.length_set, fill_len hl (by omega), fill_len hl (by omega)]
  · intro j h1 h2
    have ha' := (List.getElem?_eq_some_iff.mp ha).2
    simp only [fill, List.getElem_set, List.getElem_append, List.length_take, List.getElem_take, List.getElem_replicate]
    by_cases e : i = j
    · subst e
      simp [hl, ha', show i < min (i + 1) 6 by omega]
    · rw [if_neg e]
      by_cases e2 : j < i
      · simp [hl, show j < min i 6 by omega, show j < min (i + 1) 6 by omega]
      · simp [hl, show ¬ j < min i 6 by omega, show ¬ j < min (i + 1) 6 by omega]
theorem fill_one {as : List Nat} {i : Nat} (hi : i < 6) (hl : as.length = 6) (h : pp (prs.drop i) (as.drop i) = 1) : fill as i = as := by
  have z := pp_one (pc_drop i pc_prs) (by simp [prs, hl]) h
  apply List.ext_getElem
  · rw [fill_len hl (by omega), hl]
  · intro j h1 h2
    simp only [fill, List.getElem_append, List.length_take, List.getElem_take, List.getElem_replicate]
    by_cases e : j < min i as.length
    · rw [dif_pos e]
    · rw [dif_neg e]
      have : as[j] ∈ as.drop i := by
        rw [List.mem_iff_getElem]
        exact ⟨j - i, by simp; omega, by simp [show i + (j - i) = j by omega]⟩
      exact (z _ this).symm
/-! ### how often a number divides -/
theorem split_at {p a n : Nat} (hp : 1 < p) (hc : Nat.Coprime p n) (hn : 0 < n) : ¬ p ^ 64 ∣ p ^ (a % 64) * n ∧ ¬ p ∣ n := by
  have h1 : ¬ p ∣ n := fun h => by
    have := hc.eq_one_of_dvd h
    omega
  refine ⟨fun h => h1 ?_, h1⟩
  have h2 : p ^ (a % 64 + 1) ∣ p ^ (a % 64) * n := Nat.dvd_trans (Nat.pow_dvd_pow p (by omega)) h
  rw [Nat.pow_succ] at h2
  exact Nat.dvd_of_mul_dvd_mul_left (Nat.pow_pos (by omega)) h2
theorem split_eq (p a n : Nat) : p ^ a * n = (p ^ 64) ^ (a / 64) * (p ^ (a % 64) * n) := by
  rw [← Nat.mul_assoc, ← Nat.pow_mul, ← Nat.pow_add, Nat.div_add_mod]
theorem pow_inj {p a b A B : Nat} (hp : 1 < p) (hA : Nat.Coprime p A) (h : p ^ a * A = p ^ b * B) : b ≤ a := by
  rcases Nat.lt_or_ge a b with c | c
  · exfalso
    have e : b = a + (b - a - 1 + 1) := by omega
    rw [e, Nat.pow_add, Nat.mul_assoc, Nat.pow_succ] at h
    have h2 := Nat.eq_of_mul_eq_mul_left (Nat.pow_pos (Nat.lt_trans Nat.one_pos hp)) h
    have : p ∣ A := ⟨p ^ (b - a - 1) * B, by rw [h2]; ac_rfl⟩
    have := hA.eq_one_of_dvd this
    omega
  · exact c
theorem pp_inj : ∀ {ps as bs : List Nat}, PC ps → as.length = ps.length → bs.length = ps.length → pp ps as = pp ps bs → as = bs
  | [], [], [], _, _, _, _ => rfl
  | p :: ps, a :: as, b :: bs, hp, h1, h2, h => by
    have cA := cop_pp (k := p) as hp.2.1
    have cB := cop_pp (k := p) bs hp.2.1
    have l1 := pow_inj hp.1 cA h
    have l2 := pow_inj hp.1 cB h.symm
    obtain rfl : a = b := by omega
    have h3 := Nat.eq_of_mul_eq_mul_left (Nat.pow_pos (Nat.lt_trans Nat.one_pos hp.1)) (show p ^ a * pp ps as = p ^ a * pp ps bs from h)
    rw [pp_inj hp.2.2 (by simpa using h1) (by simpa using h2) h3]
theorem e_inj {e f : List Int} (he : e.length = 6) (hf : f.length = 6) (hu : up e = up f) (hd : dn e = dn f) : e = f := by
  have a := pp_inj pc_prs (by simp [upE, he, prs]) (by simp [upE, hf, prs]) (show pp prs (upE e) = pp prs (upE f) from hu)
  have b := pp_inj pc_prs (by simp [dnE, he, prs]) (by simp [dnE, hf, prs]) (show pp prs (dnE e) = pp prs (dnE f) from hd)
  apply List.ext_getElem (by omega)
  intro i h1 h2
  have a' : (upE e)[i]? = (upE f)[i]? := by rw [a]
  have b' : (dnE e)[i]? = (dnE f)[i]? := by rw [b]
  simp [upE, dnE, h1, h2] at a' b'
  omega
theorem toNat_mulN (n : Nat) (x : Int) : ((n : Int) * x).toNat = n * x.toNat := by
  rcases Int.le_total 0 x with c | c
  · obtain ⟨k, rfl⟩ := Int.eq_ofNat_of_zero_le c
    rw [← Int.natCast_mul, Int.toNat_natCast, Int.toNat_natCast]
  · rw [Int.toNat_of_nonpos c, Int.toNat_of_nonpos (Int.mul_nonpos_of_nonneg_of_nonpos (by omega) c), Nat.mul_zero]
theorem up_pow (n : Nat) (e : List Int) : up e ^ n = up (mulE n e) := by
  unfold up
  rw [pp_pow]
  congr 1
  apply List.ext_getElem
  · simp [upE, mulE]
  · intro i h1 h2
    simp only [upE, mulE, List.getElem_map, toNat_mulN]
theorem neg_mulE (n : Int) (e : List Int) : negE (mulE n e) = mulE (-n) e := by
  apply List.ext_getElem
  · simp [negE, mulE]
  · intro i h1 h2
    simp [negE, mulE, Int.neg_mul]
theorem mul_negE (n : Int) (e : List Int) : mulE n (negE e) = mulE (-n) e := by
  apply List.ext_getElem
  · simp [negE, mulE]
  · intro i h1 h2
    simp [negE, mulE, Int.neg_mul, Int.mul_neg]
theorem dn_pow (n : Nat) (e : List Int) : dn e ^ n = dn (mulE n e) := by
  rw [← up_neg, ← up_neg, up_pow, mul_negE, neg_mulE]
theorem pp_at {as : List Nat} {i : Nat} (hi : i < 6) (hl : as.length = 6) : ∃ p a r, prs[i]? = some p ∧ as[i]? = some a ∧ 1 < p ∧ p ≤ 13 ∧ pp prs as = p ^ a * r ∧ 0 < r ∧ ¬ p ∣ r := by
  obtain ⟨p, a, e1, e2, g1, g2, g3, g4, g5⟩ := pp_drop hi hl
  have c1 : ∀ i : Fin 6, ∀ q ∈ prs.take i.val, Nat.Coprime (prs[i.val]'i.isLt) q := by decide
  have ep : prs[i]'hi = p := (List.getElem?_eq_some_iff.mp e1).2
  have c2 := c1 ⟨i, hi⟩
  simp only [ep] at c2
  have cop : Nat.Coprime p (pp (prs.take i) (as.take i) * pp (prs.drop (i + 1)) (as.drop (i + 1))) := Nat.Coprime.mul_right (cop_pp _ c2) g4
  refine ⟨p, a, pp (prs.take i) (as.take i) * pp (prs.drop (i + 1)) (as.drop (i + 1)), e1, e2, g1, g2, ?_, Nat.mul_pos (pp_pos _ (pc_take i pc_prs)) g5, fun h => ?_⟩
  · rw [pp_split i prs as (by rw [hl]; rfl), g3]
    ac_rfl
  · have := cop.eq_one_of_dvd h
    omega
end TL
namespace TL
open PySem PySem.Spec PyProof.Rows L2
theorem repr_X {prog : Program} {w : World} {A : Around} {E' : Value → Shared → Prop} {s : Shared} {K : PySem.W.Frag} {x C f : Addr} {ox : Obj} {od : Option Obj} {Q : Value → Shared → Prop} (hu : A.in1.units < cLine) (X₀ : K.In s.heap) (I : PySem.W.InstAt s.heap x ox C od) (hs : PySem.W.findIn K (.ref C) "__repr__" = some (some (.ref f)))
    (hf : PySem.W.isFn K (.ref f) = true) (h : wpAny (model prog w) A.in1 (call (.ref f) [.ref x]) (fun r s' => ∃ b t, r = Value.str b t ∧ Q r s') E' s) : wpAny (model prog w) A (call (.builtin "repr") [.ref x]) Q E' s := by
  refine Calls.call_function_entry PySem.F.kind_repr PySem.F.plain_repr PySem.F.entry_repr (PySem.F.args_repr1 _) (show wpAny _ _ (Builtin.«repr» _) _ _ s from ?_)
  unfold Builtin.«repr»
  refine wpAny_bind (m := oneArg "repr" _) (wpAny_pure (wpAny_bind (wpAny_cRoomFor hu (wpAny_bind (wpAny_bind (I.type.here ((PySem.W.looks_findIn X₀ hs).here ?_)))))))
  show wpAny _ _ (if (some (Value.ref f)).isNone = true then _ else _) _ _ s
  refine (if_neg (by simp) : (if (some (Value.ref f)).isNone = true then _ else _) = _) ▸ ?_
  refine wpAny_bind (m := callSpecialIfBound? (.ref x) (Str.ofString "__repr__") _) (PySem.W.ifBound_K X₀ I hs hf (wpAny_mono h (fun r s' ⟨b, t, e, hr⟩ => ?_) fun _ _ y => y))
  subst e
  refine wpAny_bind (wpAny_isInstance (typeIs_str _ _ _) isSubtype_str_str (by first | exact wpAny_pure ⟨_, rfl, hr⟩ | (rw [if_pos rfl]; exact wpAny_pure ⟨_, rfl, hr⟩)))
section
variable {X : Cx} {CX : CXT} {k : Nat} {C f : Addr} {fd : FuncData} {ps : List Str} {sp : Sp} {E : XK}
/-! ### str(x), x an instance with its own __str__ -/
def rStrOw (C : Addr) (sp : Sp) (E : XK) : List V → Hp → VK → Prop := fun vs H Q => ∃ a dx fs, vs = [.ref a] ∧ H a = some (.ins C dx fs) ∧ sp [.ref a] H (fun v H' => ∃ b, v = .str b ∧ Q v H') E
theorem call_strOw (at_ : PySem.W.findIn X.K (.ref C) "__str__" = some (some (.ref f))) (fn : PySem.W.isFn X.K (.ref f) = true) (F : FnOk X.prog X.w X.K X.mg X.base CX k f fd ps sp) (hr : Room (k + 2) X.A) (hb : Binds X.K fd ps []) (hx : Passes CX X E) :
    CallR X (.type "str") (rStrOw C sp E) := by
  intro pins s σ H vs us Q I r h
  obtain ⟨a, dx, fs, rfl, ha, q⟩ := h
  obtain rfl := Vals.ref1 r
  obtain ⟨od, J⟩ := inst_at I ha
  have hr2 : Room k X.A.in1.in1 := (show Room (k + 1) X.A.in1 from Room.in1 hr).in1
  refine PySem.W.kso_call (by have := hr2.units; omega) I.kIn J at_ fn (wpAny_mono (run_at2 (us := [.ref a]) (ws := [.ref a]) F hr2 I.env0.in1.in1 hb hx I (.cons rfl .nil) q) (fun w s' z => ?_) fun _ _ x => x)
  obtain ⟨z', H', I', rz, b, rfl, qz⟩ := z
  obtain ⟨t, rfl⟩ := rz
  exact ⟨.str b, H', I', ⟨t, rfl⟩, qz⟩
/-! ### repr(x), x an instance with its own __repr__ -/
theorem call_reprOw (at_ : PySem.W.findIn X.K (.ref C) "__repr__" = some (some (.ref f))) (fn : PySem.W.isFn X.K (.ref f) = true) (F : FnOk X.prog X.w X.K X.mg X.base CX k f fd ps sp) (hr : Room (k + 1) X.A) (hb : Binds X.K fd ps []) (hx : Passes CX X E) :
    CallR X (.builtin "repr") (rStrOw C sp E) := by
  intro pins s σ H vs us Q I r h
  obtain ⟨a, dx, fs, rfl, ha, q⟩ := h
  obtain rfl := Vals.ref1 r
  obtain ⟨od, J⟩ := inst_at I ha
  have hr1 : Room k X.A.in1 := Room.in1 hr
  refine repr_X (by have := hr1.units; omega) I.kIn J at_ fn (wpAny_mono (run_at2 (us := [.ref a]) (ws := [.ref a]) F hr1 I.env0.in1 hb hx I (.cons rfl .nil) q) (fun w s' z => ?_) fun _ _ x => x)
  obtain ⟨z', H', I', rz, b, rfl, qz⟩ := z
  obtain ⟨t, rfl⟩ := rz
  exact ⟨b, t, rfl, .str b, H', I', ⟨t, rfl⟩, qz⟩
/-! ### o.m(k = v, ..), a method called by names alone -/
def tMethK (C : Addr) (m : Str) (sp : Sp) (gV : List V → List V → List V) (E : XK) (ta : TE) (tk : TA) : TE := fun σ H Q => ta σ H fun x H1 => ∃ a dx fs, x = .ref a ∧ H1 a = some (.ins C dx fs) ∧ fs.lookup m = none ∧
  tk σ H1 fun zs H2 => sp (gV [x] zs) H2 Q E
theorem pe_methK {o : Expr} {m : Str} {apos pos : Pos} {kws : List Keyword} {ta : TE} {tk : TA} {ks : List Str} {g : List Value → List Value → List Value} {gV : List V → List V → List V} {pl : Sem Bool} (he : PE X o ta) (c : Cls X.K C) (hm : Meth X.K C m f) (F : FnOk X.prog X.w X.K X.mg X.base CX k f fd ps sp) (hr : Room k X.A)
    (hb : KBinds X.K fd ps ks g gV) (hx : Passes CX X E) (hkw : PK X kws tk) (hall : (backToKw pos (keywordEach kws X.env)).all (·.1.isSome) = true := by rfl) (hks : (backToKw pos (keywordEach kws X.env)).filterMap (·.1) = ks := by rfl)
    (hpl : ((backTo pos (starEach [] X.env)).any (·.1) || (backToKw pos (keywordEach kws X.env)).any (·.1.isNone)) = false := by rfl)
    (ht : eval (.Call (.Attribute o m apos) [] kws pos) X.env = (do
      let ov ← eval o X.env
      standAt apos.atName
      let (f, first) ← holding [ov] (getMethod ov m pl)
      callWith pos f first (backTo pos (starEach [] X.env)) (backToKw pos (keywordEach kws X.env))) := by rfl) : PE X (.Call (.Attribute o m apos) [] kws pos) (tMethK C m sp gV E ta tk) := by
  refine ⟨fun pins s σ H Q I h => PySem.W.methodCall_KW (pl := pl) (thn (he.run pins s σ H _ I h) fun u s1 ⟨x, H1, I1, rx, a, dx, fs, ex, ea, l, q⟩ => ?_) ht⟩
  subst ex
  obtain rfl : u = Value.ref a := rx
  refine getmeth_ok I1 ea c hm l (PySem.W.callWith_KW0 (first := [.ref a]) (h₀ := X.base) I.ok.mod.kin hm.kp hall (thn (hkw.run pos pins s1 σ H1 _ I1 q) fun ws s2 ⟨zs, H2, I2, rz, q2⟩ => ⟨I2.kIn, ?_⟩) hpl)
  rw [hks]
  exact run_fnk (us := [.ref a]) (vs := [.ref a]) F hr hb hx I2 (.cons rfl .nil) rz q2
/-! ### C.m(..), m a staticmethod of C: its record at p, its def at f -/
structure SMet (K : PySem.W.Frag) (C : Addr) (m : Str) (p f : Addr) : Prop where
  at_ : PySem.W.findCls K (.ref C) (.type "type") m = some (.get (.builtin "staticmethod.__get__") (.ref p) .none (.ref C))
  rc : ∃ rest, PySem.W.recIn K p "staticmethod" = some (.ref f :: rest)
  kp : PySem.W.keepIn K (.ref f) = true
theorem getsm_ok {pins : List (Addr × Obj)} {σ : L2.St} {H : Hp} {s : Shared} {A : Around} {E : Value → Shared → Prop} {m : Str} {p : Addr} {pl : Sem Bool} {Q : Value × List Value → Shared → Prop} (I : Inv X pins σ H s) (r : ClX.CRead X.K C (.type "type")) (c : SMet X.K C m p f)
    (h : ∀ s', Inv X pins σ H s' → Q (.ref f, []) s') : wpAny (model X.prog X.w) A (getMethod (.ref C) m pl) Q E s := by
  obtain ⟨rest, hp⟩ := c.rc
  exact PySem.W.method_cls I.kIn r.ga (PySem.W.cls_bind I.kIn r.rd c.at_ (wpAny_call (PySem.W.sm_get (s := { s with toks := s.toks + 1 }) I.kIn hp (PySem.W.handed_on rfl (h _ (I.tok _))))))
def tSm (C : Addr) (sp : Sp) (dvs : List V) (E : XK) (ta : TE) (t : TA) : TE := fun σ H Q => ta σ H fun x H1 => x = .ref C ∧ t σ H1 fun vs H2 => sp (vs ++ dvs) H2 Q E
theorem pe_sm {o e : Expr} {es : List Expr} {m : Str} {p : Addr} {apos pos : Pos} {ta : TE} {t : TA} {dvs : List V} {ds : List Value} {pl : Sem Bool} (he : PE X o ta) (r : ClX.CRead X.K C (.type "type")) (c : SMet X.K C m p f) (F : FnOk X.prog X.w X.K X.mg X.base CX k f fd ps sp) (hr : Room k X.A) (hb : Binds X.K fd ps ds) (hd : Vals dvs ds) (hx : Passes CX X E)
    (ha : PA X (e :: es) t) (hst : starEach (e :: es) X.env = (false, eval e X.env) :: starEach es X.env := by rfl) (hpl : (backTo pos (starEach es X.env)).any (·.1) = false := by rfl)
    (ht : eval (.Call (.Attribute o m apos) (e :: es) [] pos) X.env = (do
      let ov ← eval o X.env
      standAt apos.atName
      let (f, first) ← holding [ov] (getMethod ov m pl)
      callWith pos f first (backTo pos (starEach (e :: es) X.env)) (backToKw pos (keywordEach [] X.env))) := by rfl) : PE X (.Call (.Attribute o m apos) (e :: es) [] pos) (tSm C sp dvs E ta t) := by
  refine ⟨fun pins s σ H Q I h => PySem.W.methodCall_KW (pl := pl) (thn (he.run pins s σ H _ I h) fun u s1 ⟨x, H1, I1, rx, ex, q⟩ => ?_) ht⟩
  subst ex
  obtain rfl : u = Value.ref C := rx
  refine getsm_ok I1 r c fun s2 I2 => PySem.W.callWith_K (first := []) (h₀ := X.base) I.ok.mod.kin c.kp (thn (ha.run pos pins s2 σ H1 _ I2 q) fun us s3 ⟨vs, H2, I3, rv, q2⟩ => ⟨I3.kIn, ?_⟩) hst hpl
  exact run_fn (us := us) (vs := vs) F hr hb hd hx I3 rv q2
def tSmK (C : Addr) (sp : Sp) (gV : List V → List V → List V) (E : XK) (ta : TE) (tk : TA) : TE := fun σ H Q => ta σ H fun x H1 => x = .ref C ∧ tk σ H1 fun zs H2 => sp (gV [] zs) H2 Q E
theorem pe_smK {o : Expr} {m : Str} {p : Addr} {apos pos : Pos} {kws : List Keyword} {ta : TE} {tk : TA} {ks : List Str} {g : List Value → List Value → List Value} {gV : List V → List V → List V} {pl : Sem Bool} (he : PE X o ta) (r : ClX.CRead X.K C (.type "type")) (c : SMet X.K C m p f) (F : FnOk X.prog X.w X.K X.mg X.base CX k f fd ps sp) (hr : Room k X.A)
    (hb : KBinds X.K fd ps ks g gV) (hx : Passes CX X E) (hkw : PK X kws tk) (hall : (backToKw pos (keywordEach kws X.env)).all (·.1.isSome) = true := by rfl) (hks : (backToKw pos (keywordEach kws X.env)).filterMap (·.1) = ks := by rfl)
    (hpl : ((backTo pos (starEach [] X.env)).any (·.1) || (backToKw pos (keywordEach kws X.env)).any (·.1.isNone)) = false := by rfl)
    (ht : eval (.Call (.Attribute o m apos) [] kws pos) X.env = (do
      let ov ← eval o X.env
      standAt apos.atName
      let (f, first) ← holding [ov] (getMethod ov m pl)
      callWith pos f first (backTo pos (starEach [] X.env)) (backToKw pos (keywordEach kws X.env))) := by rfl) : PE X (.Call (.Attribute o m apos) [] kws pos) (tSmK C sp gV E ta tk) := by
  refine ⟨fun pins s σ H Q I h => PySem.W.methodCall_KW (pl := pl) (thn (he.run pins s σ H _ I h) fun u s1 ⟨x, H1, I1, rx, ex, q⟩ => ?_) ht⟩
  subst ex
  obtain rfl : u = Value.ref C := rx
  refine getsm_ok I1 r c fun s2 I2 => PySem.W.callWith_KW0 (first := []) (h₀ := X.base) I.ok.mod.kin c.kp hall (thn (hkw.run pos pins s2 σ H1 _ I2 q) fun ws s3 ⟨zs, H2, I3, rz, q2⟩ => ⟨I3.kIn, ?_⟩) hpl
  rw [hks]
  exact run_fnk (us := []) (vs := []) F hr hb hx I3 .nil rz q2
/-! ### x == y, x an instance with its own __eq__, y something else -/
def rOwN (K : PySem.W.Frag) (C : Addr) (sp : Sp) (E : XK) : R2 := fun x y H Q => ∃ a dx fs t, x = .ref a ∧ H a = some (.ins C dx fs) ∧ TyX K H y (.type t) ∧ PySem.W.subIn K (.type t) (.ref C) = some false ∧ sp [x, y] H Q E
theorem op_owEqN (at_ : PySem.W.findIn X.K (.ref C) "__eq__" = some (some (.ref f))) (fn : PySem.W.isFn X.K (.ref f) = true) (F : FnOk X.prog X.w X.K X.mg X.base CX k f fd ps sp) (hr : Room k X.A) (hb : Binds X.K fd ps []) (hx : Passes CX X E) :
    OpR X (compareOp .Eq) (rOwN X.K C sp E) := by
  intro pins s σ H x y v u Q I rx ry h
  obtain ⟨a, dx, fs, t, rfl, ha, ty, hsub, q⟩ := h
  cases (show v = Value.ref a from rx)
  obtain ⟨od, J⟩ := inst_at I ha
  obtain ⟨P, Z, hP, _⟩ := kit_of I ry ty
  obtain ⟨m, hF⟩ := I.fr
  refine PySem.W.cmp_K (op := .Eq) (tb := .type t) hr.units0 hF I.ok.mod.kin J (Z.ty _ s.heap I.kIn hP) (by simp [PySem.W.notFirst, hsub]) at_ fn ?_
  refine wpAny_mono (run_fn (us := [.ref a, u]) (vs := [.ref a, y]) F hr hb .nil hx I (.cons rfl (.cons ry .nil)) q) (fun w s' z => ?_) fun _ _ x => x
  obtain ⟨z', H', I', rz, qz⟩ := z
  exact cb rz ⟨z', H', I', rz, qz⟩
end
end TL
namespace TL
open PySem L2
/-! ### how keywords bind: one value by place and one by name, or one by name alone -/
def g11 {α : Type} : List α → List α → List α
  | [a], [b] => [a, b]
  | _, _ => []
def g01 {α : Type} : List α → List α → List α
  | [], [a] => [a]
  | _, _ => []
theorem vals_g11 {vs zs : List V} {us ws : List Value} (r : Vals vs us) (q : Vals zs ws) : Vals (g11 vs zs) (g11 us ws) := by
  rcases r with _ | ⟨h1, _ | ⟨_, _⟩⟩ <;> rcases q with _ | ⟨h2, _ | ⟨_, _⟩⟩ <;> first | exact .nil | exact .cons h1 (.cons h2 .nil)
theorem vals_g01 {vs zs : List V} {us ws : List Value} (r : Vals vs us) (q : Vals zs ws) : Vals (g01 vs zs) (g01 us ws) := by
  rcases r with _ | ⟨h1, _ | ⟨_, _⟩⟩ <;> rcases q with _ | ⟨h2, _ | ⟨_, _⟩⟩ <;> first | exact .nil | exact .cons h2 .nil
theorem g11_two {α : Type} {us ws : List α} (h : (g11 us ws).length = 2) : ∃ a b, us = [a] ∧ ws = [b] := by
  match us, ws, h with
  | [a], [b], _ => exact ⟨a, b, rfl, rfl⟩
  | [], _, h => simp [g11] at h
  | _ :: _ :: _, _, h => simp [g11] at h
  | [_], [], h => simp [g11] at h
  | [_], _ :: _ :: _, h => simp [g11] at h
theorem g01_one {α : Type} {us ws : List α} (h : (g01 us ws).length = 1) : ∃ a, us = [] ∧ ws = [a] := by
  match us, ws, h with
  | [], [a], _ => exact ⟨a, rfl, rfl⟩
  | _ :: _, _, h => simp [g01] at h
  | [], [], h => simp [g01] at h
  | [], _ :: _ :: _, h => simp [g01] at h
theorem Fun.kb11 {K : PySem.W.Frag} {x qual : Str} {st : Stmt} {f : Addr} {fd : FuncData} {p1 p2 : Str} (F : L2.Fun K x qual st f fd)
    (h : ∀ (kV doc pm : Value) (an : Option Addr) (cdv ct a b : Value), bindArgs (PySem.W.fnOf x qual (defArgs st) (defBody st) (defScope st) .none kV doc pm an cdv ct) ⟨[a], [(p2, b)]⟩ = pure [(p1, a), (p2, b)]) : KBinds K fd [p1, p2] [p2] g11 g11 := by
  obtain ⟨oc, od, kV, doc, pm, an, cdv, ct, osl, rfl, lk, hcd⟩ := F.ex
  refine ⟨fun s us ws X hl => ?_, vals_g11⟩
  obtain ⟨a, b, rfl, rfl⟩ := g11_two hl
  exact .of_eq (h _ _ _ _ _ _ a b)
theorem Fun.kb01 {K : PySem.W.Frag} {x qual : Str} {st : Stmt} {f : Addr} {fd : FuncData} {p1 : Str} (F : L2.Fun K x qual st f fd)
    (h : ∀ (kV doc pm : Value) (an : Option Addr) (cdv ct a : Value), bindArgs (PySem.W.fnOf x qual (defArgs st) (defBody st) (defScope st) .none kV doc pm an cdv ct) ⟨[], [(p1, a)]⟩ = pure [(p1, a)]) : KBinds K fd [p1] [p1] g01 g01 := by
  obtain ⟨oc, od, kV, doc, pm, an, cdv, ct, osl, rfl, lk, hcd⟩ := F.ex
  refine ⟨fun s us ws X hl => ?_, vals_g01⟩
  obtain ⟨a, rfl, rfl⟩ := g01_one hl
  exact .of_eq (h _ _ _ _ _ _ a)
/-- a def with defaults, called with keywords, all parameters written: g puts them in order -/
theorem FunD.kbinds1 {K : PySem.W.Frag} {x qual : Str} {params : Arguments} {body : List Stmt} {scope : Scope} {dvs : List V} {kws : List (Str × V)} {f : Addr} {fd : FuncData} {ps : List Str} (F : FunD K x qual params body scope dvs kws f fd) (n : Nat) (ks : List Str) (g : {α : Type} → List α → List α → List α) (hd : dvs ≠ [])
    (hrel : ∀ {vs zs : List V} {us ws : List Value}, Vals vs us → Vals zs ws → Vals (g vs zs) (g us ws))
    (h : ∀ (T : Addr) (kV doc pm : Value) (an : Option Addr) (cdv ct : Value) (us its ws : List Value), us.length = n → its.length = dvs.length → ws.length = ks.length →
      ∃ k, bindArgs (PySem.W.fnOf x qual params body scope (.ref T) kV doc pm an cdv ct) ⟨us, ks.zip ws⟩ = seqItems? (.ref T) >>= k ∧ k (some its.toArray) = pure (ps.zip (g us ws))) : KBn K fd ps n ks (fun us ws => g us ws) (fun vs zs => g vs zs) := by
  obtain ⟨oc, od, dV, kV, doc, pm, an, cdv, ct, osl, rfl, lk, hcd, hD, hK⟩ := F.ex
  rcases hD with ⟨e, _⟩ | ⟨_, T, o, its, m, rfl, lT, oT, rT⟩
  · exact absurd e hd
  · refine ⟨fun s us ws X l1 l2 => BindsTo.of_looks fun M => ?_, hrel⟩
    obtain ⟨k, e1, e2⟩ := h T kV doc pm an cdv ct us its ws l1 rT.length.symm l2
    rw [e1]
    exact looks_items X lT oT (.of_pure e2)
/-- the two values by name, the second parameter first -/
def gSwap {α : Type} (us ws : List α) : List α := us ++ ws.reverse
theorem vals_rev {vs : List V} {us : List Value} (r : Vals vs us) : Vals vs.reverse us.reverse := by
  induction r with
  | nil => exact .nil
  | cons h _ ih => rw [List.reverse_cons, List.reverse_cons]; exact ih.append (.cons h .nil)
theorem vals_swap {vs zs : List V} {us ws : List Value} (r : Vals vs us) (q : Vals zs ws) : Vals (gSwap vs zs) (gSwap us ws) := r.append (vals_rev q)
def gApp {α : Type} (us ws : List α) : List α := us ++ ws
theorem vals_app {vs zs : List V} {us ws : List Value} (r : Vals vs us) (q : Vals zs ws) : Vals (gApp vs zs) (gApp us ws) := r.append q
end TL
namespace TL
open PySem L2
/-! ### a def called by names alone -/
section
variable {X : Cx} {CX : CXT} {k : Nat} {x : Str} {f : Addr} {fd : FuncData} {ps ks : List Str} {sp : Sp} {E : XK} {tk : TA} {kws : List Keyword} {p pos : Pos} {g : List Value → List Value → List Value} {gV : List V → List V → List V}
def tCallK0 (sp : Sp) (gV : List V → List V → List V) (E : XK) (tk : TA) : TE := fun σ H Q => tk σ H fun zs H2 => sp (gV [] zs) H2 Q E
theorem pe_callK0 (F : FnOk X.prog X.w X.K X.mg X.base CX k f fd ps sp) (hr : Room k X.A) (hg : Gl X x) (hm : X.mg x = some (.ref f)) (hk : PySem.W.keepIn X.K (.ref f) = true) (hb : KBinds X.K fd ps ks g gV) (hx : Passes CX X E)
    (hkw : PK X kws tk) (hall : (backToKw pos (keywordEach kws X.env)).all (·.1.isSome) = true := by rfl) (hks : (backToKw pos (keywordEach kws X.env)).filterMap (·.1) = ks := by rfl)
    (hdb : (x == ("__debug__" : Str)) = false := by decide)
    (hpl : ((backTo pos (starEach [] X.env)).any (·.1) || (backToKw pos (keywordEach kws X.env)).any (·.1.isNone)) = false := by rfl) :
    PE X (.Call (.Name x p) [] kws pos) (tCallK0 sp gV E tk) := by
  refine ⟨fun pins s σ H Q I h => ?_⟩
  refine wpAny_Call_Name_kw (ld_glob I hg hm ?_ hdb)
  refine PySem.W.callWith_KW0 (first := []) (h₀ := X.base) I.ok.mod.kin hk hall (thn (hkw.run pos pins s σ H _ I h) fun ws s2 ⟨zs, H2, I2, rz, q2⟩ => ⟨I2.kIn, ?_⟩) hpl
  rw [hks]
  exact run_fnk (us := []) (vs := []) F hr hb hx I2 .nil rz q2
end
/-- two values by name, the second parameter first -/
def g02s {α : Type} : List α → List α → List α
  | [], [a, b] => [b, a]
  | _, _ => []
theorem vals_g02s {vs zs : List V} {us ws : List Value} (r : Vals vs us) (q : Vals zs ws) : Vals (g02s vs zs) (g02s us ws) := by
  rcases r with _ | ⟨h1, _⟩
  · rcases q with _ | ⟨h2, _ | ⟨h3, _ | ⟨_, _⟩⟩⟩ <;> first | exact .nil | exact .cons h3 (.cons h2 .nil)
  · exact .nil
theorem g02s_two {α : Type} {us ws : List α} (h : (g02s us ws).length = 2) : ∃ a b, us = [] ∧ ws = [a, b] := by
  match us, ws, h with
  | [], [a, b], _ => exact ⟨a, b, rfl, rfl⟩
  | _ :: _, _, h => simp [g02s] at h
  | [], [], h => simp [g02s] at h
  | [], [_], h => simp [g02s] at h
  | [], _ :: _ :: _ :: _, h => simp [g02s] at h
theorem Fun.kb02s {K : PySem.W.Frag} {x qual : Str} {st : Stmt} {f : Addr} {fd : FuncData} {p1 p2 : Str} (F : L2.Fun K x qual st f fd)
    (h : ∀ (kV doc pm : Value) (an : Option Addr) (cdv ct a b : Value), bindArgs (PySem.W.fnOf x qual (defArgs st) (defBody st) (defScope st) .none kV doc pm an cdv ct) ⟨[], [(p2, b), (p1, a)]⟩ = pure [(p1, a), (p2, b)]) : KBinds K fd [p1, p2] [p2, p1] g02s g02s := by
  obtain ⟨oc, od, kV, doc, pm, an, cdv, ct, osl, rfl, lk, hcd⟩ := F.ex
  refine ⟨fun s us ws X hl => ?_, vals_g02s⟩
  obtain ⟨a, b, rfl, rfl⟩ := g02s_two hl
  exact .of_eq (h _ _ _ _ _ _ b a)
end TL
namespace TL
open PySem PySem.Spec PyProof.Rows L2
/-! ### max and min of a tuple of ints -/
section
variable {prog : Program} {w : World} {A : Around} {E : Value → Shared → Prop} {s : Shared} {l : Addr} {xs : Array (Int × Tok)}
theorem iter_intTuple {Q : Value → Shared → Prop} (hl : s.heap.IsTuple l (intItems xs))
    (h : ∀ s₂ : Shared, s₂ = { s with heap := s.heap.push { cls := .type "tuple_iterator", data := .fields #[.ref l, .int 0 0] } } →
      (s₂.heap.IsTupleIter s.heap.objs.size l 0 ∧ s₂.heap.IsTuple l (intItems xs)) → (∀ b ∈ [s.heap.objs.size, l], b < s₂.heap.objs.size) → l ≠ s.heap.objs.size → Q (.ref s.heap.objs.size) s₂) :
    wpAny (model prog w) A (pyIter (.ref l)) Q E s := by
  have hlt : l < s.heap.objs.size := by obtain ⟨_, e, _⟩ := hl; exact Heap.lt_size e
  refine wpAny_pyIter_tuple hl (h _ rfl ⟨⟨_, Heap.get?_push_size _ rfl, rfl, rfl⟩, hl.push _⟩ (fun b hb => ?_) (Nat.ne_of_lt hlt))
  show b < (s.heap.push _).objs.size
  rw [Heap.size_push]
  rcases List.mem_cons.mp hb with rfl | hb
  · exact Nat.lt_succ_self _
  · rcases List.mem_cons.mp hb with rfl | hb
    · exact Nat.lt_succ_of_lt hlt
    · cases hb
theorem old_keptT {h' : Heap} (hk : ∀ b o, b ∉ [s.heap.objs.size] → (s.heap.push { cls := .type "tuple_iterator", data := .fields #[.ref l, .int 0 0] }).get? b = some o → h'.get? b = some o) :
    ∀ b o, s.heap.get? b = some o → h'.get? b = some o := fun b o e => by
  refine hk b o (fun hm => ?_) (Heap.get?_push_of_some _ e)
  rcases List.mem_cons.mp hm with e1 | hm
  · rw [e1] at e
    exact absurd (Heap.lt_size e) (Nat.lt_irrefl _)
  · cases hm
theorem max_intTuple {Q : Value → Shared → Prop} (hh : A.handled = none) (hl : s.heap.IsTuple l (intItems xs)) (hne : 0 < xs.size)
    (h : ∀ v h' tk, (intItems xs)[argBest (fun i j => decide (numAt xs i > numAt xs j)) (xs.size - 1)]? = some v → (∀ b o, s.heap.get? b = some o → h'.get? b = some o) → Q v { s with heap := h', toks := tk }) :
    wpAny (model prog w) A (call (.builtin "max") [.ref l]) Q E s := by
  refine call_max_walk (iter_intTuple hl fun s₂ e st hfp hlI => ?_)
  subst e
  refine ⟨_, _, _, _, _, _, _, rfl, Walks.tuple (A := A.in1) hh _ l hlI (intItems xs), st, hfp, by simpa [intItems] using hne, CmpOf.ints_gt (numAt xs) (fun _ _ => intItems_at), fun v h' tk hP hk => ?_⟩
  exact h v h' tk (by simpa [intItems] using hP) (old_keptT hk)
theorem min_intTuple {Q : Value → Shared → Prop} (hh : A.handled = none) (hl : s.heap.IsTuple l (intItems xs)) (hne : 0 < xs.size)
    (h : ∀ v h' tk, (intItems xs)[argBest (fun i j => decide (numAt xs i < numAt xs j)) (xs.size - 1)]? = some v → (∀ b o, s.heap.get? b = some o → h'.get? b = some o) → Q v { s with heap := h', toks := tk }) :
    wpAny (model prog w) A (call (.builtin "min") [.ref l]) Q E s := by
  refine call_min_walk (iter_intTuple hl fun s₂ e st hfp hlI => ?_)
  subst e
  refine ⟨_, _, _, _, _, _, _, rfl, Walks.tuple (A := A.in1) hh _ l hlI (intItems xs), st, hfp, by simpa [intItems] using hne, CmpOf.ints_lt (numAt xs) (fun _ _ => intItems_at), fun v h' tk hP hk => ?_⟩
  exact h v h' tk (by simpa [intItems] using hP) (old_keptT hk)
end
section
variable {prog : Program} {w : World} {A : Around} {E : Value → Shared → Prop} {s : Shared} {l : Addr} {its : List Value} {ns : List Int} {Q : Value → Shared → Prop}
theorem max_rawT (hh : A.handled = none) (hl : s.heap.IsTuple l its.toArray) (hi : IntsAre its ns) (hne : 0 < ns.length)
    (h : ∀ h' tk M t', (∀ b o, s.heap.get? b = some o → h'.get? b = some o) → M ∈ ns → (∀ a, a ∈ ns → a ≤ M) → Q (.int M t') { s with heap := h', toks := tk }) : wpAny (model prog w) A (call (.builtin "max") [.ref l]) Q E s := by
  obtain ⟨xs, e⟩ := hi.allInts.items
  have hn : numsOf (intItems xs).toList = ns := by rw [← e]; exact hi.numsOf
  rw [nums_intItems] at hn
  subst hn
  rw [e] at hl
  have hsz : 0 < xs.size := by simpa using hne
  refine max_intTuple hh hl hsz fun v h' tk hv hk => ?_
  obtain ⟨t, rfl⟩ := intItems_at hv
  obtain ⟨h1, h2⟩ := argBest_gt (numAt xs) (xs.size - 1)
  refine h h' tk _ t hk ?_ fun a ha => ?_
  · rw [numAt_eq]; exact PySem.getD_mem (by rw [List.length_map, Array.length_toList]; omega)
  · obtain ⟨j, hj, rfl⟩ := mem_getD ha
    rw [List.length_map, Array.length_toList] at hj
    rw [← numAt_eq]; exact h2 j (by omega)
theorem min_rawT (hh : A.handled = none) (hl : s.heap.IsTuple l its.toArray) (hi : IntsAre its ns) (hne : 0 < ns.length)
    (h : ∀ h' tk M t', (∀ b o, s.heap.get? b = some o → h'.get? b = some o) → M ∈ ns → (∀ a, a ∈ ns → M ≤ a) → Q (.int M t') { s with heap := h', toks := tk }) : wpAny (model prog w) A (call (.builtin "min") [.ref l]) Q E s := by
  obtain ⟨xs, e⟩ := hi.allInts.items
  have hn : numsOf (intItems xs).toList = ns := by rw [← e]; exact hi.numsOf
  rw [nums_intItems] at hn
  subst hn
  rw [e] at hl
  have hsz : 0 < xs.size := by simpa using hne
  refine min_intTuple hh hl hsz fun v h' tk hv hk => ?_
  obtain ⟨t, rfl⟩ := intItems_at hv
  obtain ⟨h1, h2⟩ := argBest_lt (numAt xs) (xs.size - 1)
  refine h h' tk _ t hk ?_ fun a ha => ?_
  · rw [numAt_eq]; exact PySem.getD_mem (by rw [List.length_map, Array.length_toList]; omega)
  · obtain ⟨j, hj, rfl⟩ := mem_getD ha
    rw [List.length_map, Array.length_toList] at hj
    rw [← numAt_eq]; exact h2 j (by omega)
end
section
variable {X : Cx}
/-- max(xs), min(xs) of a list or a tuple of ints -/
def rMaxS (K : PySem.W.Frag) : List V → Hp → VK → Prop := fun vs H Q => ∃ (a : Addr) (ns : List Int), vs = [V.ref a] ∧ Sq K H a (ns.map V.int) ∧ 0 < ns.length ∧ ∀ m, m ∈ ns → (∀ y, y ∈ ns → y ≤ m) → Q (.int m) H
def rMinS (K : PySem.W.Frag) : List V → Hp → VK → Prop := fun vs H Q => ∃ (a : Addr) (ns : List Int), vs = [V.ref a] ∧ Sq K H a (ns.map V.int) ∧ 0 < ns.length ∧ ∀ m, m ∈ ns → (∀ y, y ∈ ns → m ≤ y) → Q (.int m) H
theorem cr_maxS (hc : X.calm = true) : CallR X (.builtin "max") (rMaxS X.K) := by
  intro pins s σ H vs us Q I r h
  obtain ⟨a, ns, rfl, hs, hne, q⟩ := h
  rcases hs with hs | hs
  · exact cr_max hc pins s σ H _ us Q I r ⟨a, ns, rfl, hs, hne, q⟩
  · obtain ⟨its, rv, hl, _⟩ := I.tuple hs
    rw [Vals.ref1 r]
    exact max_rawT (I.ok.hd hc) hl rv.ints hne fun h' tk m t' hk h1 h2 => ⟨.int _, H, I.kept hk, ⟨_, rfl⟩, q m h1 h2⟩
theorem cr_minS (hc : X.calm = true) : CallR X (.builtin "min") (rMinS X.K) := by
  intro pins s σ H vs us Q I r h
  obtain ⟨a, ns, rfl, hs, hne, q⟩ := h
  rcases hs with hs | hs
  · exact cr_min hc pins s σ H _ us Q I r ⟨a, ns, rfl, hs, hne, q⟩
  · obtain ⟨its, rv, hl, _⟩ := I.tuple hs
    rw [Vals.ref1 r]
    exact min_rawT (I.ok.hd hc) hl rv.ints hne fun h' tk m t' hk h1 h2 => ⟨.int _, H, I.kept hk, ⟨_, rfl⟩, q m h1 h2⟩
end
end TL
namespace TL
theorem pp_bound {k : Nat} : ∀ {ps as : List Nat}, (∀ p ∈ ps, 0 < p) → (∀ a ∈ as, a ≤ k) → pp ps as ≤ ps.foldr (· * ·) 1 ^ k
  | [], _, _, _ => by simp [pp]
  | p :: ps, [], h, _ => by
    have : ∀ qs : List Nat, (∀ q ∈ qs, 0 < q) → 0 < qs.foldr (· * ·) 1 := by
      intro qs
      induction qs with
      | nil => intro _; exact Nat.one_pos
      | cons q qs ih => intro hq; exact Nat.mul_pos (hq q (List.mem_cons_self ..)) (ih fun r hr => hq r (List.mem_cons_of_mem _ hr))
    exact Nat.pow_pos (this (p :: ps) h)
  | p :: ps, a :: as, h, ha => by
    have ih := pp_bound (ps := ps) (as := as) (fun q hq => h q (List.mem_cons_of_mem _ hq)) (fun b hb => ha b (List.mem_cons_of_mem _ hb))
    simp only [pp, List.foldr_cons, Nat.mul_pow]
    exact Nat.mul_le_mul (Nat.pow_le_pow_right (h p (List.mem_cons_self ..)) (ha a (List.mem_cons_self ..))) ih
/-- exponents of at most k -/
def Ex (k : Nat) (e : List Int) : Prop := ∀ x ∈ e, x.natAbs ≤ k
theorem ex_up {k : Nat} {e : List Int} (h : Ex k e) : up e ≤ 30030 ^ k := pp_bound (ps := prs) (by decide) fun a ha => by
  obtain ⟨x, hx, rfl⟩ := List.mem_map.mp (show a ∈ e.map Int.toNat from ha)
  have := h x hx
  omega
theorem ex_neg {k : Nat} {e : List Int} (h : Ex k e) : Ex k (negE e) := fun x hx => by
  obtain ⟨y, hy, rfl⟩ := List.mem_map.mp (show x ∈ e.map (- ·) from hx)
  rw [Int.natAbs_neg]
  exact h y hy
theorem ex_dn {k : Nat} {e : List Int} (h : Ex k e) : dn e ≤ 30030 ^ k := by
  rw [← up_neg]
  exact ex_up (ex_neg h)
theorem ex_mul {k : Nat} {e : List Int} {n : Int} {m : Nat} (hn : n.natAbs ≤ m) (h : Ex k e) : Ex (m * k) (mulE n e) := fun x hx => by
  obtain ⟨y, hy, rfl⟩ := List.mem_map.mp (show x ∈ e.map (n * ·) from hx)
  rw [Int.natAbs_mul]
  exact Nat.mul_le_mul hn (h y hy)
theorem big {k : Nat} (h : k ≤ 266) : 30030 ^ k < 2 ^ 4000 := by
  have h1 : 30030 ^ k ≤ (2 ^ 15) ^ k := Nat.pow_le_pow_left (by decide) k
  rw [← Nat.pow_mul] at h1
  exact Nat.lt_of_le_of_lt h1 (Nat.pow_lt_pow_right (by decide) (by omega))
end TL
namespace TL
theorem pp_sum : ∀ {ps as : List Nat}, (∀ p ∈ ps, 0 < p ∧ p ≤ 13) → pp ps as ≤ 13 ^ as.sum
  | [], _, _ => by simp only [pp]; exact Nat.pow_pos (by decide)
  | p :: ps, [], h => by simp [pp]
  | p :: ps, a :: as, h => by
    have ih := pp_sum (ps := ps) (as := as) (fun q hq => h q (List.mem_cons_of_mem _ hq))
    simp only [pp, List.sum_cons, Nat.pow_add]
    exact Nat.mul_le_mul (Nat.pow_le_pow_left (h p (List.mem_cons_self ..)).2 a) ih
theorem set_sum : ∀ (as : List Nat) (j a : Nat), (as.set j a).sum ≤ as.sum + a
  | [], _, _ => by simp
  | x :: as, 0, a => by simp only [List.set_cons_zero, List.sum_cons]; omega
  | x :: as, j + 1, a => by
    have := set_sum as j a
    simp only [List.set_cons_succ, List.sum_cons]
    omega
theorem sum_le {k : Nat} : ∀ {as : List Nat}, (∀ a ∈ as, a ≤ k) → as.sum ≤ as.length * k
  | [], _ => by simp
  | x :: as, h => by
    have ih := sum_le (as := as) fun a ha => h a (List.mem_cons_of_mem _ ha)
    have := h x (List.mem_cons_self ..)
    simp only [List.sum_cons, List.length_cons, Nat.add_mul, Nat.one_mul]
    omega
theorem prs_le : ∀ p ∈ prs, 0 < p ∧ p ≤ 13 := by decide
theorem upE_le {k : Nat} {e : List Int} (h : Ex k e) : ∀ a ∈ upE e, a ≤ k := fun a ha => by
  obtain ⟨x, hx, rfl⟩ := List.mem_map.mp (show a ∈ e.map Int.toNat from ha)
  have := h x hx
  omega
/-- what is known of a drawn ratio -/
def Kd (e : List Int) : Prop := up e < 2 ^ 200 ∧ dn e < 2 ^ 200
theorem up_sum {e : List Int} {m : Nat} (h : (upE e).sum ≤ m) (hm : m ≤ 50) : up e < 2 ^ 200 :=
  Nat.lt_of_le_of_lt (Nat.le_trans (pp_sum (ps := prs) prs_le) (Nat.pow_le_pow_right (by decide) (Nat.le_trans h hm))) (by decide : 13 ^ 50 < 2 ^ 200)
theorem up_ex3 {e : List Int} (h6 : e.length = 6) (h : Ex 3 e) : up e < 2 ^ 200 := up_sum (m := 18) (Nat.le_trans (sum_le (upE_le h)) (by rw [upE, List.length_map, h6]; decide)) (by decide)
theorem kd_ex3 {e : List Int} (h6 : e.length = 6) (h : Ex 3 e) : Kd e := ⟨up_ex3 h6 h, by rw [← up_neg]; exact up_ex3 (by simpa [negE] using h6) (ex_neg h)⟩
theorem up_set40 {e : List Int} {j : Nat} {v : Int} (h6 : e.length = 6) (h : Ex 1 e) (hv : v.natAbs ≤ 40) : up (e.set j v) < 2 ^ 200 := by
  have e1 : upE (e.set j v) = (upE e).set j v.toNat := by simp only [upE, List.map_set]
  refine up_sum (m := 46) ?_ (by decide)
  rw [e1]
  have h1 := set_sum (upE e) j v.toNat
  have h2 := sum_le (upE_le h)
  have h3 : (upE e).length = 6 := by rw [upE, List.length_map, h6]
  rw [h3] at h2
  omega
theorem kd_set40 {e : List Int} {j : Nat} {v : Int} (h6 : e.length = 6) (h : Ex 1 e) (hv : v.natAbs ≤ 40) : Kd (e.set j v) := ⟨up_set40 h6 h hv, by
  rw [← up_neg]
  have e1 : negE (e.set j v) = (negE e).set j (-v) := by simp only [negE, List.map_set]
  rw [e1]
  exact up_set40 (by simpa [negE] using h6) (ex_neg h) (by omega)⟩
theorem pp_ge : ∀ {ps as : List Nat}, (∀ p ∈ ps, 2 ≤ p) → as.length ≤ ps.length → ∀ a ∈ as, 2 ^ a ≤ pp ps as
  | [], [], _, _, _, h => by cases h
  | [], _ :: _, _, h, _, _ => absurd h (by simp)
  | _ :: _, [], _, _, _, h => by cases h
  | p :: ps, b :: as, hp, hl, a, ha => by
    have pos : ∀ (ps as : List Nat), (∀ p ∈ ps, 2 ≤ p) → 0 < pp ps as := by
      intro ps
      induction ps with
      | nil => intro as _; simp [pp]
      | cons q ps ih => intro as h; cases as with
        | nil => simp [pp]
        | cons c as => exact Nat.mul_pos (Nat.pow_pos (Nat.lt_of_lt_of_le (by decide) (h q (List.mem_cons_self ..)))) (ih as fun r hr => h r (List.mem_cons_of_mem _ hr))
    have hp' : ∀ q ∈ ps, 2 ≤ q := fun q hq => hp q (List.mem_cons_of_mem _ hq)
    simp only [pp]
    have p2 := hp p (List.mem_cons_self ..)
    rcases List.mem_cons.mp ha with z | z
    · rw [z]
      exact Nat.le_trans (Nat.pow_le_pow_left p2 b) (Nat.le_mul_of_pos_right _ (pos ps as hp'))
    · exact Nat.le_trans (pp_ge hp' (by simpa using hl) a z) (Nat.le_mul_of_pos_left _ (Nat.pow_pos (by omega)))
theorem ex_of_up {k : Nat} {e : List Int} (h6 : e.length = 6) (hu : up e < 2 ^ k) (hd : dn e < 2 ^ k) : Ex k e := fun x hx => by
  have h1 := pp_ge (ps := prs) (as := upE e) (by decide) (by rw [upE, List.length_map, h6]; decide) x.toNat (List.mem_map.mpr ⟨x, hx, rfl⟩)
  have h2 := pp_ge (ps := prs) (as := dnE e) (by decide) (by rw [dnE, List.length_map, h6]; decide) (-x).toNat (List.mem_map.mpr ⟨x, hx, rfl⟩)
  have g1 : x.toNat < k := (Nat.pow_lt_pow_iff_right (by decide : 1 < 2)).mp (Nat.lt_of_le_of_lt h1 hu)
  have g2 : (-x).toNat < k := (Nat.pow_lt_pow_iff_right (by decide : 1 < 2)).mp (Nat.lt_of_le_of_lt h2 hd)
  omega
/-- the ratio of the numerator alone -/
def posE (e : List Int) : List Int := e.map fun x => ((x.toNat : Nat) : Int)
theorem pos_len (e : List Int) : (posE e).length = e.length := by simp [posE]
theorem up_posE (e : List Int) : up (posE e) = up e := by
  simp only [up, upE, posE, List.map_map]
  congr 1
theorem pp_zero : ∀ (ps as : List Nat), (∀ a ∈ as, a = 0) → pp ps as = 1
  | [], _, _ => by simp [pp]
  | p :: ps, [], _ => by simp [pp]
  | p :: ps, a :: as, h => by
    have := pp_zero ps as fun b hb => h b (List.mem_cons_of_mem _ hb)
    simp only [pp, this, h a (List.mem_cons_self ..), Nat.pow_zero]
theorem dn_posE (e : List Int) : dn (posE e) = 1 := pp_zero _ _ fun a ha => by
  simp only [dnE, posE, List.map_map, List.mem_map] at ha
  obtain ⟨x, _, rfl⟩ := ha
  show (-(x.toNat : Int)).toNat = 0
  omega
theorem kd_pow {e : List Int} {n : Nat} (h : up e < 2 ^ 200) (hn : n ≤ 200) : up e ^ n < 2 ^ 50000 := by
  have h1 : up e ^ n ≤ (2 ^ 200) ^ n := Nat.pow_le_pow_left (Nat.le_of_lt h) n
  rw [← Nat.pow_mul] at h1
  exact Nat.lt_of_le_of_lt h1 (Nat.pow_lt_pow_right (by decide) (by
    have := Nat.mul_le_mul_left 200 hn
    omega))
end TL
namespace TL
/-- the exponents shifted right -/
def shrE (k : Nat) (as : List Nat) : List Nat := as.map (· / 2 ^ k)
def bitE (k : Nat) (as : List Nat) : List Nat := as.map (· / 2 ^ k % 2)
theorem half_step (a k : Nat) : a / 2 ^ k = a / 2 ^ (k + 1) + a / 2 ^ (k + 1) + a / 2 ^ k % 2 := by
  have h : a / 2 ^ (k + 1) = a / 2 ^ k / 2 := by rw [Nat.pow_succ, Nat.div_div_eq_div_mul]
  rw [h]
  omega
theorem pp_step (k : Nat) : ∀ ps as : List Nat, pp ps (shrE k as) = pp ps (shrE (k + 1) as) * pp ps (shrE (k + 1) as) * pp ps (bitE k as)
  | [], _ => by simp [pp, shrE, bitE]
  | _ :: _, [] => by simp [pp, shrE, bitE]
  | p :: ps, a :: as => by
    have ih := pp_step k ps as
    simp only [shrE, bitE, List.map_cons, pp] at ih ⊢
    rw [ih]
    have e : p ^ (a / 2 ^ k) = p ^ (a / 2 ^ (k + 1)) * p ^ (a / 2 ^ (k + 1)) * p ^ (a / 2 ^ k % 2) := by
      rw [← Nat.pow_add, ← Nat.pow_add, ← half_step]
    rw [e]
    simp only [Nat.mul_assoc, Nat.mul_left_comm, Nat.mul_comm]
theorem pp_pos2 : ∀ {ps : List Nat} (as : List Nat), (∀ p ∈ ps, 2 ≤ p) → 0 < pp ps as
  | [], _, _ => by simp [pp]
  | _ :: _, [], _ => by simp [pp]
  | p :: ps, a :: as, h => Nat.mul_pos (Nat.pow_pos (Nat.lt_of_lt_of_le (by decide) (h p (List.mem_cons_self ..)))) (pp_pos2 as fun q hq => h q (List.mem_cons_of_mem _ hq))
theorem pp_mono : ∀ {ps as bs : List Nat}, (∀ p ∈ ps, 2 ≤ p) → as.length = bs.length → (∀ (i a b : Nat), as[i]? = some a → bs[i]? = some b → a ≤ b) → pp ps as ≤ pp ps bs
  | [], _, _, _, _, _ => by simp [pp]
  | _ :: _, [], [], _, _, _ => Nat.le_refl _
  | _ :: _, [], _ :: _, _, h, _ => absurd h (by simp)
  | _ :: _, _ :: _, [], _, h, _ => absurd h (by simp)
  | p :: ps, a :: as, b :: bs, hp, hl, h => by
    have p2 := hp p (List.mem_cons_self ..)
    exact Nat.mul_le_mul (Nat.pow_le_pow_right (by omega) (h 0 a b rfl rfl)) (pp_mono (fun q hq => hp q (List.mem_cons_of_mem _ hq)) (Nat.succ.inj hl) fun i x y hx hy => h (i + 1) x y hx hy)
theorem pp_shr_le {ps as : List Nat} (k : Nat) (hp : ∀ p ∈ ps, 2 ≤ p) : pp ps (shrE k as) ≤ pp ps as := pp_mono hp (by simp [shrE]) fun i a b ha hb => by
  rw [shrE, List.getElem?_map, hb] at ha
  cases ha
  exact Nat.div_le_self _ _
theorem shr_zero (as : List Nat) : shrE 0 as = as := by simp [shrE]
theorem shr_top {as : List Nat} {n : Nat} (h : ∀ a ∈ as, a < 2 ^ n) (ps : List Nat) : pp ps (shrE n as) = 1 := pp_zero _ _ fun a ha => by
  obtain ⟨b, hb, rfl⟩ := List.mem_map.mp (show a ∈ as.map (· / 2 ^ n) from ha)
  exact Nat.div_eq_of_lt (h b hb)
end TL
namespace TL
/-! ### logarithms -/
/-- the mantissa (scale 2^200) and the exponent of p^(2^k) from below -/
def lgL (p : Nat) : Nat → Nat × Nat
  | 0 => if p < 4 then (p * 2 ^ 199, 1) else if p < 8 then (p * 2 ^ 198, 2) else (p * 2 ^ 197, 3)
  | k + 1 => let (a, m) := lgL p k
    let b := a * a / 2 ^ 200
    if b < 2 ^ 201 then (b, 2 * m) else (b / 2, 2 * m + 1)
def lgU (p : Nat) : Nat → Nat × Nat
  | 0 => if p < 4 then (p * 2 ^ 199, 1) else if p < 8 then (p * 2 ^ 198, 2) else (p * 2 ^ 197, 3)
  | k + 1 => let (a, m) := lgU p k
    let b := a * a / 2 ^ 200 + 1
    if b < 2 ^ 201 then (b, 2 * m) else (b / 2 + 1, 2 * m + 1)
theorem lgL_ok (p : Nat) : ∀ k, 2 ^ (lgL p k).2 * (lgL p k).1 ≤ 2 ^ 200 * p ^ 2 ^ k
  | 0 => by
    have e : ∀ i j : Nat, 2 ^ i * (p * 2 ^ j) = 2 ^ (i + j) * p ^ 2 ^ 0 := fun i j => by rw [Nat.pow_add, Nat.pow_zero, Nat.pow_one]; ac_rfl
    unfold lgL
    split
    · exact Nat.le_of_eq (e 1 199)
    · split
      · exact Nat.le_of_eq (e 2 198)
      · exact Nat.le_of_eq (e 3 197)
  | k + 1 => by
    have ih := lgL_ok p k
    unfold lgL
    generalize lgL p k = am at ih ⊢
    obtain ⟨a, m⟩ := am
    dsimp only at ih ⊢
    have h2 : 2 ^ (2 * m) * (a * a) ≤ 2 ^ 200 * (2 ^ 200 * p ^ 2 ^ (k + 1)) := by
      have := Nat.mul_le_mul ih ih
      rw [Nat.pow_succ 2 k, Nat.pow_mul p, Nat.pow_two, Nat.two_mul, Nat.pow_add]
      calc 2 ^ m * 2 ^ m * (a * a) = 2 ^ m * a * (2 ^ m * a) := by ac_rfl
        _ ≤ _ := this
        _ = _ := by ac_rfl
    have h3 : 2 ^ (2 * m) * (a * a / 2 ^ 200) ≤ 2 ^ 200 * p ^ 2 ^ (k + 1) := by
      refine Nat.le_of_mul_le_mul_left (c := 2 ^ 200) ?_ (Nat.pow_pos (show 0 < 2 by decide))
      calc 2 ^ 200 * (2 ^ (2 * m) * (a * a / 2 ^ 200)) = 2 ^ (2 * m) * (2 ^ 200 * (a * a / 2 ^ 200)) := by ac_rfl
        _ ≤ 2 ^ (2 * m) * (a * a) := Nat.mul_le_mul_left _ (Nat.mul_div_le _ _)
        _ ≤ _ := h2
    split
    · exact h3
    · refine Nat.le_trans ?_ h3
      rw [Nat.pow_succ, Nat.mul_assoc]
      exact Nat.mul_le_mul_left _ (Nat.mul_div_le _ _)
theorem lgU_ok (p : Nat) : ∀ k, 2 ^ 200 * p ^ 2 ^ k ≤ 2 ^ (lgU p k).2 * (lgU p k).1
  | 0 => by
    have e : ∀ i j : Nat, 2 ^ i * (p * 2 ^ j) = 2 ^ (i + j) * p ^ 2 ^ 0 := fun i j => by rw [Nat.pow_add, Nat.pow_zero, Nat.pow_one]; ac_rfl
    unfold lgU
    split
    · exact Nat.le_of_eq (e 1 199).symm
    · split
      · exact Nat.le_of_eq (e 2 198).symm
      · exact Nat.le_of_eq (e 3 197).symm
  | k + 1 => by
    have ih := lgU_ok p k
    unfold lgU
    generalize lgU p k = am at ih ⊢
    obtain ⟨a, m⟩ := am
    dsimp only at ih ⊢
    have h2 : 2 ^ 200 * (2 ^ 200 * p ^ 2 ^ (k + 1)) ≤ 2 ^ (2 * m) * (a * a) := by
      have := Nat.mul_le_mul ih ih
      rw [Nat.pow_succ 2 k, Nat.pow_mul p, Nat.pow_two, Nat.two_mul, Nat.pow_add]
      calc _ = 2 ^ 200 * p ^ 2 ^ k * (2 ^ 200 * p ^ 2 ^ k) := by ac_rfl
        _ ≤ _ := this
        _ = _ := by ac_rfl
    have e1 : a * a ≤ 2 ^ 200 * (a * a / 2 ^ 200 + 1) := by
      have := Nat.lt_mul_div_succ (a * a) (b := 2 ^ 200) (Nat.pow_pos (show 0 < 2 by decide))
      omega
    have h3 : 2 ^ 200 * p ^ 2 ^ (k + 1) ≤ 2 ^ (2 * m) * (a * a / 2 ^ 200 + 1) := by
      refine Nat.le_of_mul_le_mul_left (c := 2 ^ 200) ?_ (Nat.pow_pos (show 0 < 2 by decide))
      calc _ ≤ _ := h2
        _ ≤ 2 ^ (2 * m) * (2 ^ 200 * (a * a / 2 ^ 200 + 1)) := Nat.mul_le_mul_left _ e1
        _ = _ := by ac_rfl
    generalize a * a / 2 ^ 200 + 1 = b at h3 ⊢
    split
    · exact h3
    · refine Nat.le_trans h3 ?_
      rw [Nat.pow_succ, Nat.mul_assoc]
      exact Nat.mul_le_mul_left _ (by omega)
def lgs : List Nat := prs.map fun p => if p = 2 then 2 ^ 160 else (lgL p 160).2
theorem lg_low : ∀ p ∈ [3, 5, 7, 11, 13], 2 ^ 200 ≤ (lgL p 160).1 ∧ (lgU p 160).1 ≤ 2 ^ 201 ∧ (lgU p 160).2 = (lgL p 160).2 := by decide +kernel
end TL
namespace TL
def lg (k p : Nat) : Nat := if p = 2 then 2 ^ k else (lgL p k).2
def LGok (k : Nat) : Prop := ∀ p ∈ [3, 5, 7, 11, 13], 2 ^ 200 ≤ (lgL p k).1 ∧ (lgU p k).1 ≤ 2 ^ 201 ∧ (lgU p k).2 = (lgL p k).2
def LG : List Nat := [1461501637330902918203684832716283019655932542976, 2316425289912052156459349012948135070413798762147, 3393501712442504184481985927731639726947261569016, 4102953815156157747466701420553963045838567941448, 5055964974872705667124156087392374807824543452087, 5408198706907511090757516640326961560951895393234]
def LNs : List Int := [69314718055994530941723212145817656807550013436025, 109861228866810969139524523692252570464749055782274, 160943791243410037460075933322618763952560135426851, 194591014905531330510535274344317972963708472958186, 239789527279837054406194357796512929982170685393741, 256494935746153673605348744156531860480526794476020]
theorem lg_eq : prs.map (lg 160) = LG := by decide +kernel
theorem mem_cases {p : Nat} (h : p ∈ prs) : p = 2 ∨ p ∈ [3, 5, 7, 11, 13] := List.mem_cons.mp h
theorem lg_le {k : Nat} (hk : LGok k) : ∀ p ∈ prs, 2 ^ lg k p ≤ p ^ 2 ^ k ∧ p ^ 2 ^ k ≤ 2 ^ (lg k p + 1) := by
  intro p hp
  have f : p ∈ [3, 5, 7, 11, 13] → 2 ^ lg k p ≤ p ^ 2 ^ k ∧ p ^ 2 ^ k ≤ 2 ^ (lg k p + 1) := fun hq => by
    have h2 : ¬ p = 2 := fun e => by subst e; revert hq; decide
    have h := hk p hq
    have hl := lgL_ok p k
    have hu := lgU_ok p k
    unfold lg
    rw [if_neg h2]
    rw [h.2.2] at hu
    constructor
    · refine Nat.le_of_mul_le_mul_left (c := 2 ^ 200) ?_ (Nat.pow_pos (show 0 < 2 by decide))
      refine Nat.le_trans ?_ hl
      rw [Nat.mul_comm]
      exact Nat.mul_le_mul_left _ h.1
    · refine Nat.le_of_mul_le_mul_left (c := 2 ^ 200) ?_ (Nat.pow_pos (show 0 < 2 by decide))
      refine Nat.le_trans hu ?_
      rw [Nat.pow_succ 2 (lgL p k).2]
      calc 2 ^ (lgL p k).2 * (lgU p k).1 ≤ 2 ^ (lgL p k).2 * 2 ^ 201 := Nat.mul_le_mul_left _ h.2.1
        _ = _ := by rw [show 201 = 200 + 1 from rfl, Nat.pow_succ 2 200]; ac_rfl
  have g : p = 2 → 2 ^ lg k p ≤ p ^ 2 ^ k ∧ p ^ 2 ^ k ≤ 2 ^ (lg k p + 1) := fun e => by
    subst e
    unfold lg
    rw [if_pos rfl]
    exact ⟨Nat.le_refl _, Nat.pow_le_pow_right (by decide) (Nat.le_succ _)⟩
  have := mem_cases hp
  rcases this with h | h
  · exact g h
  · exact f h
def dotN : List Nat → List Nat → Nat
  | a :: as, m :: ms => a * m + dotN as ms
  | _, _ => 0
theorem pp_low {k : Nat} (N : Nat) : ∀ (ps as : List Nat), (∀ p ∈ ps, 2 ^ lg k p ≤ p ^ N) → 2 ^ dotN as (ps.map (lg k)) ≤ pp ps as ^ N
  | [], as, _ => by cases as <;> simp [pp, dotN]
  | p :: ps, [], _ => by simp [pp, dotN]
  | p :: ps, a :: as, h => by
    have ih := pp_low N ps as fun q hq => h q (List.mem_cons_of_mem _ hq)
    have h1 := Nat.pow_le_pow_left (h p (List.mem_cons_self ..)) a
    simp only [pp, dotN, List.map_cons]
    rw [Nat.pow_add, Nat.mul_pow, Nat.mul_comm a, Nat.pow_mul]
    refine Nat.mul_le_mul (Nat.le_trans h1 (Nat.le_of_eq ?_)) ih
    rw [← Nat.pow_mul, ← Nat.pow_mul, Nat.mul_comm]
theorem pp_high {k : Nat} (N : Nat) : ∀ (ps as : List Nat), (∀ p ∈ ps, p ^ N ≤ 2 ^ (lg k p + 1)) → pp ps as ^ N ≤ 2 ^ dotN as (ps.map fun p => lg k p + 1)
  | [], as, _ => by cases as <;> simp [pp, dotN]
  | p :: ps, [], _ => by simp [pp, dotN]
  | p :: ps, a :: as, h => by
    have ih := pp_high N ps as fun q hq => h q (List.mem_cons_of_mem _ hq)
    have h1 := Nat.pow_le_pow_left (h p (List.mem_cons_self ..)) a
    simp only [pp, dotN, List.map_cons]
    rw [Nat.pow_add, Nat.mul_pow, Nat.mul_comm a, Nat.pow_mul 2]
    refine Nat.mul_le_mul (Nat.le_trans (Nat.le_of_eq ?_) h1) ih
    rw [← Nat.pow_mul, ← Nat.pow_mul, Nat.mul_comm]
end TL
namespace TL
theorem log_arith (u0 u1 u2 u3 u4 u5 d0 d1 d2 d3 d4 d5 : Int) (hu0 : 0 ≤ u0 ∧ u0 ≤ 100000000) (hd0 : 0 ≤ d0 ∧ d0 ≤ 100000000) (hu1 : 0 ≤ u1 ∧ u1 ≤ 100000000) (hd1 : 0 ≤ d1 ∧ d1 ≤ 100000000) (hu2 : 0 ≤ u2 ∧ u2 ≤ 100000000) (hd2 : 0 ≤ d2 ∧ d2 ≤ 100000000) (hu3 : 0 ≤ u3 ∧ u3 ≤ 100000000) (hd3 : 0 ≤ d3 ∧ d3 ≤ 100000000) (hu4 : 0 ≤ u4 ∧ u4 ≤ 100000000) (hd4 : 0 ≤ d4 ∧ d4 ≤ 100000000) (hu5 : 0 ≤ u5 ∧ u5 ≤ 100000000) (hd5 : 0 ≤ d5 ∧ d5 ≤ 100000000)
    (h : 1000000000000 < 69314718055994530941723212145817656807550013436025 * (u0 - d0) + 109861228866810969139524523692252570464749055782274 * (u1 - d1) + 160943791243410037460075933322618763952560135426851 * (u2 - d2) + 194591014905531330510535274344317972963708472958186 * (u3 - d3) + 239789527279837054406194357796512929982170685393741 * (u4 - d4) + 256494935746153673605348744156531860480526794476020 * (u5 - d5)) : d0 + d1 + d2 + d3 + d4 + d5 < 1461501637330902918203684832716283019655932542976 * (u0 - d0) + 2316425289912052156459349012948135070413798762147 * (u1 - d1) + 3393501712442504184481985927731639726947261569016 * (u2 - d2) + 4102953815156157747466701420553963045838567941448 * (u3 - d3) + 5055964974872705667124156087392374807824543452087 * (u4 - d4) + 5408198706907511090757516640326961560951895393234 * (u5 - d5) := by
  have e : (1461501637330902918203684832716283019655932542976 : Int) * (69314718055994530941723212145817656807550013436025 * (u0 - d0) + 109861228866810969139524523692252570464749055782274 * (u1 - d1) + 160943791243410037460075933322618763952560135426851 * (u2 - d2) + 194591014905531330510535274344317972963708472958186 * (u3 - d3) + 239789527279837054406194357796512929982170685393741 * (u4 - d4) + 256494935746153673605348744156531860480526794476020 * (u5 - d5)) = 69314718055994530941723212145817656807550013436025 * (1461501637330902918203684832716283019655932542976 * (u0 - d0) + 2316425289912052156459349012948135070413798762147 * (u1 - d1) + 3393501712442504184481985927731639726947261569016 * (u2 - d2) + 4102953815156157747466701420553963045838567941448 * (u3 - d3) + 5055964974872705667124156087392374807824543452087 * (u4 - d4) + 5408198706907511090757516640326961560951895393234 * (u5 - d5)) + ((0) * (u0 - d0) + (43793785050518326854944870603338469797498627861749) * (u1 - d1) + (60981911441409731785930514241249787815400823647176) * (u2 - d2) + (2372752774845158157605543358762903037446802137336) * (u3 - d3) + (19222620487342313207063189792419089258108136679041) * (u4 - d4) + (40797832652188279574759729725535034334507174580670) * (u5 - d5)) := by omega
  have r : (0) * (u0 - d0) + (43793785050518326854944870603338469797498627861749) * (u1 - d1) + (60981911441409731785930514241249787815400823647176) * (u2 - d2) + (2372752774845158157605543358762903037446802137336) * (u3 - d3) + (19222620487342313207063189792419089258108136679041) * (u4 - d4) + (40797832652188279574759729725535034334507174580670) * (u5 - d5) ≤ 16716890240630380958030384772130528424296156490597200000000 := by
    clear e h
    have r0 : (0 : Int) * (u0 - d0) ≤ 0 := by omega
    have r1 : (43793785050518326854944870603338469797498627861749 : Int) * (u1 - d1) ≤ 4379378505051832685494487060333846979749862786174900000000 := by omega
    have r2 : (60981911441409731785930514241249787815400823647176 : Int) * (u2 - d2) ≤ 6098191144140973178593051424124978781540082364717600000000 := by omega
    have r3 : (2372752774845158157605543358762903037446802137336 : Int) * (u3 - d3) ≤ 237275277484515815760554335876290303744680213733600000000 := by omega
    have r4 : (19222620487342313207063189792419089258108136679041 : Int) * (u4 - d4) ≤ 1922262048734231320706318979241908925810813667904100000000 := by omega
    have r5 : (40797832652188279574759729725535034334507174580670 : Int) * (u5 - d5) ≤ 4079783265218827957475972972553503433450717458067000000000 := by omega
    generalize (0 : Int) * (u0 - d0) = t0 at *
    generalize (43793785050518326854944870603338469797498627861749 : Int) * (u1 - d1) = t1 at *
    generalize (60981911441409731785930514241249787815400823647176 : Int) * (u2 - d2) = t2 at *
    generalize (2372752774845158157605543358762903037446802137336 : Int) * (u3 - d3) = t3 at *
    generalize (19222620487342313207063189792419089258108136679041 : Int) * (u4 - d4) = t4 at *
    generalize (40797832652188279574759729725535034334507174580670 : Int) * (u5 - d5) = t5 at *
    clear hu0 hu1 hu2 hu3 hu4 hu5 hd0 hd1 hd2 hd3 hd4 hd5
    omega
  have t : d0 + d1 + d2 + d3 + d4 + d5 ≤ 600000000 := by
    clear e h r
    omega
  generalize 1461501637330902918203684832716283019655932542976 * (u0 - d0) + 2316425289912052156459349012948135070413798762147 * (u1 - d1) + 3393501712442504184481985927731639726947261569016 * (u2 - d2) + 4102953815156157747466701420553963045838567941448 * (u3 - d3) + 5055964974872705667124156087392374807824543452087 * (u4 - d4) + 5408198706907511090757516640326961560951895393234 * (u5 - d5) = X at e ⊢
  generalize 69314718055994530941723212145817656807550013436025 * (u0 - d0) + 109861228866810969139524523692252570464749055782274 * (u1 - d1) + 160943791243410037460075933322618763952560135426851 * (u2 - d2) + 194591014905531330510535274344317972963708472958186 * (u3 - d3) + 239789527279837054406194357796512929982170685393741 * (u4 - d4) + 256494935746153673605348744156531860480526794476020 * (u5 - d5) = S at e h
  generalize (0) * (u0 - d0) + (43793785050518326854944870603338469797498627861749) * (u1 - d1) + (60981911441409731785930514241249787815400823647176) * (u2 - d2) + (2372752774845158157605543358762903037446802137336) * (u3 - d3) + (19222620487342313207063189792419089258108136679041) * (u4 - d4) + (40797832652188279574759729725535034334507174580670) * (u5 - d5) = R at e r
  generalize d0 + d1 + d2 + d3 + d4 + d5 = D at t ⊢
  clear hu0 hu1 hu2 hu3 hu4 hu5 hd0 hd1 hd2 hd3 hd4 hd5
  omega
end TL
namespace TL
/-- the logarithm that the program reckons -/
def LN : List Int := LNs
def logE (e : List Int) : Int := (List.zipWith (· * ·) e LN).sum
theorem toN (x : Int) : ((x.toNat : Nat) : Int) - (((-x).toNat : Nat) : Int) = x := by omega
theorem log_lt0 {k : Nat} (hk : LGok k) (hLG : prs.map (lg k) = LG) {e : List Int} (h6 : e.length = 6) (hE : Ex (10 ^ 8) e) (h : 10 ^ 12 < logE e) : dn e < up e := by
  have lo := pp_low (k := k) (2 ^ k) prs (upE e) fun p hp => (lg_le hk p hp).1
  have hi := pp_high (k := k) (2 ^ k) prs (dnE e) fun p hp => (lg_le hk p hp).2
  have e2 : prs.map (fun p => lg k p + 1) = LG.map (· + 1) := by rw [← hLG, List.map_map]; rfl
  rw [hLG] at lo
  rw [e2] at hi
  have key : dotN (dnE e) (LG.map (· + 1)) < dotN (upE e) LG := by
    match e, h6, hE, h with
    | [e0, e1, e2, e3, e4, e5], _, hE, h =>
      have b : ∀ x ∈ [e0, e1, e2, e3, e4, e5], (0 ≤ ((x.toNat : Nat) : Int) ∧ ((x.toNat : Nat) : Int) ≤ 100000000) ∧ (0 ≤ (((-x).toNat : Nat) : Int) ∧ (((-x).toNat : Nat) : Int) ≤ 100000000) := fun x hx => by
        have := hE x hx
        omega
      have b0 := b e0 (by simp)
      have b1 := b e1 (by simp)
      have b2 := b e2 (by simp)
      have b3 := b e3 (by simp)
      have b4 := b e4 (by simp)
      have b5 := b e5 (by simp)
      have a := log_arith _ _ _ _ _ _ _ _ _ _ _ _ b0.1 b0.2 b1.1 b1.2 b2.1 b2.2 b3.1 b3.2 b4.1 b4.2 b5.1 b5.2
        (by
          rw [toN, toN, toN, toN, toN, toN]
          simp only [logE, LN, LNs, List.zipWith, List.sum_cons, List.sum_nil] at h
          clear b b0 b1 b2 b3 b4 b5 hE lo hi
          omega)
      simp only [upE, dnE, LG, List.map, dotN]
      clear b b0 b1 b2 b3 b4 b5 hE lo hi h
      omega
  have hN : 2 ^ k ≠ 0 := Nat.pos_iff_ne_zero.mp (Nat.pow_pos (by decide))
  generalize 2 ^ k = N at *
  rcases Nat.lt_or_ge (dn e) (up e) with c | c
  · exact c
  · exfalso
    have h1 := Nat.pow_le_pow_left c N
    have h2 : (2 : Nat) ^ dotN (upE e) LG ≤ 2 ^ dotN (dnE e) (LG.map (· + 1)) := Nat.le_trans lo (Nat.le_trans h1 hi)
    have h3 := (Nat.pow_le_pow_iff_right (by decide : 1 < 2)).mp h2
    omega
theorem lgok : LGok 160 := lg_low
theorem log_lt {e : List Int} (h6 : e.length = 6) (hE : Ex (10 ^ 8) e) (h : 10 ^ 12 < logE e) : dn e < up e := log_lt0 lgok lg_eq h6 hE h
theorem log_neg : ∀ (e l : List Int), (List.zipWith (· * ·) (negE e) l).sum = - (List.zipWith (· * ·) e l).sum
  | [], l => by simp [negE]
  | e :: es, [] => by simp [negE]
  | e :: es, l :: ls => by
    have ih := log_neg es ls
    simp only [negE, List.map_cons, List.zipWith_cons_cons, List.sum_cons] at ih ⊢
    rw [ih, Int.neg_mul]
    omega
theorem log_add : ∀ (e f l : List Int), e.length = f.length → (List.zipWith (· * ·) (addE e f) l).sum = (List.zipWith (· * ·) e l).sum + (List.zipWith (· * ·) f l).sum
  | [], [], l, _ => by simp [addE]
  | [], _ :: _, _, h => by simp at h
  | _ :: _, [], _, h => by simp at h
  | e :: es, f :: fs, [], _ => by simp [addE]
  | e :: es, f :: fs, l :: ls, h => by
    have ih := log_add es fs ls (Nat.succ.inj h)
    simp only [addE, List.zipWith_cons_cons, List.sum_cons] at ih ⊢
    rw [ih, Int.add_mul]
    omega
theorem log_gt {e : List Int} (h6 : e.length = 6) (hE : Ex (10 ^ 8) e) (h : logE e < - 10 ^ 12) : up e < dn e := by
  have := log_lt (e := negE e) (by simpa [negE] using h6) (ex_neg hE) (by
    have : logE (negE e) = - logE e := log_neg e LN
    rw [this]
    omega)
  rwa [up_neg, dn_neg] at this
theorem below_iff {x y : List Int} (hx : x.length = 6) (hy : y.length = 6) : up x * dn y < up y * dn x ↔ dn (addE y (negE x)) < up (addE y (negE x)) := by
  have hl : y.length = (negE x).length := by simp [negE, hx, hy]
  have h1 := up_mul y (negE x) hl
  have h2 := dn_mul y (negE x) hl
  rw [up_neg] at h1
  rw [dn_neg, Nat.mul_comm] at h2
  rw [h1, h2]
  have hp : 0 < pp prs (both y (negE x)) := pp_pos _ pc_prs
  exact ⟨fun h => Nat.lt_of_mul_lt_mul_left h, fun h => Nat.mul_lt_mul_of_pos_left h hp⟩
/-- where the logarithms are far from one another, they tell which ratio is less -/
theorem below_log {x y : List Int} (hx : x.length = 6) (hy : y.length = 6) (ex : Ex (10 ^ 7) x) (ey : Ex (10 ^ 7) y) (h : 10 ^ 12 < (logE y - logE x).natAbs) : up x * dn y < up y * dn x ↔ 0 < logE y - logE x := by
  rw [below_iff hx hy]
  have hs : (addE y (negE x)).length = 6 := by simp [addE, negE, hx, hy]
  have e1 : logE (addE y (negE x)) = logE y - logE x := by
    have a := log_add y (negE x) LN (by simp [negE, hx, hy])
    have b := log_neg x LN
    show (List.zipWith (· * ·) (addE y (negE x)) LN).sum = (List.zipWith (· * ·) y LN).sum - (List.zipWith (· * ·) x LN).sum
    rw [a, b]
    omega
  have hE : Ex (10 ^ 8) (addE y (negE x)) := fun v hv => by
    simp only [addE, negE] at hv
    obtain ⟨i, hi, rfl⟩ := List.mem_iff_getElem.mp hv
    simp only [List.length_zipWith, List.length_map] at hi
    rw [List.getElem_zipWith, List.getElem_map]
    have := ex x[i] (List.getElem_mem _)
    have := ey y[i] (List.getElem_mem _)
    omega
  rw [← e1] at h ⊢
  constructor
  · intro c
    rcases Int.lt_or_le 0 (logE (addE y (negE x))) with d | d
    · exact d
    · exact absurd (log_gt hs hE (by omega)) (by omega)
  · intro c
    exact log_lt hs hE (by omega)
end TL
namespace TL
open PySem L2

def top (i : Nat) : Stmt := PySem.Challenge.pw_turnsleft_k08_whole_wedges_of_ratios.main.body.getD i (.Pass ⟨0, 0, 0, 0⟩)
abbrev s_is_number : Stmt := top 16
abbrev N_is_number : List Str := ["value"]
theorem sc_is_number : FnScope N_is_number ["value"] (defScope s_is_number) := ⟨rfl, rfl, rfl, by decide +kernel, rfl, by decide +kernel, by decide +kernel⟩
abbrev s_is_listed : Stmt := top 17
abbrev N_is_listed : List Str := ["value"]
theorem sc_is_listed : FnScope N_is_listed ["value"] (defScope s_is_listed) := ⟨rfl, rfl, rfl, by decide +kernel, rfl, by decide +kernel, by decide +kernel⟩
abbrev s_are_numbers : Stmt := top 18
abbrev N_are_numbers : List Str := ["value", "many", "item"]
theorem sc_are_numbers : FnScope N_are_numbers ["value", "many"] (defScope s_are_numbers) := ⟨rfl, rfl, rfl, by decide +kernel, rfl, by decide +kernel, by decide +kernel⟩
abbrev s_are_bits : Stmt := top 19
abbrev N_are_bits : List Str := ["value", "many", "item"]
theorem sc_are_bits : FnScope N_are_bits ["value", "many"] (defScope s_are_bits) := ⟨rfl, rfl, rfl, by decide +kernel, rfl, by decide +kernel, by decide +kernel⟩
abbrev s_Ratio_init : Stmt := inClass (top 27) 0
abbrev N_Ratio_init : List Str := ["self", "over", "under", "shared"]
theorem sc_Ratio_init : FnScope N_Ratio_init ["self", "over", "under"] (defScope s_Ratio_init) := ⟨rfl, rfl, rfl, by decide +kernel, rfl, by decide +kernel, by decide +kernel⟩
abbrev s_Ratio_powers : Stmt := inClass (top 27) 3
abbrev N_Ratio_powers : List Str := ["self"]
theorem sc_Ratio_powers : FnScope N_Ratio_powers ["self"] (defScope s_Ratio_powers) := ⟨rfl, rfl, rfl, by decide +kernel, rfl, by decide +kernel, by decide +kernel⟩
abbrev s_Ratio_power : Stmt := inClass (top 27) 5
abbrev N_Ratio_power : List Str := ["self", "k", "power"]
theorem sc_Ratio_power : FnScope N_Ratio_power ["self", "k"] (defScope s_Ratio_power) := ⟨rfl, rfl, rfl, by decide +kernel, rfl, by decide +kernel, by decide +kernel⟩
abbrev s_Ratio_mul : Stmt := inClass (top 27) 9
abbrev N_Ratio_mul : List Str := ["self", "other", "one", "two"]
theorem sc_Ratio_mul : FnScope N_Ratio_mul ["self", "other"] (defScope s_Ratio_mul) := ⟨rfl, rfl, rfl, by decide +kernel, rfl, by decide +kernel, by decide +kernel⟩
abbrev s_Ratio_floordiv : Stmt := inClass (top 27) 10
abbrev N_Ratio_floordiv : List Str := ["self", "other", "one", "two"]
theorem sc_Ratio_floordiv : FnScope N_Ratio_floordiv ["self", "other"] (defScope s_Ratio_floordiv) := ⟨rfl, rfl, rfl, by decide +kernel, rfl, by decide +kernel, by decide +kernel⟩
abbrev s__raised : Stmt := top 28
abbrev N__raised : List Str := ["base", "exponent", "raised"]
theorem sc__raised : FnScope N__raised ["base", "exponent"] (defScope s__raised) := ⟨rfl, rfl, rfl, by decide +kernel, rfl, by decide +kernel, by decide +kernel⟩
abbrev s__made_of : Stmt := top 29
abbrev N__made_of : List Str := ["powers", "number", "at", "prime", "power"]
theorem sc__made_of : FnScope N__made_of ["powers"] (defScope s__made_of) := ⟨rfl, rfl, rfl, by decide +kernel, rfl, by decide +kernel, by decide +kernel⟩
abbrev s__fraction_of : Stmt := top 30
abbrev N__fraction_of : List Str := ["powers", "over", "under", "prime", "power"]
theorem sc__fraction_of : FnScope N__fraction_of ["powers"] (defScope s__fraction_of) := ⟨rfl, rfl, rfl, by decide +kernel, rfl, by decide +kernel, by decide +kernel⟩
abbrev s_ratio_with : Stmt := top 31
abbrev N_ratio_with : List Str := ["powers", "over", "under", "ratio"]
theorem sc_ratio_with : FnScope N_ratio_with ["powers"] (defScope s_ratio_with) := ⟨rfl, rfl, rfl, by decide +kernel, rfl, by decide +kernel, by decide +kernel⟩
abbrev s__split : Stmt := top 32
abbrev N__split : List Str := ["number", "divisor", "many", "rest", "remainder"]
theorem sc__split : FnScope N__split ["number", "divisor"] (defScope s__split) := ⟨rfl, rfl, rfl, by decide +kernel, rfl, by decide +kernel, by decide +kernel⟩
abbrev s__powers_in : Stmt := top 33
abbrev N__powers_in : List Str := ["number", "powers", "at", "prime", "many", "few"]
theorem sc__powers_in : FnScope N__powers_in ["number"] (defScope s__powers_in) := ⟨rfl, rfl, rfl, by decide +kernel, rfl, by decide +kernel, by decide +kernel⟩
abbrev s__powers_of : Stmt := top 34
abbrev N__powers_of : List Str := ["over", "under", "up", "down"]
theorem sc__powers_of : FnScope N__powers_of ["over", "under"] (defScope s__powers_of) := ⟨rfl, rfl, rfl, by decide +kernel, rfl, by decide +kernel, by decide +kernel⟩
abbrev s_Wedge_init : Stmt := inClass (top 37) 0
abbrev N_Wedge_init : List Str := ["self", "pairs", "bits"]
theorem sc_Wedge_init : FnScope N_Wedge_init ["self", "pairs", "bits"] (defScope s_Wedge_init) := ⟨rfl, rfl, rfl, by decide +kernel, rfl, by decide +kernel, by decide +kernel⟩
abbrev s_Wedge_pairs : Stmt := inClass (top 37) 1
abbrev N_Wedge_pairs : List Str := ["self"]
theorem sc_Wedge_pairs : FnScope N_Wedge_pairs ["self"] (defScope s_Wedge_pairs) := ⟨rfl, rfl, rfl, by decide +kernel, rfl, by decide +kernel, by decide +kernel⟩
abbrev s_Wedge_bits : Stmt := inClass (top 37) 2
abbrev N_Wedge_bits : List Str := ["self"]
theorem sc_Wedge_bits : FnScope N_Wedge_bits ["self"] (defScope s_Wedge_bits) := ⟨rfl, rfl, rfl, by decide +kernel, rfl, by decide +kernel, by decide +kernel⟩
abbrev s_Wedge_matrix : Stmt := inClass (top 37) 4
abbrev N_Wedge_matrix : List Str := ["self", "matrix", "p", "q", "number", "_"]
theorem sc_Wedge_matrix : FnScope N_Wedge_matrix ["self"] (defScope s_Wedge_matrix) := ⟨rfl, rfl, rfl, by decide +kernel, rfl, by decide +kernel, by decide +kernel⟩
abbrev s_Wedge_flat : Stmt := inClass (top 37) 5
abbrev N_Wedge_flat : List Str := ["self"]
theorem sc_Wedge_flat : FnScope N_Wedge_flat ["self"] (defScope s_Wedge_flat) := ⟨rfl, rfl, rfl, by decide +kernel, rfl, by decide +kernel, by decide +kernel⟩
abbrev s_Wedge_rank : Stmt := inClass (top 37) 6
abbrev N_Wedge_rank : List Str := ["self"]
theorem sc_Wedge_rank : FnScope N_Wedge_rank ["self"] (defScope s_Wedge_rank) := ⟨rfl, rfl, rfl, by decide +kernel, rfl, by decide +kernel, by decide +kernel⟩
abbrev s_Wedge_owed : Stmt := inClass (top 37) 7
abbrev N_Wedge_owed : List Str := ["self"]
theorem sc_Wedge_owed : FnScope N_Wedge_owed ["self"] (defScope s_Wedge_owed) := ⟨rfl, rfl, rfl, by decide +kernel, rfl, by decide +kernel, by decide +kernel⟩
abbrev s_Wedge_add : Stmt := inClass (top 37) 10
abbrev N_Wedge_add : List Str := ["self", "other", "pairs", "one", "two"]
theorem sc_Wedge_add : FnScope N_Wedge_add ["self", "other"] (defScope s_Wedge_add) := ⟨rfl, rfl, rfl, by decide +kernel, rfl, by decide +kernel, by decide +kernel⟩
abbrev s_Wedge_sub : Stmt := inClass (top 37) 11
abbrev N_Wedge_sub : List Str := ["self", "other", "pairs", "one", "two"]
theorem sc_Wedge_sub : FnScope N_Wedge_sub ["self", "other"] (defScope s_Wedge_sub) := ⟨rfl, rfl, rfl, by decide +kernel, rfl, by decide +kernel, by decide +kernel⟩
abbrev s_Wedge_neg : Stmt := inClass (top 37) 12
abbrev N_Wedge_neg : List Str := ["self", "number"]
theorem sc_Wedge_neg : FnScope N_Wedge_neg ["self"] (defScope s_Wedge_neg) := ⟨rfl, rfl, rfl, by decide +kernel, rfl, by decide +kernel, by decide +kernel⟩
abbrev s_Wedge_mul : Stmt := inClass (top 37) 13
abbrev N_Wedge_mul : List Str := ["self", "k", "number", "bit"]
theorem sc_Wedge_mul : FnScope N_Wedge_mul ["self", "k"] (defScope s_Wedge_mul) := ⟨rfl, rfl, rfl, by decide +kernel, rfl, by decide +kernel, by decide +kernel⟩
abbrev s_Wedge_rmul : Stmt := inClass (top 37) 14
abbrev N_Wedge_rmul : List Str := ["self", "k", "number", "bit"]
theorem sc_Wedge_rmul : FnScope N_Wedge_rmul ["self", "k"] (defScope s_Wedge_rmul) := ⟨rfl, rfl, rfl, by decide +kernel, rfl, by decide +kernel, by decide +kernel⟩
abbrev s_Wedge_eq : Stmt := inClass (top 37) 15
abbrev N_Wedge_eq : List Str := ["self", "other"]
theorem sc_Wedge_eq : FnScope N_Wedge_eq ["self", "other"] (defScope s_Wedge_eq) := ⟨rfl, rfl, rfl, by decide +kernel, rfl, by decide +kernel, by decide +kernel⟩
abbrev s_wedge_of_products : Stmt := top 39
abbrev N_wedge_of_products : List Str := ["matrix", "pairs", "p", "q"]
theorem sc_wedge_of_products : FnScope N_wedge_of_products ["matrix"] (defScope s_wedge_of_products) := ⟨rfl, rfl, rfl, by decide +kernel, rfl, by decide +kernel, by decide +kernel⟩
abbrev s_wedge_of : Stmt := top 40
abbrev N_wedge_of : List Str := ["u", "v", "one", "two"]
theorem sc_wedge_of : FnScope N_wedge_of ["u", "v"] (defScope s_wedge_of) := ⟨rfl, rfl, rfl, by decide +kernel, rfl, by decide +kernel, by decide +kernel⟩
abbrev s_nothing : Stmt := top 41
abbrev N_nothing : List Str := []
theorem sc_nothing : FnScope N_nothing [] (defScope s_nothing) := ⟨rfl, rfl, rfl, by decide +kernel, rfl, by decide +kernel, by decide +kernel⟩
abbrev s__filled_from : Stmt := top 10
abbrev N__filled_from : List Str := ["rows", "first", "column", "at"]
theorem sc__filled_from : FnScope N__filled_from ["rows", "first", "column"] (defScope s__filled_from) := ⟨rfl, rfl, rfl, by decide +kernel, rfl, by decide +kernel, by decide +kernel⟩
abbrev s__cleared : Stmt := top 11
abbrev N__cleared : List Str := ["matrix", "rows", "width", "rank", "sign", "last", "column", "found", "head", "at", "item", "row", "own", "top"]
theorem sc__cleared : FnScope N__cleared ["matrix"] (defScope s__cleared) := ⟨rfl, rfl, rfl, by decide +kernel, rfl, by decide +kernel, by decide +kernel⟩
abbrev s_rank_of : Stmt := top 12
abbrev N_rank_of : List Str := ["matrix", "rank", "_"]
theorem sc_rank_of : FnScope N_rank_of ["matrix"] (defScope s_rank_of) := ⟨rfl, rfl, rfl, by decide +kernel, rfl, by decide +kernel, by decide +kernel⟩
abbrev s_l_bag : Stmt := top 43
abbrev N_l_bag : List Str := ["_law_script", "_law_seed", "_law_cell"]
theorem sc_l_bag : FnScope N_l_bag ["_law_script"] (defScope s_l_bag) := ⟨rfl, rfl, rfl, by decide +kernel, rfl, by decide +kernel, by decide +kernel⟩
abbrev s_l_draw : Stmt := top 44
abbrev N_l_draw : List Str := ["_law_bag_here", "_law_sides", "_law_cell", "_law_digit", "_law_seed"]
theorem sc_l_draw : FnScope N_l_draw ["_law_bag_here", "_law_sides"] (defScope s_l_draw) := ⟨rfl, rfl, rfl, by decide +kernel, rfl, by decide +kernel, by decide +kernel⟩
abbrev s_l_of : Stmt := top 45
abbrev N_l_of : List Str := ["_law_bag_here", "_law_things"]
theorem sc_l_of : FnScope N_l_of ["_law_bag_here", "_law_things"] (defScope s_l_of) := ⟨rfl, rfl, rfl, by decide +kernel, rfl, by decide +kernel, by decide +kernel⟩
abbrev s_l_same : Stmt := top 46
abbrev N_l_same : List Str := ["_law_found", "_law_due", "_law_x", "_law_y"]
theorem sc_l_same : FnScope N_l_same ["_law_found", "_law_due"] (defScope s_l_same) := ⟨rfl, rfl, rfl, by decide +kernel, rfl, by decide +kernel, by decide +kernel⟩
abbrev s_l_primes : Stmt := top 47
abbrev N_l_primes : List Str := []
theorem sc_l_primes : FnScope N_l_primes [] (defScope s_l_primes) := ⟨rfl, rfl, rfl, by decide +kernel, rfl, by decide +kernel, by decide +kernel⟩
abbrev s_l_twos : Stmt := top 48
abbrev N_l_twos : List Str := ["_law_found", "_law_i", "_law_j"]
theorem sc_l_twos : FnScope N_l_twos [] (defScope s_l_twos) := ⟨rfl, rfl, rfl, by decide +kernel, rfl, by decide +kernel, by decide +kernel⟩
abbrev s_l_gcd : Stmt := top 49
abbrev N_l_gcd : List Str := ["_law_x", "_law_y"]
theorem sc_l_gcd : FnScope N_l_gcd ["_law_x", "_law_y"] (defScope s_l_gcd) := ⟨rfl, rfl, rfl, by decide +kernel, rfl, by decide +kernel, by decide +kernel⟩
abbrev s_l_low : Stmt := top 50
abbrev N_l_low : List Str := ["_law_num", "_law_den", "_law_common"]
theorem sc_l_low : FnScope N_l_low ["_law_num", "_law_den"] (defScope s_l_low) := ⟨rfl, rfl, rfl, by decide +kernel, rfl, by decide +kernel, by decide +kernel⟩
abbrev s_l_mul : Stmt := top 51
abbrev N_l_mul : List Str := ["_law_x", "_law_y"]
theorem sc_l_mul : FnScope N_l_mul ["_law_x", "_law_y"] (defScope s_l_mul) := ⟨rfl, rfl, rfl, by decide +kernel, rfl, by decide +kernel, by decide +kernel⟩
abbrev s_l_quo : Stmt := top 52
abbrev N_l_quo : List Str := ["_law_x", "_law_y"]
theorem sc_l_quo : FnScope N_l_quo ["_law_x", "_law_y"] (defScope s_l_quo) := ⟨rfl, rfl, rfl, by decide +kernel, rfl, by decide +kernel, by decide +kernel⟩
abbrev s_l_raised : Stmt := top 53
abbrev N_l_raised : List Str := ["_law_x", "_law_n", "_law_num", "_law_den", "_law_turn"]
theorem sc_l_raised : FnScope N_l_raised ["_law_x", "_law_n"] (defScope s_l_raised) := ⟨rfl, rfl, rfl, by decide +kernel, rfl, by decide +kernel, by decide +kernel⟩
abbrev s_l_count : Stmt := top 54
abbrev N_l_count : List Str := ["_law_n", "_law_prime", "_law_found"]
theorem sc_l_count : FnScope N_l_count ["_law_n", "_law_prime"] (defScope s_l_count) := ⟨rfl, rfl, rfl, by decide +kernel, rfl, by decide +kernel, by decide +kernel⟩
abbrev s_l_exponents : Stmt := top 55
abbrev N_l_exponents : List Str := ["_law_x", "_law_prime"]
theorem sc_l_exponents : FnScope N_l_exponents ["_law_x"] (defScope s_l_exponents) := ⟨rfl, rfl, rfl, by decide +kernel, rfl, by decide +kernel, by decide +kernel⟩
abbrev s_l_bits : Stmt := top 56
abbrev N_l_bits : List Str := ["_law_x", "_law_n"]
theorem sc_l_bits : FnScope N_l_bits ["_law_x"] (defScope s_l_bits) := ⟨rfl, rfl, rfl, by decide +kernel, rfl, by decide +kernel, by decide +kernel⟩
abbrev s_l_built : Stmt := top 57
abbrev N_l_built : List Str := ["_law_exponents_here", "_law_num", "_law_den", "_law_prime", "_law_n", "_law_turn"]
theorem sc_l_built : FnScope N_l_built ["_law_exponents_here"] (defScope s_l_built) := ⟨rfl, rfl, rfl, by decide +kernel, rfl, by decide +kernel, by decide +kernel⟩
abbrev s_l_step : Stmt := top 58
abbrev N_l_step : List Str := ["_law_bag_here", "_law_small"]
theorem sc_l_step : FnScope N_l_step ["_law_bag_here"] (defScope s_l_step) := ⟨rfl, rfl, rfl, by decide +kernel, rfl, by decide +kernel, by decide +kernel⟩
abbrev s_l_length : Stmt := top 59
abbrev N_l_length : List Str := ["_law_bag_here", "_law_x"]
theorem sc_l_length : FnScope N_l_length ["_law_bag_here"] (defScope s_l_length) := ⟨rfl, rfl, rfl, by decide +kernel, rfl, by decide +kernel, by decide +kernel⟩
abbrev s_l_ratio : Stmt := top 60
abbrev N_l_ratio : List Str := ["_law_bag_here", "_law_x", "_law_m"]
theorem sc_l_ratio : FnScope N_l_ratio ["_law_bag_here", "_law_x"] (defScope s_l_ratio) := ⟨rfl, rfl, rfl, by decide +kernel, rfl, by decide +kernel, by decide +kernel⟩
abbrev s_l_is : Stmt := top 61
abbrev N_l_is : List Str := ["_law_x"]
theorem sc_l_is : FnScope N_l_is ["_law_x"] (defScope s_l_is) := ⟨rfl, rfl, rfl, by decide +kernel, rfl, by decide +kernel, by decide +kernel⟩
abbrev s_l_seen : Stmt := top 62
abbrev N_l_seen : List Str := ["_law_thing", "_law_x"]
theorem sc_l_seen : FnScope N_l_seen ["_law_thing"] (defScope s_l_seen) := ⟨rfl, rfl, rfl, by decide +kernel, rfl, by decide +kernel, by decide +kernel⟩
abbrev s_l_two : Stmt := top 63
abbrev N_l_two : List Str := ["_law_x", "_law_y", "_law_a", "_law_b", "_law_i", "_law_j"]
theorem sc_l_two : FnScope N_l_two ["_law_x", "_law_y"] (defScope s_l_two) := ⟨rfl, rfl, rfl, by decide +kernel, rfl, by decide +kernel, by decide +kernel⟩
abbrev s_l_added : Stmt := top 64
abbrev N_l_added : List Str := ["_law_w", "_law_z", "_law_x", "_law_y"]
theorem sc_l_added : FnScope N_l_added ["_law_w", "_law_z"] (defScope s_l_added) := ⟨rfl, rfl, rfl, by decide +kernel, rfl, by decide +kernel, by decide +kernel⟩
abbrev s_l_none : Stmt := top 65
abbrev N_l_none : List Str := []
theorem sc_l_none : FnScope N_l_none [] (defScope s_l_none) := ⟨rfl, rfl, rfl, by decide +kernel, rfl, by decide +kernel, by decide +kernel⟩
abbrev s_l_wedge_seen : Stmt := top 66
abbrev N_l_wedge_seen : List Str := ["_law_w"]
theorem sc_l_wedge_seen : FnScope N_l_wedge_seen ["_law_w"] (defScope s_l_wedge_seen) := ⟨rfl, rfl, rfl, by decide +kernel, rfl, by decide +kernel, by decide +kernel⟩
abbrev s_l_wedge_due : Stmt := top 67
abbrev N_l_wedge_due : List Str := ["_law_w"]
theorem sc_l_wedge_due : FnScope N_l_wedge_due ["_law_w"] (defScope s_l_wedge_due) := ⟨rfl, rfl, rfl, by decide +kernel, rfl, by decide +kernel, by decide +kernel⟩
abbrev s_l_ratio_drawn : Stmt := top 68
abbrev N_l_ratio_drawn : List Str := ["_law_bag_here", "_law_kind", "_law_x", "_law_turn"]
theorem sc_l_ratio_drawn : FnScope N_l_ratio_drawn ["_law_bag_here"] (defScope s_l_ratio_drawn) := ⟨rfl, rfl, rfl, by decide +kernel, rfl, by decide +kernel, by decide +kernel⟩
abbrev s_l_all_so : Stmt := top 69
abbrev N_l_all_so : List Str := ["_law_told", "_law_dues", "_law_w"]
theorem sc_l_all_so : FnScope N_l_all_so ["_law_told", "_law_dues"] (defScope s_l_all_so) := ⟨rfl, rfl, rfl, by decide +kernel, rfl, by decide +kernel, by decide +kernel⟩
abbrev s_law : Stmt := top 70
abbrev N_law : List Str := ["_law_script", "_law_bag_here", "_law_x", "_law_y", "_law_z", "_law_n", "_law_a", "_law_b", "_law_c", "_law_w", "_law_other_way", "_law_told", "_law_dues", "_law_first_sum", "_law_second_sum", "_law_many_times", "_law_less", "_law_level", "_law_turned_about", "_law_due", "_law_m"]
theorem sc_law : FnScope N_law ["_law_script"] (defScope s_law) := ⟨rfl, rfl, rfl, by decide +kernel, rfl, by decide +kernel, by decide +kernel⟩
structure InsOk (K : PySem.W.Frag) (C : Addr) : Prop where
  ca : PySem.W.findIn K (.ref C) "__class__" = some (some (.builtin "object.__class__"))
  cn : PySem.W.specialIn K (.builtin "object.__class__") "__get__" = some (some (.builtin "getset_descriptor.__get__"))
  ct : PySem.W.takesIn K (.builtin "object.__class__") = some true
  cm : PySem.W.mroIn K C (.type "object") = some true
  me : PySem.W.kitOne K (.ref C) (.ref C) = some true
def PR : List (Nat × Nat) := [(0, 1), (0, 2), (0, 3), (0, 4), (0, 5), (1, 2), (1, 3), (1, 4), (1, 5), (2, 3), (2, 4), (2, 5), (3, 4), (3, 5), (4, 5)]
set_option maxHeartbeats 0 in
structure Tx (K : PySem.W.Frag) (mg : Str → Option Value) : Type where
  z_len : mg "len" = none
  z_abs : mg "abs" = none
  z_int : mg "int" = none
  z_isinstance : mg "isinstance" = none
  z_list : mg "list" = none
  z_tuple : mg "tuple" = none
  z_bool : mg "bool" = none
  z_str : mg "str" = none
  z_all : mg "all" = none
  z_any : mg "any" = none
  z_zip : mg "zip" = none
  z_range : mg "range" = none
  z_enumerate : mg "enumerate" = none
  z_divmod : mg "divmod" = none
  z_max : mg "max" = none
  z_min : mg "min" = none
  z_reversed : mg "reversed" = none
  C_Ratio : Addr
  c_Ratio : Cls K C_Ratio
  g_Ratio : mg "Ratio" = some (.ref C_Ratio)
  n_Ratio_over : NoAttr K C_Ratio "over"
  n_Ratio_under : NoAttr K C_Ratio "under"
  n_Ratio_powers : NoAttr K C_Ratio "_powers"
  i_Ratio : InsOk K C_Ratio
  C_Wedge : Addr
  c_Wedge : Cls K C_Wedge
  g_Wedge : mg "Wedge" = some (.ref C_Wedge)
  n_Wedge_pairs : NoAttr K C_Wedge "_pairs"
  n_Wedge_bits : NoAttr K C_Wedge "_bits"
  i_Wedge : InsOk K C_Wedge
  e_PRIMES : Addr
  m_PRIMES : mg "PRIMES" = some (.ref e_PRIMES)
  q_PRIMES : ∀ H : Hp, SqT K H e_PRIMES [.int 2, .int 3, .int 5, .int 7, .int 11, .int 13]
  e_NO_POWERS : Addr
  m_NO_POWERS : mg "NO_POWERS" = some (.ref e_NO_POWERS)
  q_NO_POWERS : ∀ H : Hp, SqT K H e_NO_POWERS [.int 0, .int 0, .int 0, .int 0, .int 0, .int 0]
  m_gcd : mg "gcd" = some (.builtin "math.gcd")
  t_MANY : Tok
  m_MANY : mg "MANY" = some (.int 500 t_MANY)
  e_PAIRS : Addr
  m_PAIRS : mg "PAIRS" = some (.ref e_PAIRS)
  l_PAIRS : ∃ xs : List V, xs.length = 15 ∧ ∀ H : Hp, SqT K H e_PAIRS xs
  p_PAIRS : ∃ as : List Addr, as.length = 15 ∧ (∀ H : Hp, SqT K H e_PAIRS (as.map V.ref)) ∧ ∀ (k : Nat) (a : Addr), as[k]? = some a → ∃ i j : Nat, PR[k]? = some (i, j) ∧ ∀ H : Hp, SqT K H a [.int (i : Int), .int (j : Int)]
  e_bits : Addr
  q_bits : ∀ H : Hp, SqT K H e_bits [.int 0, .int 0, .int 0, .int 0, .int 0, .int 0]
  f_is_number : Addr
  d_is_number : FuncData
  F_is_number : Fun K "is_number" "is_number" s_is_number f_is_number d_is_number
  b_is_number : Binds K d_is_number ["value"] []
  m_is_number : mg "is_number" = some (.ref f_is_number)
  f_is_listed : Addr
  d_is_listed : FuncData
  F_is_listed : Fun K "is_listed" "is_listed" s_is_listed f_is_listed d_is_listed
  b_is_listed : Binds K d_is_listed ["value"] []
  m_is_listed : mg "is_listed" = some (.ref f_is_listed)
  f_are_numbers : Addr
  d_are_numbers : FuncData
  F_are_numbers : Fun K "are_numbers" "are_numbers" s_are_numbers f_are_numbers d_are_numbers
  b_are_numbers : Binds K d_are_numbers ["value", "many"] []
  m_are_numbers : mg "are_numbers" = some (.ref f_are_numbers)
  f_are_bits : Addr
  d_are_bits : FuncData
  F_are_bits : Fun K "are_bits" "are_bits" s_are_bits f_are_bits d_are_bits
  b_are_bits : Binds K d_are_bits ["value", "many"] []
  m_are_bits : mg "are_bits" = some (.ref f_are_bits)
  f_Ratio_init : Addr
  d_Ratio_init : FuncData
  F_Ratio_init : FunD K "__init__" "Ratio.__init__" (defArgs s_Ratio_init) (defBody s_Ratio_init) (defScope s_Ratio_init) [V.int 1] [] f_Ratio_init d_Ratio_init
  ds_Ratio_init : List Value
  v_Ratio_init : Vals [V.int 1] ds_Ratio_init
  b_Ratio_init : Binds K d_Ratio_init ["self", "over", "under"] []
  b1_Ratio_init : Binds K d_Ratio_init ["self", "over", "under"] ds_Ratio_init
  k_Ratio : Mk K C_Ratio f_Ratio_init
  f_Ratio_powers : Addr
  d_Ratio_powers : FuncData
  F_Ratio_powers : Fun K "powers" "Ratio.powers" s_Ratio_powers f_Ratio_powers d_Ratio_powers
  b_Ratio_powers : Binds K d_Ratio_powers ["self"] []
  a_Ratio_powers : Meth K C_Ratio "powers" f_Ratio_powers
  f_Ratio_power : Addr
  d_Ratio_power : FuncData
  F_Ratio_power : Fun K "power" "Ratio.power" s_Ratio_power f_Ratio_power d_Ratio_power
  b_Ratio_power : Binds K d_Ratio_power ["self", "k"] []
  a_Ratio_power : Meth K C_Ratio "power" f_Ratio_power
  f_Ratio_mul : Addr
  d_Ratio_mul : FuncData
  F_Ratio_mul : Fun K "__mul__" "Ratio.__mul__" s_Ratio_mul f_Ratio_mul d_Ratio_mul
  b_Ratio_mul : Binds K d_Ratio_mul ["self", "other"] []
  a_Ratio_mul : Meth K C_Ratio "__mul__" f_Ratio_mul
  f_Ratio_floordiv : Addr
  d_Ratio_floordiv : FuncData
  F_Ratio_floordiv : Fun K "__floordiv__" "Ratio.__floordiv__" s_Ratio_floordiv f_Ratio_floordiv d_Ratio_floordiv
  b_Ratio_floordiv : Binds K d_Ratio_floordiv ["self", "other"] []
  a_Ratio_floordiv : Meth K C_Ratio "__floordiv__" f_Ratio_floordiv
  f__raised : Addr
  d__raised : FuncData
  F__raised : Fun K "_raised" "_raised" s__raised f__raised d__raised
  b__raised : Binds K d__raised ["base", "exponent"] []
  m__raised : mg "_raised" = some (.ref f__raised)
  f__made_of : Addr
  d__made_of : FuncData
  F__made_of : Fun K "_made_of" "_made_of" s__made_of f__made_of d__made_of
  b__made_of : Binds K d__made_of ["powers"] []
  m__made_of : mg "_made_of" = some (.ref f__made_of)
  f__fraction_of : Addr
  d__fraction_of : FuncData
  F__fraction_of : Fun K "_fraction_of" "_fraction_of" s__fraction_of f__fraction_of d__fraction_of
  b__fraction_of : Binds K d__fraction_of ["powers"] []
  m__fraction_of : mg "_fraction_of" = some (.ref f__fraction_of)
  f_ratio_with : Addr
  d_ratio_with : FuncData
  F_ratio_with : Fun K "ratio_with" "ratio_with" s_ratio_with f_ratio_with d_ratio_with
  b_ratio_with : Binds K d_ratio_with ["powers"] []
  m_ratio_with : mg "ratio_with" = some (.ref f_ratio_with)
  f__split : Addr
  d__split : FuncData
  F__split : Fun K "_split" "_split" s__split f__split d__split
  b__split : Binds K d__split ["number", "divisor"] []
  m__split : mg "_split" = some (.ref f__split)
  f__powers_in : Addr
  d__powers_in : FuncData
  F__powers_in : Fun K "_powers_in" "_powers_in" s__powers_in f__powers_in d__powers_in
  b__powers_in : Binds K d__powers_in ["number"] []
  m__powers_in : mg "_powers_in" = some (.ref f__powers_in)
  f__powers_of : Addr
  d__powers_of : FuncData
  F__powers_of : Fun K "_powers_of" "_powers_of" s__powers_of f__powers_of d__powers_of
  b__powers_of : Binds K d__powers_of ["over", "under"] []
  m__powers_of : mg "_powers_of" = some (.ref f__powers_of)
  f_Wedge_init : Addr
  d_Wedge_init : FuncData
  F_Wedge_init : FunD K "__init__" "Wedge.__init__" (defArgs s_Wedge_init) (defBody s_Wedge_init) (defScope s_Wedge_init) [V.ref e_bits] [] f_Wedge_init d_Wedge_init
  ds_Wedge_init : List Value
  v_Wedge_init : Vals [V.ref e_bits] ds_Wedge_init
  b_Wedge_init : Binds K d_Wedge_init ["self", "pairs", "bits"] []
  b1_Wedge_init : Binds K d_Wedge_init ["self", "pairs", "bits"] ds_Wedge_init
  k_Wedge : Mk K C_Wedge f_Wedge_init
  f_Wedge_pairs : Addr
  d_Wedge_pairs : FuncData
  F_Wedge_pairs : Fun K "pairs" "Wedge.pairs" s_Wedge_pairs f_Wedge_pairs d_Wedge_pairs
  b_Wedge_pairs : Binds K d_Wedge_pairs ["self"] []
  a_Wedge_pairs : Meth K C_Wedge "pairs" f_Wedge_pairs
  f_Wedge_bits : Addr
  d_Wedge_bits : FuncData
  F_Wedge_bits : Fun K "bits" "Wedge.bits" s_Wedge_bits f_Wedge_bits d_Wedge_bits
  b_Wedge_bits : Binds K d_Wedge_bits ["self"] []
  a_Wedge_bits : Meth K C_Wedge "bits" f_Wedge_bits
  f_Wedge_matrix : Addr
  d_Wedge_matrix : FuncData
  F_Wedge_matrix : Fun K "matrix" "Wedge.matrix" s_Wedge_matrix f_Wedge_matrix d_Wedge_matrix
  b_Wedge_matrix : Binds K d_Wedge_matrix ["self"] []
  a_Wedge_matrix : Meth K C_Wedge "matrix" f_Wedge_matrix
  f_Wedge_flat : Addr
  d_Wedge_flat : FuncData
  F_Wedge_flat : Fun K "flat" "Wedge.flat" s_Wedge_flat f_Wedge_flat d_Wedge_flat
  b_Wedge_flat : Binds K d_Wedge_flat ["self"] []
  p_Wedge_flat : Addr
  P_Wedge_flat : PropOf K C_Wedge "flat" p_Wedge_flat f_Wedge_flat
  f_Wedge_rank : Addr
  d_Wedge_rank : FuncData
  F_Wedge_rank : Fun K "rank" "Wedge.rank" s_Wedge_rank f_Wedge_rank d_Wedge_rank
  b_Wedge_rank : Binds K d_Wedge_rank ["self"] []
  p_Wedge_rank : Addr
  P_Wedge_rank : PropOf K C_Wedge "rank" p_Wedge_rank f_Wedge_rank
  f_Wedge_owed : Addr
  d_Wedge_owed : FuncData
  F_Wedge_owed : Fun K "owed" "Wedge.owed" s_Wedge_owed f_Wedge_owed d_Wedge_owed
  b_Wedge_owed : Binds K d_Wedge_owed ["self"] []
  p_Wedge_owed : Addr
  P_Wedge_owed : PropOf K C_Wedge "owed" p_Wedge_owed f_Wedge_owed
  f_Wedge_add : Addr
  d_Wedge_add : FuncData
  F_Wedge_add : Fun K "__add__" "Wedge.__add__" s_Wedge_add f_Wedge_add d_Wedge_add
  b_Wedge_add : Binds K d_Wedge_add ["self", "other"] []
  a_Wedge_add : Meth K C_Wedge "__add__" f_Wedge_add
  f_Wedge_sub : Addr
  d_Wedge_sub : FuncData
  F_Wedge_sub : Fun K "__sub__" "Wedge.__sub__" s_Wedge_sub f_Wedge_sub d_Wedge_sub
  b_Wedge_sub : Binds K d_Wedge_sub ["self", "other"] []
  a_Wedge_sub : Meth K C_Wedge "__sub__" f_Wedge_sub
  f_Wedge_neg : Addr
  d_Wedge_neg : FuncData
  F_Wedge_neg : Fun K "__neg__" "Wedge.__neg__" s_Wedge_neg f_Wedge_neg d_Wedge_neg
  b_Wedge_neg : Binds K d_Wedge_neg ["self"] []
  a_Wedge_neg : Meth K C_Wedge "__neg__" f_Wedge_neg
  f_Wedge_mul : Addr
  d_Wedge_mul : FuncData
  F_Wedge_mul : Fun K "__mul__" "Wedge.__mul__" s_Wedge_mul f_Wedge_mul d_Wedge_mul
  b_Wedge_mul : Binds K d_Wedge_mul ["self", "k"] []
  a_Wedge_mul : Meth K C_Wedge "__mul__" f_Wedge_mul
  f_Wedge_rmul : Addr
  d_Wedge_rmul : FuncData
  F_Wedge_rmul : Fun K "__rmul__" "Wedge.__rmul__" s_Wedge_rmul f_Wedge_rmul d_Wedge_rmul
  b_Wedge_rmul : Binds K d_Wedge_rmul ["self", "k"] []
  a_Wedge_rmul : Meth K C_Wedge "__rmul__" f_Wedge_rmul
  f_Wedge_eq : Addr
  d_Wedge_eq : FuncData
  F_Wedge_eq : Fun K "__eq__" "Wedge.__eq__" s_Wedge_eq f_Wedge_eq d_Wedge_eq
  b_Wedge_eq : Binds K d_Wedge_eq ["self", "other"] []
  a_Wedge_eq : Meth K C_Wedge "__eq__" f_Wedge_eq
  f_wedge_of_products : Addr
  d_wedge_of_products : FuncData
  F_wedge_of_products : Fun K "wedge_of_products" "wedge_of_products" s_wedge_of_products f_wedge_of_products d_wedge_of_products
  b_wedge_of_products : Binds K d_wedge_of_products ["matrix"] []
  m_wedge_of_products : mg "wedge_of_products" = some (.ref f_wedge_of_products)
  f_wedge_of : Addr
  d_wedge_of : FuncData
  F_wedge_of : Fun K "wedge_of" "wedge_of" s_wedge_of f_wedge_of d_wedge_of
  b_wedge_of : Binds K d_wedge_of ["u", "v"] []
  m_wedge_of : mg "wedge_of" = some (.ref f_wedge_of)
  f_nothing : Addr
  d_nothing : FuncData
  F_nothing : Fun K "nothing" "nothing" s_nothing f_nothing d_nothing
  b_nothing : Binds K d_nothing [] []
  m_nothing : mg "nothing" = some (.ref f_nothing)
  f__filled_from : Addr
  d__filled_from : FuncData
  F__filled_from : Fun K "_filled_from" "_filled_from" s__filled_from f__filled_from d__filled_from
  b__filled_from : Binds K d__filled_from ["rows", "first", "column"] []
  m__filled_from : mg "_filled_from" = some (.ref f__filled_from)
  f__cleared : Addr
  d__cleared : FuncData
  F__cleared : Fun K "_cleared" "_cleared" s__cleared f__cleared d__cleared
  b__cleared : Binds K d__cleared ["matrix"] []
  m__cleared : mg "_cleared" = some (.ref f__cleared)
  f_rank_of : Addr
  d_rank_of : FuncData
  F_rank_of : Fun K "rank_of" "rank_of" s_rank_of f_rank_of d_rank_of
  b_rank_of : Binds K d_rank_of ["matrix"] []
  m_rank_of : mg "rank_of" = some (.ref f_rank_of)
  f_l_bag : Addr
  d_l_bag : FuncData
  F_l_bag : Fun K "_law_bag" "_law_bag" s_l_bag f_l_bag d_l_bag
  b_l_bag : Binds K d_l_bag ["_law_script"] []
  m_l_bag : mg "_law_bag" = some (.ref f_l_bag)
  f_l_draw : Addr
  d_l_draw : FuncData
  F_l_draw : Fun K "_law_draw" "_law_draw" s_l_draw f_l_draw d_l_draw
  b_l_draw : Binds K d_l_draw ["_law_bag_here", "_law_sides"] []
  m_l_draw : mg "_law_draw" = some (.ref f_l_draw)
  f_l_of : Addr
  d_l_of : FuncData
  F_l_of : Fun K "_law_of" "_law_of" s_l_of f_l_of d_l_of
  b_l_of : Binds K d_l_of ["_law_bag_here", "_law_things"] []
  m_l_of : mg "_law_of" = some (.ref f_l_of)
  f_l_same : Addr
  d_l_same : FuncData
  F_l_same : Fun K "_law_same" "_law_same" s_l_same f_l_same d_l_same
  b_l_same : Binds K d_l_same ["_law_found", "_law_due"] []
  m_l_same : mg "_law_same" = some (.ref f_l_same)
  f_l_primes : Addr
  d_l_primes : FuncData
  F_l_primes : Fun K "_law_primes" "_law_primes" s_l_primes f_l_primes d_l_primes
  b_l_primes : Binds K d_l_primes [] []
  m_l_primes : mg "_law_primes" = some (.ref f_l_primes)
  f_l_twos : Addr
  d_l_twos : FuncData
  F_l_twos : Fun K "_law_twos" "_law_twos" s_l_twos f_l_twos d_l_twos
  b_l_twos : Binds K d_l_twos [] []
  m_l_twos : mg "_law_twos" = some (.ref f_l_twos)
  f_l_gcd : Addr
  d_l_gcd : FuncData
  F_l_gcd : Fun K "_law_gcd" "_law_gcd" s_l_gcd f_l_gcd d_l_gcd
  b_l_gcd : Binds K d_l_gcd ["_law_x", "_law_y"] []
  m_l_gcd : mg "_law_gcd" = some (.ref f_l_gcd)
  f_l_low : Addr
  d_l_low : FuncData
  F_l_low : Fun K "_law_low" "_law_low" s_l_low f_l_low d_l_low
  b_l_low : Binds K d_l_low ["_law_num", "_law_den"] []
  m_l_low : mg "_law_low" = some (.ref f_l_low)
  f_l_mul : Addr
  d_l_mul : FuncData
  F_l_mul : Fun K "_law_mul" "_law_mul" s_l_mul f_l_mul d_l_mul
  b_l_mul : Binds K d_l_mul ["_law_x", "_law_y"] []
  m_l_mul : mg "_law_mul" = some (.ref f_l_mul)
  f_l_quo : Addr
  d_l_quo : FuncData
  F_l_quo : Fun K "_law_quo" "_law_quo" s_l_quo f_l_quo d_l_quo
  b_l_quo : Binds K d_l_quo ["_law_x", "_law_y"] []
  m_l_quo : mg "_law_quo" = some (.ref f_l_quo)
  f_l_raised : Addr
  d_l_raised : FuncData
  F_l_raised : Fun K "_law_raised" "_law_raised" s_l_raised f_l_raised d_l_raised
  b_l_raised : Binds K d_l_raised ["_law_x", "_law_n"] []
  m_l_raised : mg "_law_raised" = some (.ref f_l_raised)
  f_l_count : Addr
  d_l_count : FuncData
  F_l_count : Fun K "_law_count" "_law_count" s_l_count f_l_count d_l_count
  b_l_count : Binds K d_l_count ["_law_n", "_law_prime"] []
  m_l_count : mg "_law_count" = some (.ref f_l_count)
  f_l_exponents : Addr
  d_l_exponents : FuncData
  F_l_exponents : Fun K "_law_exponents" "_law_exponents" s_l_exponents f_l_exponents d_l_exponents
  b_l_exponents : Binds K d_l_exponents ["_law_x"] []
  m_l_exponents : mg "_law_exponents" = some (.ref f_l_exponents)
  f_l_bits : Addr
  d_l_bits : FuncData
  F_l_bits : Fun K "_law_bits" "_law_bits" s_l_bits f_l_bits d_l_bits
  b_l_bits : Binds K d_l_bits ["_law_x"] []
  m_l_bits : mg "_law_bits" = some (.ref f_l_bits)
  f_l_built : Addr
  d_l_built : FuncData
  F_l_built : Fun K "_law_built" "_law_built" s_l_built f_l_built d_l_built
  b_l_built : Binds K d_l_built ["_law_exponents_here"] []
  m_l_built : mg "_law_built" = some (.ref f_l_built)
  f_l_step : Addr
  d_l_step : FuncData
  F_l_step : Fun K "_law_step" "_law_step" s_l_step f_l_step d_l_step
  b_l_step : Binds K d_l_step ["_law_bag_here"] []
  m_l_step : mg "_law_step" = some (.ref f_l_step)
  f_l_length : Addr
  d_l_length : FuncData
  F_l_length : Fun K "_law_length" "_law_length" s_l_length f_l_length d_l_length
  b_l_length : Binds K d_l_length ["_law_bag_here"] []
  m_l_length : mg "_law_length" = some (.ref f_l_length)
  f_l_ratio : Addr
  d_l_ratio : FuncData
  F_l_ratio : Fun K "_law_ratio" "_law_ratio" s_l_ratio f_l_ratio d_l_ratio
  b_l_ratio : Binds K d_l_ratio ["_law_bag_here", "_law_x"] []
  m_l_ratio : mg "_law_ratio" = some (.ref f_l_ratio)
  f_l_is : Addr
  d_l_is : FuncData
  F_l_is : Fun K "_law_is" "_law_is" s_l_is f_l_is d_l_is
  b_l_is : Binds K d_l_is ["_law_x"] []
  m_l_is : mg "_law_is" = some (.ref f_l_is)
  f_l_seen : Addr
  d_l_seen : FuncData
  F_l_seen : Fun K "_law_seen" "_law_seen" s_l_seen f_l_seen d_l_seen
  b_l_seen : Binds K d_l_seen ["_law_thing"] []
  m_l_seen : mg "_law_seen" = some (.ref f_l_seen)
  f_l_two : Addr
  d_l_two : FuncData
  F_l_two : Fun K "_law_two" "_law_two" s_l_two f_l_two d_l_two
  b_l_two : Binds K d_l_two ["_law_x", "_law_y"] []
  m_l_two : mg "_law_two" = some (.ref f_l_two)
  f_l_added : Addr
  d_l_added : FuncData
  F_l_added : Fun K "_law_added" "_law_added" s_l_added f_l_added d_l_added
  b_l_added : Binds K d_l_added ["_law_w", "_law_z"] []
  m_l_added : mg "_law_added" = some (.ref f_l_added)
  f_l_none : Addr
  d_l_none : FuncData
  F_l_none : Fun K "_law_none" "_law_none" s_l_none f_l_none d_l_none
  b_l_none : Binds K d_l_none [] []
  m_l_none : mg "_law_none" = some (.ref f_l_none)
  f_l_wedge_seen : Addr
  d_l_wedge_seen : FuncData
  F_l_wedge_seen : Fun K "_law_wedge_seen" "_law_wedge_seen" s_l_wedge_seen f_l_wedge_seen d_l_wedge_seen
  b_l_wedge_seen : Binds K d_l_wedge_seen ["_law_w"] []
  m_l_wedge_seen : mg "_law_wedge_seen" = some (.ref f_l_wedge_seen)
  f_l_wedge_due : Addr
  d_l_wedge_due : FuncData
  F_l_wedge_due : Fun K "_law_wedge_due" "_law_wedge_due" s_l_wedge_due f_l_wedge_due d_l_wedge_due
  b_l_wedge_due : Binds K d_l_wedge_due ["_law_w"] []
  m_l_wedge_due : mg "_law_wedge_due" = some (.ref f_l_wedge_due)
  f_l_ratio_drawn : Addr
  d_l_ratio_drawn : FuncData
  F_l_ratio_drawn : Fun K "_law_ratio_drawn" "_law_ratio_drawn" s_l_ratio_drawn f_l_ratio_drawn d_l_ratio_drawn
  b_l_ratio_drawn : Binds K d_l_ratio_drawn ["_law_bag_here"] []
  m_l_ratio_drawn : mg "_law_ratio_drawn" = some (.ref f_l_ratio_drawn)
  f_l_all_so : Addr
  d_l_all_so : FuncData
  F_l_all_so : Fun K "_law_all_so" "_law_all_so" s_l_all_so f_l_all_so d_l_all_so
  b_l_all_so : Binds K d_l_all_so ["_law_told", "_law_dues"] []
  m_l_all_so : mg "_law_all_so" = some (.ref f_l_all_so)
  f_law : Addr
  d_law : FuncData
  F_law : Fun K "law" "law" s_law f_law d_law
  b_law : Binds K d_law ["_law_script"] []
  m_law : mg "law" = some (.ref f_law)
  sfR : PySem.W.selfFirst K C_Ratio = true
  sfW : PySem.W.selfFirst K C_Wedge = true
  sI : PySem.W.subIn K (.type "int") (.ref C_Wedge) = some false
  sC : PySem.W.subIn K (.ref C_Wedge) (.type "int") = some false
  iM : ∃ fo, PySem.W.findIn K (.type "int") ("__mul__" : Str) = some fo
  iR : ∃ ro, PySem.W.findIn K (.type "int") ("__rmul__" : Str) = some ro
  kList : PySem.W.kitOne K (.type "list") (.ref C_Ratio) = some false
  kb_wedge_of : KBinds K d_wedge_of ["u", "v"] ["v", "u"] g02s g02s
/-! ### steps of a reading -/
local macro_rules | `(tactic| walk_at "hp") => `(tactic| first | assumption | exact upd_same | (refine (upd_ne (by first | assumption | (exact Ne.symm (by assumption)))).trans ?_; walk_at "hp"))
local macro_rules | `(tactic| walk_at "ok") => `(tactic| first | (exact Or.inr ⟨by decide, by decide⟩) | (exact ⟨by decide, by decide⟩) | (exact ⟨by decide, by decide, by decide⟩) | (show _ ≠ _; omega) | (show _ ≠ _; decide) | (exact Or.inl ⟨by omega, by omega⟩) | decide)
local macro_rules | `(tactic| walk_at "sq") => `(tactic| first | assumption | exact SqL.of (by walk_at "hp") | exact SqT.of (by walk_at "hp"))
local macro_rules | `(tactic| walk_at "ty") => `(tactic| first | refine ⟨_, _, Value.type "int", Value.type "list", false, rfl, ClsV.ty _, TyX.base (TyOf.int _), kt_int_list, ?_⟩ | refine ⟨_, _, Value.type "bool", Value.type "list", false, rfl, ClsV.ty _, TyX.base (TyOf.bl _), kt_bool_list, ?_⟩ | refine ⟨_, _, Value.type "str", Value.type "list", false, rfl, ClsV.ty _, TyX.base (TyOf.str _), kt_str_list, ?_⟩ | refine ⟨_, _, Value.type "NoneType", Value.type "list", false, rfl, ClsV.ty _, TyX.base TyOf.non, kt_NoneType_list, ?_⟩ | refine ⟨_, _, Value.type "list", Value.type "list", true, rfl, ClsV.ty _, tyx_L (by walk_at "sq"), kt_list_list, ?_⟩ | refine ⟨_, _, Value.type "tuple", Value.type "list", false, rfl, ClsV.ty _, tyx_T (by walk_at "sq"), kt_tuple_list, ?_⟩ | refine ⟨_, _, Value.type "int", Value.type "tuple", false, rfl, ClsV.ty _, TyX.base (TyOf.int _), kt_int_tuple, ?_⟩ | refine ⟨_, _, Value.type "bool", Value.type "tuple", false, rfl, ClsV.ty _, TyX.base (TyOf.bl _), kt_bool_tuple, ?_⟩ | refine ⟨_, _, Value.type "str", Value.type "tuple", false, rfl, ClsV.ty _, TyX.base (TyOf.str _), kt_str_tuple, ?_⟩ | refine ⟨_, _, Value.type "NoneType", Value.type "tuple", false, rfl, ClsV.ty _, TyX.base TyOf.non, kt_NoneType_tuple, ?_⟩ | refine ⟨_, _, Value.type "list", Value.type "tuple", false, rfl, ClsV.ty _, tyx_L (by walk_at "sq"), kt_list_tuple, ?_⟩ | refine ⟨_, _, Value.type "tuple", Value.type "tuple", true, rfl, ClsV.ty _, tyx_T (by walk_at "sq"), kt_tuple_tuple, ?_⟩ | refine ⟨_, _, Value.type "int", Value.type "bool", false, rfl, ClsV.ty _, TyX.base (TyOf.int _), kt_int_bool, ?_⟩ | refine ⟨_, _, Value.type "bool", Value.type "bool", true, rfl, ClsV.ty _, TyX.base (TyOf.bl _), kt_bool_bool, ?_⟩ | refine ⟨_, _, Value.type "str", Value.type "bool", false, rfl, ClsV.ty _, TyX.base (TyOf.str _), kt_str_bool, ?_⟩ | refine ⟨_, _, Value.type "NoneType", Value.type "bool", false, rfl, ClsV.ty _, TyX.base TyOf.non, kt_NoneType_bool, ?_⟩ | refine ⟨_, _, Value.type "list", Value.type "bool", false, rfl, ClsV.ty _, tyx_L (by walk_at "sq"), kt_list_bool, ?_⟩ | refine ⟨_, _, Value.type "tuple", Value.type "bool", false, rfl, ClsV.ty _, tyx_T (by walk_at "sq"), kt_tuple_bool, ?_⟩ | refine ⟨_, _, Value.type "int", Value.type "int", true, rfl, ClsV.ty _, TyX.base (TyOf.int _), kt_int_int, ?_⟩ | refine ⟨_, _, Value.type "bool", Value.type "int", true, rfl, ClsV.ty _, TyX.base (TyOf.bl _), kt_bool_int, ?_⟩ | refine ⟨_, _, Value.type "str", Value.type "int", false, rfl, ClsV.ty _, TyX.base (TyOf.str _), kt_str_int, ?_⟩ | refine ⟨_, _, Value.type "NoneType", Value.type "int", false, rfl, ClsV.ty _, TyX.base TyOf.non, kt_NoneType_int, ?_⟩ | refine ⟨_, _, Value.type "list", Value.type "int", false, rfl, ClsV.ty _, tyx_L (by walk_at "sq"), kt_list_int, ?_⟩ | refine ⟨_, _, Value.type "tuple", Value.type "int", false, rfl, ClsV.ty _, tyx_T (by walk_at "sq"), kt_tuple_int, ?_⟩ | refine ⟨_, _, Value.type "int", Value.type "str", false, rfl, ClsV.ty _, TyX.base (TyOf.int _), kt_int_str, ?_⟩ | refine ⟨_, _, Value.type "bool", Value.type "str", false, rfl, ClsV.ty _, TyX.base (TyOf.bl _), kt_bool_str, ?_⟩ | refine ⟨_, _, Value.type "str", Value.type "str", true, rfl, ClsV.ty _, TyX.base (TyOf.str _), kt_str_str, ?_⟩ | refine ⟨_, _, Value.type "NoneType", Value.type "str", false, rfl, ClsV.ty _, TyX.base TyOf.non, kt_NoneType_str, ?_⟩ | refine ⟨_, _, Value.type "list", Value.type "str", false, rfl, ClsV.ty _, tyx_L (by walk_at "sq"), kt_list_str, ?_⟩ | refine ⟨_, _, Value.type "tuple", Value.type "str", false, rfl, ClsV.ty _, tyx_T (by walk_at "sq"), kt_tuple_str, ?_⟩)
local macro_rules | `(tactic| walk_at "go1") => `(tactic| first
  | (refine ⟨_, rfl, ?_⟩)
  | (refine ⟨_, _, rfl, rfl, ?_⟩)
  | (refine ⟨_, _, _, _, rfl, rfl, SqL.of (by walk_at "hp"), rfl, ?_⟩)
  | (refine Or.inl ⟨_, rfl, ?_⟩)
  | (refine ⟨rfl, ?_⟩)
  | (refine ⟨_, _, rfl, .inl (SqL.of (by walk_at "hp")), ?_⟩)
  | (refine ⟨_, _, rfl, Or.inl (by assumption), ?_⟩)
  | (refine ⟨_, _, rfl, Or.inr (by assumption), ?_⟩)
  | (refine ⟨(by walk_at "ok"), ?_⟩)
  | (refine ⟨_, _, _, _, rfl, rfl, (by walk_at "hp"), rfl, ?_⟩))
local macro_rules | `(tactic| walk_at "go") => `(tactic| repeat (walk_at "go1"))
local macro_rules | `(tactic| walk_at "gt") => `(tactic| repeat (first | walk_at "go1" | walk_at "ty"))

/-! ### the law's own helpers -/
section
variable {P : Program} {w : World} {K : PySem.W.Frag} {mg : Str → Option Value} {base : Heap}
def spDraw : Sp := fun vs H Q _ => ∃ (B : Bg) (n : Int), vs = [.ref B.b, .int n] ∧ 0 < n ∧ n.natAbs < 2 ^ 200 ∧ Bag B H ∧ ∀ (d : Int) (H' : Hp), 0 ≤ d → d < n → Bag B H' → Kb B.b H H' → Q (.int d) H'
theorem ok_draw (T : Tx K mg) : FnOk P w K mg base CX0 1 T.f_l_draw T.d_l_draw ["_law_bag_here", "_law_sides"] spDraw := by
  refine T.F_l_draw.ok sc_l_draw (fun vs H Q E h => ?_) (fun cdv A outer s H vs Q E hr h => ?_)
  · obtain ⟨g, n, rfl, _⟩ := h
    rfl
  obtain ⟨⟨g, L, ns⟩, n, rfl, hn, hn2, ⟨⟨i, r, z, c, hg, hi, hrr, hz, hz2⟩, hL, hne⟩, q⟩ := h
  dsimp only at hg hL hne q
  have nd := sc_l_draw.nd
  refine ⟨_, (pss_cut (ps_if (PW.pt (pw_and (pt_cmpR op_eq (pe_ix (show IxR _ (rIxL K) from ix_list) (pv 0) pe_int (fun _ _ => rfl)) pe_int (nomark _)) (pw_and1 (pt_cmpR op_lt (pe_ix (show IxR _ (rIxL K) from ix_list) (pv 0) pe_int (fun _ _ => rfl)) (pe_callB (show CallR _ _ (rLenSq K) from call_len_seq) (by rfl) T.z_len (by decide +kernel) (pa_cons (pe_ix (show IxR _ (rIxL K) from ix_list) (pv 0) pe_int (fun _ _ => rfl)) pa_nil)) (nomark _))))) (pss_cons (ps_set (i := 2) nd rfl (Or.inl rfl) (pe_callB call_abs (by rfl) T.z_abs (by decide +kernel) (pa_cons (pe_callTy call_int1 (by rfl) T.z_int (by decide +kernel) (pa_cons (pe_ix (show IxR _ (rIxL K) from ix_list) (pe_ix (show IxR _ (rIxL K) from ix_list) (pv 0) pe_int (fun _ _ => rfl)) (pe_ix (show IxR _ (rIxL K) from ix_list) (pv 0) pe_int (fun _ _ => rfl)) (fun _ _ => rfl)) pa_nil)) pa_nil)))
    (pss_cons (ps_asg (pe_op op_add (pe_ix (show IxR _ (rIxL K) from ix_list) (pv 0) pe_int (fun _ _ => rfl)) pe_int) (pg_sub (pv 0) pe_int set_list))
    (pss_one (ps_if (pt_cmpR op_ge (pv 2) (pe_op op_pow pe_int pe_int) (nomark _)) (pss_one (ps_asg (pv 2) (pg_sub (pv 0) pe_int set_list))) (pss_one (ps_asg (pe_op op_modN (pe_callTy call_int1 (by rfl) T.z_int (by decide +kernel) (pa_cons (pe_op op_add (pe_op op_add (pe_op op_mul (pe_ix (show IxR _ (rIxL K) from ix_list) (pv 0) pe_int (fun _ _ => rfl)) pe_int) (pe_op op_mul (pe_op op_modN (pv 2) pe_int) pe_int)) pe_int) pa_nil)) pe_int) (pg_sub (pv 0) pe_int set_list))))))) pss_nil)
    (pss_cons (ps_if (pt_cmpR op_gt (pe_ix (show IxR _ (rIxL K) from ix_list) (pv 0) pe_int (fun _ _ => rfl)) pe_int (nomark _)) (pss_cons (ps_set (i := 3) nd rfl (Or.inl rfl) (pe_op op_modN (pe_callTy call_int1 (by rfl) T.z_int (by decide +kernel) (pa_cons (pe_ix (show IxR _ (rIxL K) from ix_list) (pv 0) pe_int (fun _ _ => rfl)) pa_nil)) (pv 1)))
    (pss_cons (ps_asg (pe_op op_fdivW (pe_ix (show IxR _ (rIxL K) from ix_list) (pv 0) pe_int (fun _ _ => rfl)) (pv 1)) (pg_sub (pv 0) pe_int set_list))
    (pss_one (ps_ret (pv 3))))) pss_nil)
    (pss_cons (ps_asg (pe_op op_add (pe_ix (show IxR _ (rIxL K) from ix_list) (pv 0) pe_int (fun _ _ => rfl)) pe_int) (pg_sub (pv 0) pe_int set_list))
    (pss_cons (ps_set (i := 4) nd rfl (Or.inl rfl) (pe_callTy call_int1 (by rfl) T.z_int (by decide +kernel) (pa_cons (pe_ix (show IxR _ (rIxL K) from ix_list) (pv 0) pe_int (fun _ _ => rfl)) pa_nil)))
    (pss_cons (ps_asg (pe_op op_modN (pe_callTy call_int1 (by rfl) T.z_int (by decide +kernel) (pa_cons (pe_op op_add (pe_op op_add (pe_op op_add (pe_op op_mul (pe_op op_mul (pv 4) (pv 4)) pe_int) (pe_op op_mul (pv 4) pe_int)) (pe_op op_mul (pe_ix (show IxR _ (rIxL K) from ix_list) (pv 0) pe_int (fun _ _ => rfl)) pe_int)) pe_int) pa_nil)) pe_int) (pg_sub (pv 0) pe_int set_list))
    (pss_one (ps_ret (pe_op op_modN (pe_callTy call_int1 (by rfl) T.z_int (by decide +kernel) (pa_cons (pe_op op_add (pe_op op_fdivN (pe_ix (show IxR _ (rIxL K) from ix_list) (pv 0) pe_int (fun _ _ => rfl)) pe_int) (pe_op op_mul (pe_op op_modN (pe_callTy call_int1 (by rfl) T.z_int (by decide +kernel) (pa_cons (pe_ix (show IxR _ (rIxL K) from ix_list) (pv 0) pe_int (fun _ _ => rfl)) pa_nil)) pe_int) pe_int)) pa_nil)) (pv 1))))))))), ?_⟩
  refine ⟨fun σ' H' => (∃ a : Option V, σ' = [some (.ref g), some (.int n), a, none, none]) ∧ Bag ⟨g, L, ns⟩ H' ∧ Kb g H H', ?_, ?_⟩
  · walk_at "go"
    refine ite2 (fun c1 => ?_) (fun c1 => ?_)
    · walk_at "go"
      refine ite2 (fun c2 => ?_) (fun c2 => ?_)
      · have c2' : i < (((ns.map V.int).length : Nat) : Int) := of_decide_eq_true c2
        rw [List.length_map] at c2'
        have hk : i.toNat < ns.length := by omega
        walk_at "go"
        refine ⟨L, ns.map V.int, i, V.int ns[i.toNat], rfl, rfl, SqL.of hL, at_of (j := i.toNat) (by omega) (by rw [List.getElem?_map, List.getElem?_eq_getElem hk]; rfl), ?_⟩
        walk_at "go"
        have c3 : 0 ≤ (if ns[i.toNat] < 0 then -ns[i.toNat] else ns[i.toNat]) := by split <;> omega
        refine ite2 (fun _ => ?_) (fun _ => ?_)
        · walk_at "go"
          exact ⟨⟨_, rfl⟩, ⟨⟨i + 1, _, z, c, upd_same, by omega, c3, hz, hz2⟩, by rw [upd_ne hne, upd_ne hne]; exact hL, hne⟩, Kb.at.trans Kb.at⟩
        · walk_at "go"
          have m1 := fm (i := z * 69621 + (if ns[i.toNat] < 0 then -ns[i.toNat] else ns[i.toNat]).fmod 1000003 * 907 + 29) (j := 2147483629) (by decide)
          exact ⟨⟨_, rfl⟩, ⟨⟨i + 1, r, _, c, upd_same, by omega, hrr, m1.1, by omega⟩, by rw [upd_ne hne, upd_ne hne]; exact hL, hne⟩, Kb.at.trans Kb.at⟩
      · exact ⟨⟨_, rfl⟩, ⟨⟨i, r, z, c, hg, hi, hrr, hz, hz2⟩, hL, hne⟩, Kb.refl _ _⟩
    · walk_at "go"
      exact ⟨⟨_, rfl⟩, ⟨⟨i, r, z, c, hg, hi, hrr, hz, hz2⟩, hL, hne⟩, Kb.refl _ _⟩
  · clear hg hL hne hi hrr hz hz2
    rintro σ' H' ⟨⟨a, rfl⟩, ⟨⟨i, r, z, c, hg, hi, hrr, hz, hz2⟩, hL, hne⟩, kb⟩
    dsimp only at hg hL hne
    walk_at "go"
    refine ite2 (fun c1 => ?_) (fun c1 => ?_)
    · have m1 := fm (i := r) (j := n) hn
      walk_at "go"
      refine ⟨wide_div hn hn2 (by decide) (by decide), ?_⟩
      walk_at "go"
      exact q _ _ m1.1 m1.2 ⟨⟨i, _, z, c, upd_same, hi, Int.ediv_nonneg hrr (by omega), hz, hz2⟩, by rw [upd_ne hne]; exact hL, hne⟩ (kb.trans Kb.at)
    · walk_at "go"
      have m1 := fm (i := z * z * 19 + z * 50021 + (c + 1) * 7877 + 40009) (j := 2147483587) (by decide)
      have m2 := fm (i := ((z * z * 19 + z * 50021 + (c + 1) * 7877 + 40009).fmod 2147483587).fdiv 89 + ((z * z * 19 + z * 50021 + (c + 1) * 7877 + 40009).fmod 2147483587).fmod 9973 * 53) (j := n) hn
      exact q _ _ m2.1 m2.2 ⟨⟨i, r, _, _, upd_same, hi, hrr, m1.1, by omega⟩, by rw [upd_ne hne, upd_ne hne]; exact hL, hne⟩ ((kb.trans Kb.at).trans Kb.at)
/-- the law's bag of a script -/
def spBag (K : PySem.W.Frag) : Sp := fun vs H Q _ => ∃ (a : Addr) (ns : List Int), vs = [.ref a] ∧ SqL K H a (ns.map V.int) ∧ ns.length ≤ 63 ∧ ∀ (B : Bg) (H' : Hp), Same H H' → Bag B H' → H B.b = none → Q (.ref B.b) H'
theorem cut63 {xs : List V} (h : xs.length ≤ 63) : cutV xs none (some 63) = xs := by
  unfold cutV
  have e1 : HT.sIx xs.length 0 none = 0 := rfl
  have e2 : HT.sIx xs.length xs.length (some 63) = xs.length := by
    unfold HT.sIx
    simp
    omega
  rw [e1, e2]
  simp
theorem ok_bag (T : Tx K mg) : FnOk P w K mg base CX0 1 T.f_l_bag T.d_l_bag ["_law_script"] (spBag K) := by
  refine T.F_l_bag.ok sc_l_bag (fun vs H Q E h => ?_) (fun cdv A outer s H vs Q E hr h => ?_)
  · obtain ⟨a, ns, rfl, _⟩ := h
    rfl
  obtain ⟨a, ns, rfl, hS, h63, q⟩ := h
  have nd := sc_l_bag.nd
  have hc : cutV (ns.map V.int) none (some 63) = ns.map V.int := cut63 (by rw [List.length_map]; exact h63)
  refine ⟨_, (pss_cons (ps_set (i := 1) nd rfl (Or.inl rfl) pe_int)
    (pss_cons (ps_for PassesOwn.never rfl (show PI _ _ _ (iList K _) from pi_list (pe_slice (show SlR _ (rSlL K) from sl_list) (pv 0) po_none (po_some pe_int))) (pg_name (i := 2) nd rfl (Or.inl rfl)) (pss_one (ps_set (i := 1) nd rfl (Or.inl rfl) (pe_op op_modN (pe_callTy call_int1 (by rfl) T.z_int (by decide +kernel) (pa_cons (pe_op op_add (pe_op op_add (pe_op op_mul (pv 1) pe_int) (pe_op op_mul (pe_op op_modN (pe_callTy call_int1 (by rfl) T.z_int (by decide +kernel) (pa_cons (pv 2) pa_nil)) pe_int) pe_int)) pe_int) pa_nil)) pe_int))))
    (pss_one (ps_ret (pe_lst (pa_cons (pe_callTy (show CallR _ _ (rListOf K) from call_list_of) (by rfl) T.z_list (by decide +kernel) (pa_cons (pe_slice (show SlR _ (rSlL K) from sl_list) (pv 0) po_none (po_some pe_int)) pa_nil)) (pa_cons pe_int (pa_cons pe_int (pa_cons (pv 1) (pa_cons pe_int pa_nil)))))))))), ?_⟩
  refine ⟨_, rfl, _, rfl, a, _, rfl, hS, fun p hp => ?_⟩
  rw [hc]
  refine ⟨p, rfl, ⟨_, SqL.of upd_same⟩, for_list (K := K) (a := p) (xs := ns.map V.int) (fun i σ' H' => (∃ (z : Int) (v : Option V), σ' = [some (.ref a), some (.int z), v] ∧ 0 ≤ z ∧ z < 2147483648) ∧ H' = upd H p (.lst (ns.map V.int)))
    ⟨⟨7919, none, rfl, by decide, by decide⟩, rfl⟩ (fun i σ' H' _ h => by rw [h.2]; exact SqL.of upd_same) ?_ ?_⟩
  · rintro i y σ' H' hi ⟨⟨z, v, rfl, h1, h2⟩, rfl⟩
    obtain ⟨k, rfl⟩ : ∃ k, y = V.int k := by
      rw [List.getElem?_map] at hi
      cases e : ns[i]? with
      | none => rw [e] at hi; cases hi
      | some k => rw [e] at hi; exact ⟨k, (Option.some.inj hi).symm⟩
    walk_at "go"
    have m1 := fm (i := z * 48271 + k.fmod 1000003 * 401 + 13) (j := 2147483647) (by decide)
    exact ⟨⟨_, _, rfl, m1.1, by omega⟩, rfl⟩
  · rintro σ' H' ⟨⟨z, v, rfl, h1, h2⟩, rfl⟩
    have s1 : Same H (upd H p (.lst (ns.map V.int))) := Same.new hp
    refine ⟨_, rfl, _, rfl, a, _, rfl, s1.seq hS, fun p2 hp2 => ?_⟩
    rw [hc]
    have s2 := s1.trans (Same.new (o := .lst (ns.map V.int)) hp2)
    refine ⟨_, _, rfl, .inl (SqL.of upd_same), fun p3 hp3 => ?_⟩
    have s3 := s2.trans (Same.new (o := .lst (ns.map V.int)) hp3)
    walk_at "go"
    refine ⟨(by show 5 ≤ sizeLine; decide), fun p4 hp4 => ?_⟩
    have n4 : p3 ≠ p4 := ne_of_none upd_same hp4
    exact q ⟨p4, p3, ns⟩ _ (s3.trans (Same.new hp4)) ⟨⟨0, 0, z, 0, upd_same, by decide, by decide, h1, h2⟩, by rw [upd_ne n4]; exact upd_same, n4⟩ (s3.free hp4)
/-- one of some things -/
def spOf (K : PySem.W.Frag) : Sp := fun vs H Q _ => ∃ (B : Bg) (a : Addr) (xs : List V), vs = [.ref B.b, .ref a] ∧ SqL K H a xs ∧ a ≠ B.b ∧ 0 < xs.length ∧ xs.length ≤ 1000 ∧ Bag B H ∧ ∀ (i : Nat) (v : V) (H' : Hp), xs[i]? = some v → Bag B H' → Kb B.b H H' → Q v H'
theorem Kb.seq {g : Addr} {H H' : Hp} {a : Addr} {xs : List V} (e : Kb g H H') (n : a ≠ g) (h : SqL K H a xs) : SqL K H' a xs := by
  rcases h with (h | ⟨o, h⟩) | h
  · exact .inl (.inl (e _ _ h n))
  · exact .inl (.inr ⟨o, e _ _ h n⟩)
  · exact .inr h
theorem ok_of (T : Tx K mg) : FnOk P w K mg base CX0 2 T.f_l_of T.d_l_of ["_law_bag_here", "_law_things"] (spOf K) := by
  have G_l_draw := ok_draw (P := P) (w := w) (base := base) T
  refine T.F_l_of.ok sc_l_of (fun vs H Q E h => ?_) (fun cdv A outer s H vs Q E hr h => ?_)
  · obtain ⟨B, a, xs, rfl, _⟩ := h
    rfl
  obtain ⟨B, a, xs, rfl, hS, hne, h0, h1, hB, q⟩ := h
  have nd := sc_l_of.nd
  refine ⟨_, (pss_one (ps_ret (pe_ix (show IxR _ (rIxL K) from ix_list) (pv 1) (pe_call G_l_draw (hr.mono (by decide)) (by rfl) T.m_l_draw T.F_l_draw.kp T.b_l_draw .nil pass0 (pa_cons (pv 0) (pa_cons (pe_callB (show CallR _ _ (rLenSq K) from call_len_seq) (by rfl) T.z_len (by decide +kernel) (pa_cons (pv 1) pa_nil)) pa_nil))) (fun _ _ => rfl)))), ?_⟩
  refine ⟨_, rfl, _, rfl, _, rfl, _, _, rfl, .inl hS, B, _, rfl, by omega, Nat.lt_of_le_of_lt (by omega : ((xs.length : Int)).natAbs ≤ 1000) (by decide), hB, fun d H' d0 d1 hB' kb => ?_⟩
  have hk : d.toNat < xs.length := by omega
  refine ⟨_, _, _, xs[d.toNat], rfl, rfl, kb.seq hne hS, at_of (j := d.toNat) (by omega) (List.getElem?_eq_getElem hk), ?_⟩
  exact q d.toNat _ H' (List.getElem?_eq_getElem hk) hB' kb
/-! ### equal data -/
inductive DEq (K : PySem.W.Frag) (H : Hp) : Nat → V → V → Prop where
  | non {n : Nat} : DEq K H n .non .non
  | bl {n : Nat} (b : Bool) : DEq K H n (.bl b) (.bl b)
  | int {n : Nat} (i : Int) : DEq K H n (.int i) (.int i)
  | str {n : Nat} (x : Str) : DEq K H n (.str x) (.str x)
  | lst {n : Nat} {a b : Addr} {xs ys : List V} (h1 : SqL K H a xs) (h2 : SqL K H b ys) (hlen : xs.length ≤ 100000) (hl : xs.length = ys.length) (h : ∀ (i : Nat) (x y : V), xs[i]? = some x → ys[i]? = some y → DEq K H n x y) : DEq K H (n + 1) (.ref a) (.ref b)
  | tup {n : Nat} {a b : Addr} {xs ys : List V} (h1 : SqT K H a xs) (h2 : SqT K H b ys) (hlen : xs.length ≤ 100000) (hl : xs.length = ys.length) (h : ∀ (i : Nat) (x y : V), xs[i]? = some x → ys[i]? = some y → DEq K H n x y) : DEq K H (n + 1) (.ref a) (.ref b)
theorem DEq.same {n : Nat} {H H' : Hp} {x y : V} (h : DEq K H n x y) (s : Same H H') : DEq K H' n x y := by
  induction h with
  | non => exact .non
  | bl b => exact .bl b
  | int i => exact .int i
  | str x => exact .str x
  | lst h1 h2 hlen hl _ ih => exact .lst (s.seq h1) (s.seq h2) hlen hl ih
  | tup h1 h2 hlen hl _ ih => exact .tup (seqT s h1) (seqT s h2) hlen hl ih
end

end TL
namespace TL
open PySem L2

/-! ### steps of a reading -/
local macro_rules | `(tactic| walk_at "hp") => `(tactic| first | assumption | exact upd_same | (refine (upd_ne (by first | assumption | (exact Ne.symm (by assumption)))).trans ?_; walk_at "hp"))
local macro_rules | `(tactic| walk_at "ok") => `(tactic| first | (exact Or.inr ⟨by decide, by decide⟩) | (exact ⟨by decide, by decide⟩) | (exact ⟨by decide, by decide, by decide⟩) | (show _ ≠ _; omega) | (show _ ≠ _; decide) | (exact Or.inl ⟨by omega, by omega⟩) | decide)
local macro_rules | `(tactic| walk_at "sq") => `(tactic| first | assumption | exact SqL.of (by walk_at "hp") | exact SqT.of (by walk_at "hp"))
local macro_rules | `(tactic| walk_at "ty") => `(tactic| first | refine ⟨_, _, Value.type "int", Value.type "list", false, rfl, ClsV.ty _, TyX.base (TyOf.int _), kt_int_list, ?_⟩ | refine ⟨_, _, Value.type "bool", Value.type "list", false, rfl, ClsV.ty _, TyX.base (TyOf.bl _), kt_bool_list, ?_⟩ | refine ⟨_, _, Value.type "str", Value.type "list", false, rfl, ClsV.ty _, TyX.base (TyOf.str _), kt_str_list, ?_⟩ | refine ⟨_, _, Value.type "NoneType", Value.type "list", false, rfl, ClsV.ty _, TyX.base TyOf.non, kt_NoneType_list, ?_⟩ | refine ⟨_, _, Value.type "list", Value.type "list", true, rfl, ClsV.ty _, tyx_L (by walk_at "sq"), kt_list_list, ?_⟩ | refine ⟨_, _, Value.type "tuple", Value.type "list", false, rfl, ClsV.ty _, tyx_T (by walk_at "sq"), kt_tuple_list, ?_⟩ | refine ⟨_, _, Value.type "int", Value.type "tuple", false, rfl, ClsV.ty _, TyX.base (TyOf.int _), kt_int_tuple, ?_⟩ | refine ⟨_, _, Value.type "bool", Value.type "tuple", false, rfl, ClsV.ty _, TyX.base (TyOf.bl _), kt_bool_tuple, ?_⟩ | refine ⟨_, _, Value.type "str", Value.type "tuple", false, rfl, ClsV.ty _, TyX.base (TyOf.str _), kt_str_tuple, ?_⟩ | refine ⟨_, _, Value.type "NoneType", Value.type "tuple", false, rfl, ClsV.ty _, TyX.base TyOf.non, kt_NoneType_tuple, ?_⟩ | refine ⟨_, _, Value.type "list", Value.type "tuple", false, rfl, ClsV.ty _, tyx_L (by walk_at "sq"), kt_list_tuple, ?_⟩ | refine ⟨_, _, Value.type "tuple", Value.type "tuple", true, rfl, ClsV.ty _, tyx_T (by walk_at "sq"), kt_tuple_tuple, ?_⟩ | refine ⟨_, _, Value.type "int", Value.type "bool", false, rfl, ClsV.ty _, TyX.base (TyOf.int _), kt_int_bool, ?_⟩ | refine ⟨_, _, Value.type "bool", Value.type "bool", true, rfl, ClsV.ty _, TyX.base (TyOf.bl _), kt_bool_bool, ?_⟩ | refine ⟨_, _, Value.type "str", Value.type "bool", false, rfl, ClsV.ty _, TyX.base (TyOf.str _), kt_str_bool, ?_⟩ | refine ⟨_, _, Value.type "NoneType", Value.type "bool", false, rfl, ClsV.ty _, TyX.base TyOf.non, kt_NoneType_bool, ?_⟩ | refine ⟨_, _, Value.type "list", Value.type "bool", false, rfl, ClsV.ty _, tyx_L (by walk_at "sq"), kt_list_bool, ?_⟩ | refine ⟨_, _, Value.type "tuple", Value.type "bool", false, rfl, ClsV.ty _, tyx_T (by walk_at "sq"), kt_tuple_bool, ?_⟩ | refine ⟨_, _, Value.type "int", Value.type "int", true, rfl, ClsV.ty _, TyX.base (TyOf.int _), kt_int_int, ?_⟩ | refine ⟨_, _, Value.type "bool", Value.type "int", true, rfl, ClsV.ty _, TyX.base (TyOf.bl _), kt_bool_int, ?_⟩ | refine ⟨_, _, Value.type "str", Value.type "int", false, rfl, ClsV.ty _, TyX.base (TyOf.str _), kt_str_int, ?_⟩ | refine ⟨_, _, Value.type "NoneType", Value.type "int", false, rfl, ClsV.ty _, TyX.base TyOf.non, kt_NoneType_int, ?_⟩ | refine ⟨_, _, Value.type "list", Value.type "int", false, rfl, ClsV.ty _, tyx_L (by walk_at "sq"), kt_list_int, ?_⟩ | refine ⟨_, _, Value.type "tuple", Value.type "int", false, rfl, ClsV.ty _, tyx_T (by walk_at "sq"), kt_tuple_int, ?_⟩ | refine ⟨_, _, Value.type "int", Value.type "str", false, rfl, ClsV.ty _, TyX.base (TyOf.int _), kt_int_str, ?_⟩ | refine ⟨_, _, Value.type "bool", Value.type "str", false, rfl, ClsV.ty _, TyX.base (TyOf.bl _), kt_bool_str, ?_⟩ | refine ⟨_, _, Value.type "str", Value.type "str", true, rfl, ClsV.ty _, TyX.base (TyOf.str _), kt_str_str, ?_⟩ | refine ⟨_, _, Value.type "NoneType", Value.type "str", false, rfl, ClsV.ty _, TyX.base TyOf.non, kt_NoneType_str, ?_⟩ | refine ⟨_, _, Value.type "list", Value.type "str", false, rfl, ClsV.ty _, tyx_L (by walk_at "sq"), kt_list_str, ?_⟩ | refine ⟨_, _, Value.type "tuple", Value.type "str", false, rfl, ClsV.ty _, tyx_T (by walk_at "sq"), kt_tuple_str, ?_⟩)
local macro_rules | `(tactic| walk_at "go1") => `(tactic| first
  | (refine ⟨_, rfl, ?_⟩)
  | (refine ⟨_, _, rfl, rfl, ?_⟩)
  | (refine ⟨_, _, _, _, rfl, rfl, SqL.of (by walk_at "hp"), rfl, ?_⟩)
  | (refine Or.inl ⟨_, rfl, ?_⟩)
  | (refine ⟨rfl, ?_⟩)
  | (refine ⟨_, _, rfl, .inl (SqL.of (by walk_at "hp")), ?_⟩)
  | (refine ⟨_, _, rfl, Or.inl (by assumption), ?_⟩)
  | (refine ⟨_, _, rfl, Or.inr (by assumption), ?_⟩)
  | (refine ⟨(by walk_at "ok"), ?_⟩)
  | (refine ⟨_, _, _, _, rfl, rfl, (by walk_at "hp"), rfl, ?_⟩))
local macro_rules | `(tactic| walk_at "go") => `(tactic| repeat (walk_at "go1"))
local macro_rules | `(tactic| walk_at "gt") => `(tactic| repeat (first | walk_at "go1" | walk_at "ty"))

section
variable {P : Program} {w : World} {K : PySem.W.Frag} {mg : Str → Option Value} {base : Heap}
/-! ### _law_same of equal data -/
def spSame (K : PySem.W.Frag) (m : Nat) : Sp := fun vs H Q _ => ∃ (n : Nat) (x y : V), vs = [x, y] ∧ n < m ∧ DEq K H n x y ∧ ∀ H', Same H H' → Q (.bl true) H'
theorem ok_same_step (T : Tx K mg) {m : Nat} (G_l_same : FnOk P w K mg base CX0 m T.f_l_same T.d_l_same ["_law_found", "_law_due"] (spSame K m)) : FnOk P w K mg base CX0 (m + 1) T.f_l_same T.d_l_same ["_law_found", "_law_due"] (spSame K (m + 1)) := by
  refine T.F_l_same.ok sc_l_same (fun vs H Q E h => ?_) (fun cdv A outer s H vs Q E hr h => ?_)
  · obtain ⟨n, x, y, rfl, _⟩ := h
    rfl
  obtain ⟨n, x, y, rfl, hm, hd, q⟩ := h
  have nd := sc_l_same.nd
  refine ⟨_, (pss_cons (ps_if (pt_val (pe_callB (show CallR _ _ (rIsi K) from call_isi) (by rfl) T.z_isinstance (by decide +kernel) (pa_cons (pv 1) (pa_cons (pe_bltn (v := .ty "list") (u := .type "list") (by rfl) T.z_list (by decide +kernel) rfl) pa_nil)))) (pss_one (ps_ret (pe_and (pe_callB (show CallR _ _ (rIsi K) from call_isi) (by rfl) T.z_isinstance (by decide +kernel) (pa_cons (pv 0) (pa_cons (pe_bltn (v := .ty "list") (u := .type "list") (by rfl) T.z_list (by decide +kernel) rfl) pa_nil))) (pe_and (pe_cmpR op_eq (pe_callB (show CallR _ _ (rLenSq K) from call_len_seq) (by rfl) T.z_len (by decide +kernel) (pa_cons (pv 0) pa_nil)) (pe_callB (show CallR _ _ (rLenSq K) from call_len_seq) (by rfl) T.z_len (by decide +kernel) (pa_cons (pv 1) pa_nil)) (nomark _)) (pe_one (pe_callB (show CallR _ _ (rAll K) from cr_all rfl) (by rfl) T.z_all (by decide +kernel) (pa_cons (pe_lc (own := [("_law_x", 2), ("_law_y", 3)]) (g := (gTup K 2 (gCons (gName 2) (gCons (gName 3) gNil)))) rfl nd (show PI _ _ _ (RZ.iZipA K _) from RZ.pi_zipA (by rfl) T.z_zip (pa_cons (pv 0) (pa_cons (pv 1) pa_nil))) (blkOk_by (own := [("_law_x", 2), ("_law_y", 3)]) (N := N_l_same) (sc := defScope s_l_same) (by decide +kernel)) (fun _ _ _ _ _ => by exact (pg_tup rfl (pgs_cons (pg_name (i := 2) nd rfl (Or.inl rfl)) (pgs_cons (pg_name (i := 3) nd rfl (Or.inl rfl)) pgs_nil)))) (fun _ _ _ _ _ => by exact pts_nil) (fun _ _ _ _ _ => by exact (pe_call G_l_same hr (by rfl) T.m_l_same T.F_l_same.kp T.b_l_same .nil pass0 (pa_cons (pv 2) (pa_cons (pv 3) pa_nil))))) pa_nil))))))) pss_nil)
    (pss_cons (ps_if (pt_val (pe_callB (show CallR _ _ (rIsi K) from call_isi) (by rfl) T.z_isinstance (by decide +kernel) (pa_cons (pv 1) (pa_cons (pe_bltn (v := .ty "tuple") (u := .type "tuple") (by rfl) T.z_tuple (by decide +kernel) rfl) pa_nil)))) (pss_one (ps_ret (pe_and (pe_callB (show CallR _ _ (rIsi K) from call_isi) (by rfl) T.z_isinstance (by decide +kernel) (pa_cons (pv 0) (pa_cons (pe_bltn (v := .ty "tuple") (u := .type "tuple") (by rfl) T.z_tuple (by decide +kernel) rfl) pa_nil))) (pe_and (pe_cmpR op_eq (pe_callB (show CallR _ _ (rLenSq K) from call_len_seq) (by rfl) T.z_len (by decide +kernel) (pa_cons (pv 0) pa_nil)) (pe_callB (show CallR _ _ (rLenSq K) from call_len_seq) (by rfl) T.z_len (by decide +kernel) (pa_cons (pv 1) pa_nil)) (nomark _)) (pe_one (pe_callB (show CallR _ _ (rAll K) from cr_all rfl) (by rfl) T.z_all (by decide +kernel) (pa_cons (pe_lc (own := [("_law_x", 2), ("_law_y", 3)]) (g := (gTup K 2 (gCons (gName 2) (gCons (gName 3) gNil)))) rfl nd (show PI _ _ _ (RZ.iZipA K _) from RZ.pi_zipA (by rfl) T.z_zip (pa_cons (pv 0) (pa_cons (pv 1) pa_nil))) (blkOk_by (own := [("_law_x", 2), ("_law_y", 3)]) (N := N_l_same) (sc := defScope s_l_same) (by decide +kernel)) (fun _ _ _ _ _ => by exact (pg_tup rfl (pgs_cons (pg_name (i := 2) nd rfl (Or.inl rfl)) (pgs_cons (pg_name (i := 3) nd rfl (Or.inl rfl)) pgs_nil)))) (fun _ _ _ _ _ => by exact pts_nil) (fun _ _ _ _ _ => by exact (pe_call G_l_same hr (by rfl) T.m_l_same T.F_l_same.kp T.b_l_same .nil pass0 (pa_cons (pv 2) (pa_cons (pv 3) pa_nil))))) pa_nil))))))) pss_nil)
    (pss_cons (ps_if (PW.pt (pw_or (pt_cmpR op_isN (pv 1) pe_non (nomark _)) (pw_or1 (pt_cmpR op_isN (pv 0) pe_non (nomark _))))) (pss_one (ps_ret (pe_and (pe_cmpR op_isN (pv 1) pe_non (nomark _)) (pe_one (pe_cmpR op_isN (pv 0) pe_non (nomark _)))))) pss_nil)
    (pss_cons (ps_if (PW.pt (pw_or (pt_val (pe_callB (show CallR _ _ (rIsi K) from call_isi) (by rfl) T.z_isinstance (by decide +kernel) (pa_cons (pv 1) (pa_cons (pe_bltn (v := .ty "bool") (u := .type "bool") (by rfl) T.z_bool (by decide +kernel) rfl) pa_nil)))) (pw_or1 (pt_val (pe_callB (show CallR _ _ (rIsi K) from call_isi) (by rfl) T.z_isinstance (by decide +kernel) (pa_cons (pv 0) (pa_cons (pe_bltn (v := .ty "bool") (u := .type "bool") (by rfl) T.z_bool (by decide +kernel) rfl) pa_nil))))))) (pss_one (ps_ret (pe_and (pe_callB (show CallR _ _ (rIsi K) from call_isi) (by rfl) T.z_isinstance (by decide +kernel) (pa_cons (pv 1) (pa_cons (pe_bltn (v := .ty "bool") (u := .type "bool") (by rfl) T.z_bool (by decide +kernel) rfl) pa_nil))) (pe_and (pe_callB (show CallR _ _ (rIsi K) from call_isi) (by rfl) T.z_isinstance (by decide +kernel) (pa_cons (pv 0) (pa_cons (pe_bltn (v := .ty "bool") (u := .type "bool") (by rfl) T.z_bool (by decide +kernel) rfl) pa_nil))) (pe_one (pe_cmpR op_eq (pv 0) (pv 1) (nomark _))))))) pss_nil)
    (pss_cons (ps_if (pt_val (pe_callB (show CallR _ _ (rIsi K) from call_isi) (by rfl) T.z_isinstance (by decide +kernel) (pa_cons (pv 1) (pa_cons (pe_bltn (v := .ty "int") (u := .type "int") (by rfl) T.z_int (by decide +kernel) rfl) pa_nil)))) (pss_one (ps_ret (pe_and (pe_callB (show CallR _ _ (rIsi K) from call_isi) (by rfl) T.z_isinstance (by decide +kernel) (pa_cons (pv 0) (pa_cons (pe_bltn (v := .ty "int") (u := .type "int") (by rfl) T.z_int (by decide +kernel) rfl) pa_nil))) (pe_one (pe_cmpR op_eq (pv 0) (pv 1) (nomark _)))))) pss_nil)
    (pss_cons (ps_if (pt_val (pe_callB (show CallR _ _ (rIsi K) from call_isi) (by rfl) T.z_isinstance (by decide +kernel) (pa_cons (pv 1) (pa_cons (pe_bltn (v := .ty "str") (u := .type "str") (by rfl) T.z_str (by decide +kernel) rfl) pa_nil)))) (pss_one (ps_ret (pe_and (pe_callB (show CallR _ _ (rIsi K) from call_isi) (by rfl) T.z_isinstance (by decide +kernel) (pa_cons (pv 0) (pa_cons (pe_bltn (v := .ty "str") (u := .type "str") (by rfl) T.z_str (by decide +kernel) rfl) pa_nil))) (pe_one (pe_cmpR op_eq (pv 0) (pv 1) (nomark _)))))) pss_nil)
    (pss_one (ps_ret (pe_and (pe_not (pe_callB (show CallR _ _ (rIsiT K) from call_isiT) (by rfl) T.z_isinstance (by decide +kernel) (pa_cons (pv 0) (pa_cons (pe_tup (pa_cons (pe_bltn (v := .ty "int") (u := .type "int") (by rfl) T.z_int (by decide +kernel) rfl) (pa_cons (pe_bltn (v := .ty "str") (u := .type "str") (by rfl) T.z_str (by decide +kernel) rfl) (pa_cons (pe_bltn (v := .ty "list") (u := .type "list") (by rfl) T.z_list (by decide +kernel) rfl) (pa_cons (pe_bltn (v := .ty "tuple") (u := .type "tuple") (by rfl) T.z_tuple (by decide +kernel) rfl) pa_nil))))) pa_nil)))) (pe_one (pe_cmpR op_eq (pv 0) (pv 1) (nomark _)))))))))))), ?_⟩
  cases hd with
  | int i =>
    walk_at "gt"
    rw [decide_eq_true rfl]
    exact q H (Same.refl H)
  | bl b =>
    walk_at "gt"
    rw [decide_eq_true rfl]
    exact q H (Same.refl H)
  | str x =>
    walk_at "gt"
    rw [decide_eq_true rfl]
    exact q H (Same.refl H)
  | non =>
    walk_at "gt"
    rw [decide_eq_true rfl]
    exact q H (Same.refl H)
  | @lst n a b xs ys h1 h2 hlen hl he =>
    walk_at "gt"
    refine ite_dec (by rw [hl]) ?_
    refine ⟨_, rfl, _, rfl, a, b, xs, ys, rfl, .inl ⟨h1, h2, fun D hD => ?_⟩⟩
    refine lcm (walk_zip (n := xs.length) (by omega)) (List.replicate xs.length (V.bl true)) (by simp) hlen hD (fun H' s => ⟨s.seq h1, s.seq h2⟩) ?_ ?_
    · rintro i y x H1 H2 hi hy s1 ⟨Tp, u, z, rfl, hT, rfl, hu, hz⟩ k hk
      obtain rfl := rep_get hy
      have s2 : Same H1 (upd H1 Tp (.tup [u, z])) := Same.new hT
      refine ⟨Tp, [u, z], rfl, SqT.of upd_same, rfl, u, [z], rfl, z, [], rfl, rfl, rfl, ?_⟩
      exact ⟨_, rfl, _, rfl, n, u, z, rfl, by omega, (he i u z hu hz).same (s1.trans s2), fun H4 s4 => hk H4 (s2.trans s4)⟩
    · intro H' s1 hD'
      refine ⟨D, List.replicate xs.length true, rfl, SqL.of (by rw [hD', List.map_replicate]), ?_⟩
      rw [all_rep]
      exact q H' s1
  | @tup n a b xs ys h1 h2 hlen hl he =>
    walk_at "gt"
    refine ite_dec (by rw [hl]) ?_
    refine ⟨_, rfl, _, rfl, a, b, xs, ys, rfl, .inr ⟨h1, h2, fun D hD => ?_⟩⟩
    refine lcm (walk_zipT (n := xs.length) (by omega)) (List.replicate xs.length (V.bl true)) (by simp) hlen hD (fun H' s => ⟨seqT s h1, seqT s h2⟩) ?_ ?_
    · rintro i y x H1 H2 hi hy s1 ⟨Tp, u, z, rfl, hT, rfl, hu, hz⟩ k hk
      obtain rfl := rep_get hy
      have s2 : Same H1 (upd H1 Tp (.tup [u, z])) := Same.new hT
      refine ⟨Tp, [u, z], rfl, SqT.of upd_same, rfl, u, [z], rfl, z, [], rfl, rfl, rfl, ?_⟩
      exact ⟨_, rfl, _, rfl, n, u, z, rfl, by omega, (he i u z hu hz).same (s1.trans s2), fun H4 s4 => hk H4 (s2.trans s4)⟩
    · intro H' s1 hD'
      refine ⟨D, List.replicate xs.length true, rfl, SqL.of (by rw [hD', List.map_replicate]), ?_⟩
      rw [all_rep]
      exact q H' s1
theorem ok_same (T : Tx K mg) : ∀ m : Nat, FnOk P w K mg base CX0 m T.f_l_same T.d_l_same ["_law_found", "_law_due"] (spSame K m)
  | 0 => by
    have no : ∀ vs H Q E, ¬ spSame K 0 vs H Q E := fun vs H Q E h => by
      obtain ⟨n, x, y, _, h1, _⟩ := h
      omega
    exact ⟨fun vs H Q E h => absurd h (no vs H Q E), fun A outer s H args us vs Q E _ _ _ _ h => absurd h (no vs H Q E)⟩
  | m + 1 => ok_same_step T (ok_same T m)
end
end TL
namespace TL.W
open TL
open PySem L2

/-! ### steps of a reading -/
local macro_rules | `(tactic| walk_at "hp") => `(tactic| first | assumption | exact upd_same | (refine (upd_ne (by first | assumption | (exact Ne.symm (by assumption)))).trans ?_; walk_at "hp"))
local macro_rules | `(tactic| walk_at "ok") => `(tactic| first | (exact Or.inr ⟨by decide, by decide⟩) | (exact ⟨by decide, by decide⟩) | (exact ⟨by decide, by decide, by decide⟩) | (show _ ≠ _; omega) | (show _ ≠ _; decide) | (exact Or.inl ⟨by omega, by omega⟩) | decide)
local macro_rules | `(tactic| walk_at "sq") => `(tactic| first | assumption | exact SqL.of (by walk_at "hp") | exact SqT.of (by walk_at "hp"))
local macro_rules | `(tactic| walk_at "ty") => `(tactic| first | refine ⟨_, _, Value.type "int", Value.type "list", false, rfl, ClsV.ty _, TyX.base (TyOf.int _), kt_int_list, ?_⟩ | refine ⟨_, _, Value.type "bool", Value.type "list", false, rfl, ClsV.ty _, TyX.base (TyOf.bl _), kt_bool_list, ?_⟩ | refine ⟨_, _, Value.type "str", Value.type "list", false, rfl, ClsV.ty _, TyX.base (TyOf.str _), kt_str_list, ?_⟩ | refine ⟨_, _, Value.type "NoneType", Value.type "list", false, rfl, ClsV.ty _, TyX.base TyOf.non, kt_NoneType_list, ?_⟩ | refine ⟨_, _, Value.type "list", Value.type "list", true, rfl, ClsV.ty _, tyx_L (by walk_at "sq"), kt_list_list, ?_⟩ | refine ⟨_, _, Value.type "tuple", Value.type "list", false, rfl, ClsV.ty _, tyx_T (by walk_at "sq"), kt_tuple_list, ?_⟩ | refine ⟨_, _, Value.type "int", Value.type "tuple", false, rfl, ClsV.ty _, TyX.base (TyOf.int _), kt_int_tuple, ?_⟩ | refine ⟨_, _, Value.type "bool", Value.type "tuple", false, rfl, ClsV.ty _, TyX.base (TyOf.bl _), kt_bool_tuple, ?_⟩ | refine ⟨_, _, Value.type "str", Value.type "tuple", false, rfl, ClsV.ty _, TyX.base (TyOf.str _), kt_str_tuple, ?_⟩ | refine ⟨_, _, Value.type "NoneType", Value.type "tuple", false, rfl, ClsV.ty _, TyX.base TyOf.non, kt_NoneType_tuple, ?_⟩ | refine ⟨_, _, Value.type "list", Value.type "tuple", false, rfl, ClsV.ty _, tyx_L (by walk_at "sq"), kt_list_tuple, ?_⟩ | refine ⟨_, _, Value.type "tuple", Value.type "tuple", true, rfl, ClsV.ty _, tyx_T (by walk_at "sq"), kt_tuple_tuple, ?_⟩ | refine ⟨_, _, Value.type "int", Value.type "bool", false, rfl, ClsV.ty _, TyX.base (TyOf.int _), kt_int_bool, ?_⟩ | refine ⟨_, _, Value.type "bool", Value.type "bool", true, rfl, ClsV.ty _, TyX.base (TyOf.bl _), kt_bool_bool, ?_⟩ | refine ⟨_, _, Value.type "str", Value.type "bool", false, rfl, ClsV.ty _, TyX.base (TyOf.str _), kt_str_bool, ?_⟩ | refine ⟨_, _, Value.type "NoneType", Value.type "bool", false, rfl, ClsV.ty _, TyX.base TyOf.non, kt_NoneType_bool, ?_⟩ | refine ⟨_, _, Value.type "list", Value.type "bool", false, rfl, ClsV.ty _, tyx_L (by walk_at "sq"), kt_list_bool, ?_⟩ | refine ⟨_, _, Value.type "tuple", Value.type "bool", false, rfl, ClsV.ty _, tyx_T (by walk_at "sq"), kt_tuple_bool, ?_⟩ | refine ⟨_, _, Value.type "int", Value.type "int", true, rfl, ClsV.ty _, TyX.base (TyOf.int _), kt_int_int, ?_⟩ | refine ⟨_, _, Value.type "bool", Value.type "int", true, rfl, ClsV.ty _, TyX.base (TyOf.bl _), kt_bool_int, ?_⟩ | refine ⟨_, _, Value.type "str", Value.type "int", false, rfl, ClsV.ty _, TyX.base (TyOf.str _), kt_str_int, ?_⟩ | refine ⟨_, _, Value.type "NoneType", Value.type "int", false, rfl, ClsV.ty _, TyX.base TyOf.non, kt_NoneType_int, ?_⟩ | refine ⟨_, _, Value.type "list", Value.type "int", false, rfl, ClsV.ty _, tyx_L (by walk_at "sq"), kt_list_int, ?_⟩ | refine ⟨_, _, Value.type "tuple", Value.type "int", false, rfl, ClsV.ty _, tyx_T (by walk_at "sq"), kt_tuple_int, ?_⟩ | refine ⟨_, _, Value.type "int", Value.type "str", false, rfl, ClsV.ty _, TyX.base (TyOf.int _), kt_int_str, ?_⟩ | refine ⟨_, _, Value.type "bool", Value.type "str", false, rfl, ClsV.ty _, TyX.base (TyOf.bl _), kt_bool_str, ?_⟩ | refine ⟨_, _, Value.type "str", Value.type "str", true, rfl, ClsV.ty _, TyX.base (TyOf.str _), kt_str_str, ?_⟩ | refine ⟨_, _, Value.type "NoneType", Value.type "str", false, rfl, ClsV.ty _, TyX.base TyOf.non, kt_NoneType_str, ?_⟩ | refine ⟨_, _, Value.type "list", Value.type "str", false, rfl, ClsV.ty _, tyx_L (by walk_at "sq"), kt_list_str, ?_⟩ | refine ⟨_, _, Value.type "tuple", Value.type "str", false, rfl, ClsV.ty _, tyx_T (by walk_at "sq"), kt_tuple_str, ?_⟩)
local macro_rules | `(tactic| walk_at "go1") => `(tactic| first
  | (refine ⟨_, rfl, ?_⟩)
  | (refine ⟨_, _, rfl, rfl, ?_⟩)
  | (refine ⟨_, _, _, _, rfl, rfl, SqL.of (by walk_at "hp"), rfl, ?_⟩)
  | (refine Or.inl ⟨_, rfl, ?_⟩)
  | (refine ⟨rfl, ?_⟩)
  | (refine ⟨_, _, rfl, .inl (SqL.of (by walk_at "hp")), ?_⟩)
  | (refine ⟨_, _, rfl, Or.inl (by assumption), ?_⟩)
  | (refine ⟨_, _, rfl, Or.inr (by assumption), ?_⟩)
  | (refine ⟨(by walk_at "ok"), ?_⟩)
  | (refine ⟨_, _, _, _, rfl, rfl, (by walk_at "hp"), rfl, ?_⟩))
local macro_rules | `(tactic| walk_at "go") => `(tactic| repeat (walk_at "go1"))
local macro_rules | `(tactic| walk_at "gt") => `(tactic| repeat (first | walk_at "go1" | walk_at "ty"))

section
variable {P : Program} {w : World} {K : PySem.W.Frag} {mg : Str → Option Value} {base : Heap}
def spIsNum : Sp := fun vs H Q _ => ∃ n, vs = [.int n] ∧ Q (.bl true) H
theorem ok_is_number (T : Tx K mg) : FnOk P w K mg base CX0 1 T.f_is_number T.d_is_number ["value"] spIsNum := by
  refine T.F_is_number.ok sc_is_number (fun vs H Q E h => ?_) (fun cdv A outer s H vs Q E hr h => ?_)
  · obtain ⟨n, rfl, _⟩ := h
    rfl
  obtain ⟨n, rfl, q⟩ := h
  refine ⟨_, (pss_one (ps_ret (pe_and (pe_callB (show CallR _ _ (rIsi K) from call_isi) (by rfl) T.z_isinstance (by decide +kernel) (pa_cons (pv 0) (pa_cons (pe_bltn (v := .ty "int") (u := .type "int") (by rfl) T.z_int (by decide +kernel) rfl) pa_nil))) (pe_one (pe_not (pe_callB (show CallR _ _ (rIsi K) from call_isi) (by rfl) T.z_isinstance (by decide +kernel) (pa_cons (pv 0) (pa_cons (pe_bltn (v := .ty "bool") (u := .type "bool") (by rfl) T.z_bool (by decide +kernel) rfl) pa_nil)))))))), ?_⟩
  walk_at "gt"
  exact q
def spIsListed (K : PySem.W.Frag) : Sp := fun vs H Q _ => ∃ a xs, vs = [.ref a] ∧ Sq K H a xs ∧ ∀ H', Same H H' → Q (.bl true) H'
theorem kit_l : PySem.W.kitAny K (.type "list") [.type "list", .type "tuple"] = some true := kitAny_cons kt_list_list (fun z => nomatch z) (fun _ => rfl)
theorem kit_t : PySem.W.kitAny K (.type "tuple") [.type "list", .type "tuple"] = some true := kitAny_cons kt_tuple_list (fun _ => kitAny_cons kt_tuple_tuple (fun z => nomatch z) (fun _ => rfl)) (fun _ => rfl)
theorem ok_is_listed (T : Tx K mg) : FnOk P w K mg base CX0 1 T.f_is_listed T.d_is_listed ["value"] (spIsListed K) := by
  refine T.F_is_listed.ok sc_is_listed (fun vs H Q E h => ?_) (fun cdv A outer s H vs Q E hr h => ?_)
  · obtain ⟨a, xs, rfl, _⟩ := h
    rfl
  obtain ⟨a, xs, rfl, hS, q⟩ := h
  refine ⟨_, (pss_one (ps_ret (pe_callB (show CallR _ _ (rIsiT K) from call_isiT) (by rfl) T.z_isinstance (by decide +kernel) (pa_cons (pv 0) (pa_cons (pe_tup (pa_cons (pe_bltn (v := .ty "list") (u := .type "list") (by rfl) T.z_list (by decide +kernel) rfl) (pa_cons (pe_bltn (v := .ty "tuple") (u := .type "tuple") (by rfl) T.z_tuple (by decide +kernel) rfl) pa_nil))) pa_nil))))), ?_⟩
  refine ⟨_, rfl, (by show 2 ≤ sizeLine; decide), fun p hp => ?_⟩
  have s1 : Same H (upd H p (.tup [.ty "list", .ty "tuple"])) := Same.new hp
  rcases hS with h | h
  · exact ⟨_, p, _, .type "list", [.type "list", .type "tuple"], true, rfl, upd_same, .cons (.ty _) (.cons (.ty _) .nil), tyx_L (s1.seq h), kit_l, q _ s1⟩
  · exact ⟨_, p, _, .type "tuple", [.type "list", .type "tuple"], true, rfl, upd_same, .cons (.ty _) (.cons (.ty _) .nil), tyx_T (seqT s1 h), kit_t, q _ s1⟩
def spAreNums (K : PySem.W.Frag) : Sp := fun vs H Q _ => ∃ (a : Addr) (ns : List Int), vs = [.ref a, .int (ns.length : Int)] ∧ Sq K H a (ns.map V.int) ∧ ns.length ≤ 1000 ∧ ∀ H', Same H H' → Q (.bl true) H'
theorem len_map {ns : List Int} : (ns.map V.int).length = ns.length := List.length_map _
theorem ok_are_numbers (T : Tx K mg) : FnOk P w K mg base CX0 2 T.f_are_numbers T.d_are_numbers ["value", "many"] (spAreNums K) := by
  have G_is_number := ok_is_number (P := P) (w := w) (base := base) T
  have G_is_listed := ok_is_listed (P := P) (w := w) (base := base) T
  refine T.F_are_numbers.ok sc_are_numbers (fun vs H Q E h => ?_) (fun cdv A outer s H vs Q E hr h => ?_)
  · obtain ⟨a, ns, rfl, _⟩ := h
    rfl
  obtain ⟨a, ns, rfl, hS, hz, q⟩ := h
  have nd := sc_are_numbers.nd
  rcases hS with hS | hS
  · refine ⟨_, (pss_cons (ps_if (PW.pt (pw_or (pt_not (pt_val (pe_call G_is_listed hr (by rfl) T.m_is_listed T.F_is_listed.kp T.b_is_listed .nil pass0 (pa_cons (pv 0) pa_nil)))) (pw_or1 (pt_cmpR op_ne (pe_callB (show CallR _ _ (rLenSq K) from call_len_seq) (by rfl) T.z_len (by decide +kernel) (pa_cons (pv 0) pa_nil)) (pv 1) (nomark _))))) (pss_one (ps_ret pe_bl)) pss_nil)
    (pss_one (ps_ret (pe_callB (show CallR _ _ (rAll K) from cr_all rfl) (by rfl) T.z_all (by decide +kernel) (pa_cons (pe_lc (own := [("item", 2)]) (g := (gName 2)) rfl nd (show PI _ _ _ (iList K _) from pi_list (pv 0)) (blkOk_by (own := [("item", 2)]) (N := N_are_numbers) (sc := defScope s_are_numbers) (by decide +kernel)) (fun _ _ _ _ _ => by exact (pg_name (i := 2) nd rfl (Or.inl rfl))) (fun _ _ _ _ _ => by exact pts_nil) (fun _ _ _ _ _ => by exact (pe_call G_is_number hr (by rfl) T.m_is_number T.F_is_number.kp T.b_is_number .nil pass0 (pa_cons (pv 2) pa_nil)))) pa_nil))))), ?_⟩
    refine ⟨_, rfl, a, _, rfl, .inl hS, fun H1 s1 => ?_⟩
    have hS1 := s1.seq hS
    walk_at "go"
    rw [len_map]
    walk_at "go"
    refine iteNS rfl ?_
    refine ⟨_, rfl, a, rfl, ⟨_, hS1⟩, fun D hD => ?_⟩
    refine lcm (walk_list (K := K) (a := a) (xs := ns.map V.int)) (List.replicate ns.length (V.bl true)) (by simp) (by rw [len_map]; omega) hD (fun H' s => s.seq hS1) ?_ ?_
    · rintro i y x H2 H3 hi hy s2 ⟨rfl, hx⟩ k hk
      obtain rfl := rep_get hy
      obtain ⟨n, hn, rfl⟩ := List.getElem?_map .. ▸ hx |> Option.map_eq_some_iff.mp
      exact ⟨rfl, _, rfl, n, rfl, hk _ (Same.refl _)⟩
    · intro H' s2 hD'
      refine ⟨D, List.replicate ns.length true, rfl, SqL.of (by rw [hD', List.map_replicate]), ?_⟩
      rw [all_rep]
      exact q H' (s1.trans s2)
  · refine ⟨_, (pss_cons (ps_if (PW.pt (pw_or (pt_not (pt_val (pe_call G_is_listed hr (by rfl) T.m_is_listed T.F_is_listed.kp T.b_is_listed .nil pass0 (pa_cons (pv 0) pa_nil)))) (pw_or1 (pt_cmpR op_ne (pe_callB (show CallR _ _ (rLenSq K) from call_len_seq) (by rfl) T.z_len (by decide +kernel) (pa_cons (pv 0) pa_nil)) (pv 1) (nomark _))))) (pss_one (ps_ret pe_bl)) pss_nil)
    (pss_one (ps_ret (pe_callB (show CallR _ _ (rAll K) from cr_all rfl) (by rfl) T.z_all (by decide +kernel) (pa_cons (pe_lc (own := [("item", 2)]) (g := (gName 2)) rfl nd (show PI _ _ _ (iTup K _) from pi_tup (pv 0)) (blkOk_by (own := [("item", 2)]) (N := N_are_numbers) (sc := defScope s_are_numbers) (by decide +kernel)) (fun _ _ _ _ _ => by exact (pg_name (i := 2) nd rfl (Or.inl rfl))) (fun _ _ _ _ _ => by exact pts_nil) (fun _ _ _ _ _ => by exact (pe_call G_is_number hr (by rfl) T.m_is_number T.F_is_number.kp T.b_is_number .nil pass0 (pa_cons (pv 2) pa_nil)))) pa_nil))))), ?_⟩
    refine ⟨_, rfl, a, _, rfl, .inr hS, fun H1 s1 => ?_⟩
    have hS1 := seqT s1 hS
    walk_at "go"
    rw [len_map]
    walk_at "go"
    refine iteNS rfl ?_
    refine ⟨_, rfl, a, rfl, ⟨_, hS1⟩, fun D hD => ?_⟩
    refine lcm (walk_tup (K := K) (a := a) (xs := ns.map V.int)) (List.replicate ns.length (V.bl true)) (by simp) (by rw [len_map]; omega) hD (fun H' s => seqT s hS1) ?_ ?_
    · rintro i y x H2 H3 hi hy s2 ⟨rfl, hx⟩ k hk
      obtain rfl := rep_get hy
      obtain ⟨n, hn, rfl⟩ := List.getElem?_map .. ▸ hx |> Option.map_eq_some_iff.mp
      exact ⟨rfl, _, rfl, n, rfl, hk _ (Same.refl _)⟩
    · intro H' s2 hD'
      refine ⟨D, List.replicate ns.length true, rfl, SqL.of (by rw [hD', List.map_replicate]), ?_⟩
      rw [all_rep]
      exact q H' (s1.trans s2)
def Bit (b : Int) : Prop := b = 0 ∨ b = 1
def spAreBits (K : PySem.W.Frag) : Sp := fun vs H Q _ => ∃ (a : Addr) (ns : List Int), vs = [.ref a, .int (ns.length : Int)] ∧ Sq K H a (ns.map V.int) ∧ ns.length ≤ 1000 ∧ (∀ b ∈ ns, Bit b) ∧ ∀ H', Same H H' → Q (.bl true) H'
theorem int_at {ns : List Int} {i : Nat} {x : V} (h : (ns.map V.int)[i]? = some x) : ∃ n, ns[i]? = some n ∧ x = .int n := by
  rw [List.getElem?_map] at h
  obtain ⟨n, h1, h2⟩ := Option.map_eq_some_iff.mp h
  exact ⟨n, h1, h2.symm⟩
theorem in01 {b : Int} (h : Bit b) : inV (.int b) [.int 0, .int 1] = true := by
  rcases h with rfl | rfl <;> decide
theorem ok_are_bits (T : Tx K mg) : FnOk P w K mg base CX0 3 T.f_are_bits T.d_are_bits ["value", "many"] (spAreBits K) := by
  have G_are_numbers := ok_are_numbers (P := P) (w := w) (base := base) T
  refine T.F_are_bits.ok sc_are_bits (fun vs H Q E h => ?_) (fun cdv A outer s H vs Q E hr h => ?_)
  · obtain ⟨a, ns, rfl, _⟩ := h
    rfl
  obtain ⟨a, ns, rfl, hS, hz, hb, q⟩ := h
  have nd := sc_are_bits.nd
  rcases hS with hS | hS
  · refine ⟨_, (pss_one (ps_ret (pe_and (pe_call G_are_numbers hr (by rfl) T.m_are_numbers T.F_are_numbers.kp T.b_are_numbers .nil pass0 (pa_cons (pv 0) (pa_cons (pv 1) pa_nil))) (pe_one (pe_callB (show CallR _ _ (rAll K) from cr_all rfl) (by rfl) T.z_all (by decide +kernel) (pa_cons (pe_lc (own := [("item", 2)]) (g := (gName 2)) rfl nd (show PI _ _ _ (iList K _) from pi_list (pv 0)) (blkOk_by (own := [("item", 2)]) (N := N_are_bits) (sc := defScope s_are_bits) (by decide +kernel)) (fun _ _ _ _ _ => by exact (pg_name (i := 2) nd rfl (Or.inl rfl))) (fun _ _ _ _ _ => by exact pts_nil) (fun _ _ _ _ _ => by exact (pe_cmpR (show OpR _ _ (rIn K false) from op_in_seq) (pv 2) (pe_tup (pa_cons pe_int (pa_cons pe_int pa_nil))) rfl))) pa_nil)))))), ?_⟩
    refine ⟨_, rfl, _, rfl, a, ns, rfl, .inl hS, hz, fun H1 s1 => ?_⟩
    have hS1 := s1.seq hS
    walk_at "go"
    refine ⟨⟨_, hS1⟩, fun D hD => ?_⟩
    refine lcm (walk_list (K := K) (a := a) (xs := ns.map V.int)) (List.replicate ns.length (V.bl true)) (by simp) (by rw [len_map]; omega) hD (fun H' s => s.seq hS1) ?_ ?_
    · rintro i y x H2 H3 hi hy s2 ⟨rfl, hx⟩ k hk
      obtain rfl := rep_get hy
      obtain ⟨n, hn, rfl⟩ := int_at hx
      refine ⟨rfl, _, rfl, (by show 2 ≤ sizeLine; decide), fun p hp => ?_⟩
      refine ⟨p, _, rfl, .inr (SqT.of upd_same), rfl, rfl, ?_⟩
      show k (.bl (inV (.int n) [.int 0, .int 1])) _
      rw [in01 (hb n (List.mem_of_getElem? hn))]
      exact hk _ (Same.new hp)
    · intro H' s2 hD'
      refine ⟨D, List.replicate ns.length true, rfl, SqL.of (by rw [hD', List.map_replicate]), ?_⟩
      rw [all_rep]
      exact q H' (s1.trans s2)
  · refine ⟨_, (pss_one (ps_ret (pe_and (pe_call G_are_numbers hr (by rfl) T.m_are_numbers T.F_are_numbers.kp T.b_are_numbers .nil pass0 (pa_cons (pv 0) (pa_cons (pv 1) pa_nil))) (pe_one (pe_callB (show CallR _ _ (rAll K) from cr_all rfl) (by rfl) T.z_all (by decide +kernel) (pa_cons (pe_lc (own := [("item", 2)]) (g := (gName 2)) rfl nd (show PI _ _ _ (iTup K _) from pi_tup (pv 0)) (blkOk_by (own := [("item", 2)]) (N := N_are_bits) (sc := defScope s_are_bits) (by decide +kernel)) (fun _ _ _ _ _ => by exact (pg_name (i := 2) nd rfl (Or.inl rfl))) (fun _ _ _ _ _ => by exact pts_nil) (fun _ _ _ _ _ => by exact (pe_cmpR (show OpR _ _ (rIn K false) from op_in_seq) (pv 2) (pe_tup (pa_cons pe_int (pa_cons pe_int pa_nil))) rfl))) pa_nil)))))), ?_⟩
    refine ⟨_, rfl, _, rfl, a, ns, rfl, .inr hS, hz, fun H1 s1 => ?_⟩
    have hS1 := seqT s1 hS
    walk_at "go"
    refine ⟨⟨_, hS1⟩, fun D hD => ?_⟩
    refine lcm (walk_tup (K := K) (a := a) (xs := ns.map V.int)) (List.replicate ns.length (V.bl true)) (by simp) (by rw [len_map]; omega) hD (fun H' s => seqT s hS1) ?_ ?_
    · rintro i y x H2 H3 hi hy s2 ⟨rfl, hx⟩ k hk
      obtain rfl := rep_get hy
      obtain ⟨n, hn, rfl⟩ := int_at hx
      refine ⟨rfl, _, rfl, (by show 2 ≤ sizeLine; decide), fun p hp => ?_⟩
      refine ⟨p, _, rfl, .inr (SqT.of upd_same), rfl, rfl, ?_⟩
      show k (.bl (inV (.int n) [.int 0, .int 1])) _
      rw [in01 (hb n (List.mem_of_getElem? hn))]
      exact hk _ (Same.new hp)
    · intro H' s2 hD'
      refine ⟨D, List.replicate ns.length true, rfl, SqL.of (by rw [hD', List.map_replicate]), ?_⟩
      rw [all_rep]
      exact q H' (s1.trans s2)
/-! ### wedges -/
abbrev W2 := List Int × List Int
structure WOk (w : W2) : Prop where
  l1 : w.1.length = 15
  l2 : w.2.length = 6
  bit : ∀ b ∈ w.2, Bit b
def wf (t1 t2 : Addr) : List (Str × V) := [("_pairs", .ref t1), ("_bits", .ref t2)]
structure WAt (K : PySem.W.Frag) (C : Addr) (H : Hp) (p : Addr) (w : W2) : Prop where
  ex : ∃ dx t1 t2, H p = some (.ins C dx (wf t1 t2)) ∧ SqT K H t1 (w.1.map V.int) ∧ SqT K H t2 (w.2.map V.int)
  ok : WOk w
theorem WAt.same {C : Addr} {H H' : Hp} {p : Addr} {w : W2} (h : WAt K C H p w) (s : Same H H') : WAt K C H' p w := by
  obtain ⟨dx, t1, t2, h1, h2, h3⟩ := h.ex
  exact ⟨⟨dx, t1, t2, s _ _ h1, seqT s h2, seqT s h3⟩, h.ok⟩
theorem npb : ¬ (("_pairs" : Str) = "_bits") := by decide +kernel
theorem wf_put (t1 t2 : Addr) : putF "_bits" (V.ref t2) (putF "_pairs" (V.ref t1) []) = wf t1 t2 := by
  show (if ("_pairs" : Str) = "_bits" then [(("_pairs" : Str), V.ref t2)] else (("_pairs" : Str), V.ref t1) :: putF "_bits" (V.ref t2) []) = _
  rw [if_neg npb]
  rfl
theorem wf_p (t1 t2 : Addr) : (wf t1 t2).lookup ("_pairs" : Str) = some (.ref t1) := by simp [wf, List.lookup]
theorem wf_b (t1 t2 : Addr) : (wf t1 t2).lookup ("_bits" : Str) = some (.ref t2) := by
  have : (("_bits" : Str) == "_pairs") = false := by decide +kernel
  simp [wf, List.lookup, this]
theorem wf_no (t1 t2 : Addr) {m : Str} (h1 : ¬ m = "_pairs") (h2 : ¬ m = "_bits") : (wf t1 t2).lookup m = none := by
  have e1 : (m == ("_pairs" : Str)) = false := by simpa using h1
  have e2 : (m == ("_bits" : Str)) = false := by simpa using h2
  simp [wf, List.lookup, e1, e2]
def spInit (K : PySem.W.Frag) (C : Addr) : Sp := fun vs H Q _ => ∃ (p dx a b : Addr) (w : W2), vs = [.ref p, .ref a, .ref b] ∧ H p = some (.ins C dx []) ∧ Sq K H a (w.1.map V.int) ∧ Sq K H b (w.2.map V.int) ∧ WOk w ∧
  ∀ H', WAt K C H' p w → (∀ c o, H c = some o → c ≠ p → H' c = some o) → Q .non H'
theorem ok_init (T : Tx K mg) : FnOk P w K mg base CX0 4 T.f_Wedge_init T.d_Wedge_init ["self", "pairs", "bits"] (spInit K T.C_Wedge) := by
  have G_are_numbers := ok_are_numbers (P := P) (w := w) (base := base) T
  have G_are_bits := ok_are_bits (P := P) (w := w) (base := base) T
  refine T.F_Wedge_init.ok sc_Wedge_init (fun vs H Q E h => ?_) (fun cdv A outer s H vs Q E hr h => ?_)
  · obtain ⟨p, dx, a, b, w, rfl, _⟩ := h
    rfl
  obtain ⟨p, dx, a, b, wd, rfl, hp, h1, h2, hw, q⟩ := h
  have nd := sc_Wedge_init.nd
  obtain ⟨xsP, lP, hP⟩ := T.l_PAIRS
  refine ⟨_, (pss_cons (ps_if (PW.pt (pw_or (pt_not (pt_val (pe_call G_are_numbers (hr.mono (by decide)) (by rfl) T.m_are_numbers T.F_are_numbers.kp T.b_are_numbers .nil pass0 (pa_cons (pv 1) (pa_cons (pe_callB (show CallR _ _ (rLenSq K) from call_len_seq) (by rfl) T.z_len (by decide +kernel) (pa_cons (pe_glob (v := .ref T.e_PAIRS) (by rfl) T.m_PAIRS rfl) pa_nil)) pa_nil))))) (pw_or1 (pt_not (pt_val (pe_call G_are_bits hr (by rfl) T.m_are_bits T.F_are_bits.kp T.b_are_bits .nil pass0 (pa_cons (pv 2) (pa_cons (pe_callB (show CallR _ _ (rLenSq K) from call_len_seq) (by rfl) T.z_len (by decide +kernel) (pa_cons (pe_glob (v := .ref T.e_PRIMES) (by rfl) T.m_PRIMES rfl) pa_nil)) pa_nil)))))))) (pss_one ps_never) pss_nil)
    (pss_cons (ps_fld (pv 0) (pe_callTy (show CallR _ _ (rTup1 K) from call_tup1) (by rfl) T.z_tuple (by decide +kernel) (pa_cons (pv 1) pa_nil)) rfl)
    (pss_one (ps_fld (pv 0) (pe_callTy (show CallR _ _ (rTup1 K) from call_tup1) (by rfl) T.z_tuple (by decide +kernel) (pa_cons (pv 2) pa_nil)) rfl)))), ?_⟩
  refine ⟨_, rfl, T.e_PAIRS, xsP, rfl, .inr (hP _), a, wd.1, (by rw [lP, hw.l1]; rfl), h1, (by rw [hw.l1]; decide), fun H1 s1 => ?_⟩
  walk_at "go"
  refine ⟨T.e_PRIMES, _, rfl, .inr (T.q_PRIMES _), b, wd.2, (by rw [hw.l2]; rfl), h2.same s1, (by rw [hw.l2]; decide), hw.bit, fun H2 s2 => ?_⟩
  have s12 := s1.trans s2
  walk_at "go"
  refine ⟨a, _, rfl, h1.same s12, fun t1 H3 s3 ht1 => ?_⟩
  have s13 := s12.trans s3
  refine ⟨_, rfl, p, T.C_Wedge, dx, [], rfl, s13 _ _ hp, T.c_Wedge, T.n_Wedge_pairs, (by show 0 < 1000; decide), ?_⟩
  refine ⟨_, rfl, b, _, rfl, (h2.same s13).ins (s13 _ _ hp), fun t2 H4 s4 ht2 => ?_⟩
  have hp4 := s4 _ _ (upd_same (H := H3) (a := p) (o := .ins T.C_Wedge dx (putF "_pairs" (V.ref t1) [])))
  refine ⟨_, rfl, p, T.C_Wedge, dx, _, rfl, hp4, T.c_Wedge, T.n_Wedge_bits, (by show 1 < 1000; decide), ?_⟩
  rw [wf_put]
  refine q _ ⟨⟨dx, t1, t2, upd_same, seqT_ins hp4 (seqT s4 (seqT_ins (s13 _ _ hp) ht1)), seqT_ins hp4 ht2⟩, hw⟩ fun c o e n => ?_
  rw [upd_ne n]
  refine s4 _ _ ?_
  rw [upd_ne n]
  exact s13 _ _ e
/-! ### Wedge(..), and what the operators give -/
section
variable {H : Hp} {Q : VK} {E : XK} {C : Addr}
theorem make_w {a b : Addr} {wd : W2} (h1 : Sq K H a (wd.1.map V.int)) (h2 : Sq K H b (wd.2.map V.int)) (hw : WOk wd) (q : ∀ x H', Same H H' → WAt K C H' x wd → Q (.ref x) H') :
    ∀ x dx, H x = none → H dx = none → dx ≠ x → spInit K C (.ref x :: ([.ref a, .ref b] ++ [])) (upd (upd H dx (.own x)) x (.ins C dx [])) (fun v H2 => v = .non ∧ Q (.ref x) H2) E := by
  intro x dx nx nd ne
  have s0 : Same H (upd (upd H dx (.own x)) x (.ins C dx [])) := fun c o e => by
    rw [upd_ne (ne_of_none e nx), upd_ne (ne_of_none e nd)]
    exact e
  refine ⟨x, dx, a, b, wd, rfl, upd_same, h1.same s0, h2.same s0, hw, fun H' hx kp => ⟨rfl, ?_⟩⟩
  exact q x H' (fun c o e => kp c o (s0 c o e) (ne_of_none e nx)) hx
end
def addW (x y : W2) : W2 := (List.zipWith (· + ·) x.1 y.1, List.zipWith (fun a b => (a + b).fmod 2) x.2 y.2)
def subW (x y : W2) : W2 := (List.zipWith (· - ·) x.1 y.1, List.zipWith (fun a b => (a + b).fmod 2) x.2 y.2)
def negW (x : W2) : W2 := (x.1.map (- ·), x.2)
def mulW (k : Int) (x : W2) : W2 := (x.1.map (k * ·), x.2.map (fun b => (k * b).fmod 2))
theorem bit_mod (a : Int) : Bit (a.fmod 2) := by
  have := fm (i := a) (j := 2) (by decide)
  unfold Bit
  omega
theorem bit_zip {f : Int → Int → Int} (hf : ∀ a b, Bit (f a b)) {xs ys : List Int} : ∀ z ∈ List.zipWith f xs ys, Bit z := by
  intro z hz
  obtain ⟨i, hi, rfl⟩ := List.mem_iff_getElem.mp hz
  rw [List.getElem_zipWith]
  exact hf _ _
theorem addW_ok {x y : W2} (h1 : WOk x) (h2 : WOk y) : WOk (addW x y) := ⟨by simp [addW, h1.l1, h2.l1], by simp [addW, h1.l2, h2.l2], bit_zip fun a b => bit_mod _⟩
theorem subW_ok {x y : W2} (h1 : WOk x) (h2 : WOk y) : WOk (subW x y) := ⟨by simp [subW, h1.l1, h2.l1], by simp [subW, h1.l2, h2.l2], bit_zip fun a b => bit_mod _⟩
theorem negW_ok {x : W2} (h1 : WOk x) : WOk (negW x) := ⟨by simp [negW, h1.l1], h1.l2, h1.bit⟩
theorem mulW_ok {k : Int} {x : W2} (h1 : WOk x) : WOk (mulW k x) := ⟨by simp [mulW, h1.l1], by simp [mulW, h1.l2], fun b hb => by
  obtain ⟨c, _, rfl⟩ := List.mem_map.mp hb
  exact bit_mod _⟩
/-- x op y of two wedges -/
def spOp2 (K : PySem.W.Frag) (C : Addr) (f : W2 → W2 → W2) : Sp := fun vs H Q _ => ∃ (p r : Addr) (x y : W2), vs = [.ref p, .ref r] ∧ WAt K C H p x ∧ WAt K C H r y ∧ ∀ t H', Same H H' → WAt K C H' t (f x y) → Q (.ref t) H'
end
end TL.W
namespace TL.W
open TL
open PySem L2

/-! ### steps of a reading -/
local macro_rules | `(tactic| walk_at "hp") => `(tactic| first | assumption | exact upd_same | (refine (upd_ne (by first | assumption | (exact Ne.symm (by assumption)))).trans ?_; walk_at "hp"))
local macro_rules | `(tactic| walk_at "ok") => `(tactic| first | (exact Or.inr ⟨by decide, by decide⟩) | (exact ⟨by decide, by decide⟩) | (exact ⟨by decide, by decide, by decide⟩) | (show _ ≠ _; omega) | (show _ ≠ _; decide) | (exact Or.inl ⟨by omega, by omega⟩) | decide)
local macro_rules | `(tactic| walk_at "sq") => `(tactic| first | assumption | exact SqL.of (by walk_at "hp") | exact SqT.of (by walk_at "hp"))
local macro_rules | `(tactic| walk_at "ty") => `(tactic| first | refine ⟨_, _, Value.type "int", Value.type "list", false, rfl, ClsV.ty _, TyX.base (TyOf.int _), kt_int_list, ?_⟩ | refine ⟨_, _, Value.type "bool", Value.type "list", false, rfl, ClsV.ty _, TyX.base (TyOf.bl _), kt_bool_list, ?_⟩ | refine ⟨_, _, Value.type "str", Value.type "list", false, rfl, ClsV.ty _, TyX.base (TyOf.str _), kt_str_list, ?_⟩ | refine ⟨_, _, Value.type "NoneType", Value.type "list", false, rfl, ClsV.ty _, TyX.base TyOf.non, kt_NoneType_list, ?_⟩ | refine ⟨_, _, Value.type "list", Value.type "list", true, rfl, ClsV.ty _, tyx_L (by walk_at "sq"), kt_list_list, ?_⟩ | refine ⟨_, _, Value.type "tuple", Value.type "list", false, rfl, ClsV.ty _, tyx_T (by walk_at "sq"), kt_tuple_list, ?_⟩ | refine ⟨_, _, Value.type "int", Value.type "tuple", false, rfl, ClsV.ty _, TyX.base (TyOf.int _), kt_int_tuple, ?_⟩ | refine ⟨_, _, Value.type "bool", Value.type "tuple", false, rfl, ClsV.ty _, TyX.base (TyOf.bl _), kt_bool_tuple, ?_⟩ | refine ⟨_, _, Value.type "str", Value.type "tuple", false, rfl, ClsV.ty _, TyX.base (TyOf.str _), kt_str_tuple, ?_⟩ | refine ⟨_, _, Value.type "NoneType", Value.type "tuple", false, rfl, ClsV.ty _, TyX.base TyOf.non, kt_NoneType_tuple, ?_⟩ | refine ⟨_, _, Value.type "list", Value.type "tuple", false, rfl, ClsV.ty _, tyx_L (by walk_at "sq"), kt_list_tuple, ?_⟩ | refine ⟨_, _, Value.type "tuple", Value.type "tuple", true, rfl, ClsV.ty _, tyx_T (by walk_at "sq"), kt_tuple_tuple, ?_⟩ | refine ⟨_, _, Value.type "int", Value.type "bool", false, rfl, ClsV.ty _, TyX.base (TyOf.int _), kt_int_bool, ?_⟩ | refine ⟨_, _, Value.type "bool", Value.type "bool", true, rfl, ClsV.ty _, TyX.base (TyOf.bl _), kt_bool_bool, ?_⟩ | refine ⟨_, _, Value.type "str", Value.type "bool", false, rfl, ClsV.ty _, TyX.base (TyOf.str _), kt_str_bool, ?_⟩ | refine ⟨_, _, Value.type "NoneType", Value.type "bool", false, rfl, ClsV.ty _, TyX.base TyOf.non, kt_NoneType_bool, ?_⟩ | refine ⟨_, _, Value.type "list", Value.type "bool", false, rfl, ClsV.ty _, tyx_L (by walk_at "sq"), kt_list_bool, ?_⟩ | refine ⟨_, _, Value.type "tuple", Value.type "bool", false, rfl, ClsV.ty _, tyx_T (by walk_at "sq"), kt_tuple_bool, ?_⟩ | refine ⟨_, _, Value.type "int", Value.type "int", true, rfl, ClsV.ty _, TyX.base (TyOf.int _), kt_int_int, ?_⟩ | refine ⟨_, _, Value.type "bool", Value.type "int", true, rfl, ClsV.ty _, TyX.base (TyOf.bl _), kt_bool_int, ?_⟩ | refine ⟨_, _, Value.type "str", Value.type "int", false, rfl, ClsV.ty _, TyX.base (TyOf.str _), kt_str_int, ?_⟩ | refine ⟨_, _, Value.type "NoneType", Value.type "int", false, rfl, ClsV.ty _, TyX.base TyOf.non, kt_NoneType_int, ?_⟩ | refine ⟨_, _, Value.type "list", Value.type "int", false, rfl, ClsV.ty _, tyx_L (by walk_at "sq"), kt_list_int, ?_⟩ | refine ⟨_, _, Value.type "tuple", Value.type "int", false, rfl, ClsV.ty _, tyx_T (by walk_at "sq"), kt_tuple_int, ?_⟩ | refine ⟨_, _, Value.type "int", Value.type "str", false, rfl, ClsV.ty _, TyX.base (TyOf.int _), kt_int_str, ?_⟩ | refine ⟨_, _, Value.type "bool", Value.type "str", false, rfl, ClsV.ty _, TyX.base (TyOf.bl _), kt_bool_str, ?_⟩ | refine ⟨_, _, Value.type "str", Value.type "str", true, rfl, ClsV.ty _, TyX.base (TyOf.str _), kt_str_str, ?_⟩ | refine ⟨_, _, Value.type "NoneType", Value.type "str", false, rfl, ClsV.ty _, TyX.base TyOf.non, kt_NoneType_str, ?_⟩ | refine ⟨_, _, Value.type "list", Value.type "str", false, rfl, ClsV.ty _, tyx_L (by walk_at "sq"), kt_list_str, ?_⟩ | refine ⟨_, _, Value.type "tuple", Value.type "str", false, rfl, ClsV.ty _, tyx_T (by walk_at "sq"), kt_tuple_str, ?_⟩)
local macro_rules | `(tactic| walk_at "go1") => `(tactic| first
  | (refine ⟨_, rfl, ?_⟩)
  | (refine ⟨_, _, rfl, rfl, ?_⟩)
  | (refine ⟨_, _, _, _, rfl, rfl, SqL.of (by walk_at "hp"), rfl, ?_⟩)
  | (refine Or.inl ⟨_, rfl, ?_⟩)
  | (refine ⟨rfl, ?_⟩)
  | (refine ⟨_, _, rfl, .inl (SqL.of (by walk_at "hp")), ?_⟩)
  | (refine ⟨_, _, rfl, Or.inl (by assumption), ?_⟩)
  | (refine ⟨_, _, rfl, Or.inr (by assumption), ?_⟩)
  | (refine ⟨(by walk_at "ok"), ?_⟩)
  | (refine ⟨_, _, _, _, rfl, rfl, (by walk_at "hp"), rfl, ?_⟩))
local macro_rules | `(tactic| walk_at "go") => `(tactic| repeat (walk_at "go1"))
local macro_rules | `(tactic| walk_at "gt") => `(tactic| repeat (first | walk_at "go1" | walk_at "ty"))

section
variable {P : Program} {w : World} {K : PySem.W.Frag} {mg : Str → Option Value} {base : Heap}
theorem ok_add (T : Tx K mg) : FnOk P w K mg base CX0 6 T.f_Wedge_add T.d_Wedge_add ["self", "other"] (spOp2 K T.C_Wedge addW) := by
  have G_Wedge_init := ok_init (P := P) (w := w) (base := base) T
  refine T.F_Wedge_add.ok sc_Wedge_add (fun vs H Q E h => ?_) (fun cdv A outer s H vs Q E hr h => ?_)
  · obtain ⟨p, r, x, y, rfl, _⟩ := h
    rfl
  obtain ⟨p, r, x, y, rfl, hx, hy, q⟩ := h
  have nd := sc_Wedge_add.nd
  obtain ⟨⟨dx, t1, t2, e1, e2, e3⟩, ox⟩ := id hx
  obtain ⟨⟨dy, r1, r2, g1, g2, g3⟩, oy⟩ := id hy
  refine ⟨_, (pss_cons (ps_setLc (i := 2) (own := [("one", 3), ("two", 4)]) (g := (gTup K 2 (gCons (gName 3) (gCons (gName 4) gNil)))) rfl nd rfl rfl (sw_true rfl rfl rfl (by decide +kernel)) (show PI _ _ _ (RZ.iZipA K _) from RZ.pi_zipA (by rfl) T.z_zip (pa_cons (show PE _ _ (tFld K _ _) from pe_fld (pv 0) rfl) (pa_cons (show PE _ _ (tFld K _ _) from pe_fld (pv 1) rfl) pa_nil))) (blkOk_by (own := [("one", 3), ("two", 4)]) (N := N_Wedge_add) (sc := defScope s_Wedge_add) (by decide +kernel)) (fun _ _ _ _ _ => by exact (pg_tup rfl (pgs_cons (pg_name (i := 3) nd rfl (Or.inl rfl)) (pgs_cons (pg_name (i := 4) nd rfl (Or.inl rfl)) pgs_nil)))) (fun _ _ _ _ _ => by exact pts_nil) (fun _ _ _ _ _ => by exact (pe_op op_add (pv 3) (pv 4))))
    (pss_one (ps_ret (pe_make T.k_Wedge G_Wedge_init hr (by rfl) T.g_Wedge T.b_Wedge_init .nil pass0 (pa_cons (pv 2) (pa_cons (pe_lc (own := [("one", 3), ("two", 4)]) (g := (gTup K 2 (gCons (gName 3) (gCons (gName 4) gNil)))) rfl nd (show PI _ _ _ (RZ.iZipA K _) from RZ.pi_zipA (by rfl) T.z_zip (pa_cons (show PE _ _ (tFld K _ _) from pe_fld (pv 0) rfl) (pa_cons (show PE _ _ (tFld K _ _) from pe_fld (pv 1) rfl) pa_nil))) (blkOk_by (own := [("one", 3), ("two", 4)]) (N := N_Wedge_add) (sc := defScope s_Wedge_add) (by decide +kernel)) (fun _ _ _ _ _ => by exact (pg_tup rfl (pgs_cons (pg_name (i := 3) nd rfl (Or.inl rfl)) (pgs_cons (pg_name (i := 4) nd rfl (Or.inl rfl)) pgs_nil)))) (fun _ _ _ _ _ => by exact pts_nil) (fun _ _ _ _ _ => by exact (pe_op op_modN (pe_op op_add (pv 3) (pv 4)) pe_int))) pa_nil)))))), ?_⟩
  refine ⟨_, rfl, p, _, _, _, _, rfl, e1, T.c_Wedge, T.n_Wedge_pairs, wf_p _ _, _, rfl, r, _, _, _, _, rfl, g1, T.c_Wedge, T.n_Wedge_pairs, wf_p _ _, t1, r1, _, _, rfl, .inr ⟨e2, g2, fun D hD => ?_⟩⟩
  refine lc_zipT (f := fun a b => a + b) e2 g2 (by rw [ox.l1, oy.l1]) (by rw [ox.l1]; decide) hD (fun u v => rfl) (fun u v H1 k _ _ hk => ⟨_, rfl, _, rfl, u, v, rfl, rfl, hk⟩) fun H1 s1 hD1 => ?_
  refine ⟨_, rfl, _, rfl, p, _, _, _, _, rfl, s1 _ _ e1, T.c_Wedge, T.n_Wedge_bits, wf_b _ _, _, rfl, r, _, _, _, _, rfl, s1 _ _ g1, T.c_Wedge, T.n_Wedge_bits, wf_b _ _, t2, r2, _, _, rfl, .inr ⟨seqT s1 e3, seqT s1 g3, fun D2 hD2 => ?_⟩⟩
  refine lc_zipT (f := fun a b => (a + b).fmod 2) (seqT s1 e3) (seqT s1 g3) (by rw [ox.l2, oy.l2]) (by rw [ox.l2]; decide) hD2 (fun u v => rfl) (fun u v H1 k _ _ hk => ⟨_, rfl, _, rfl, u, v, rfl, rfl, _, _, rfl, rfl, (by show (2 : Int) ≠ 0; decide), hk⟩) fun H2 s2 hD3 => ?_
  exact make_w (wd := addW x y) (.inl (SqL.of (s2 _ _ hD1))) (.inl (SqL.of hD3)) (addW_ok ox oy) fun z H' s3 hz => q z H' ((s1.trans s2).trans s3) hz
theorem ok_sub (T : Tx K mg) : FnOk P w K mg base CX0 6 T.f_Wedge_sub T.d_Wedge_sub ["self", "other"] (spOp2 K T.C_Wedge subW) := by
  have G_Wedge_init := ok_init (P := P) (w := w) (base := base) T
  refine T.F_Wedge_sub.ok sc_Wedge_sub (fun vs H Q E h => ?_) (fun cdv A outer s H vs Q E hr h => ?_)
  · obtain ⟨p, r, x, y, rfl, _⟩ := h
    rfl
  obtain ⟨p, r, x, y, rfl, hx, hy, q⟩ := h
  have nd := sc_Wedge_sub.nd
  obtain ⟨⟨dx, t1, t2, e1, e2, e3⟩, ox⟩ := id hx
  obtain ⟨⟨dy, r1, r2, g1, g2, g3⟩, oy⟩ := id hy
  refine ⟨_, (pss_cons (ps_setLc (i := 2) (own := [("one", 3), ("two", 4)]) (g := (gTup K 2 (gCons (gName 3) (gCons (gName 4) gNil)))) rfl nd rfl rfl (sw_true rfl rfl rfl (by decide +kernel)) (show PI _ _ _ (RZ.iZipA K _) from RZ.pi_zipA (by rfl) T.z_zip (pa_cons (show PE _ _ (tFld K _ _) from pe_fld (pv 0) rfl) (pa_cons (show PE _ _ (tFld K _ _) from pe_fld (pv 1) rfl) pa_nil))) (blkOk_by (own := [("one", 3), ("two", 4)]) (N := N_Wedge_sub) (sc := defScope s_Wedge_sub) (by decide +kernel)) (fun _ _ _ _ _ => by exact (pg_tup rfl (pgs_cons (pg_name (i := 3) nd rfl (Or.inl rfl)) (pgs_cons (pg_name (i := 4) nd rfl (Or.inl rfl)) pgs_nil)))) (fun _ _ _ _ _ => by exact pts_nil) (fun _ _ _ _ _ => by exact (pe_op op_sub (pv 3) (pv 4))))
    (pss_one (ps_ret (pe_make T.k_Wedge G_Wedge_init hr (by rfl) T.g_Wedge T.b_Wedge_init .nil pass0 (pa_cons (pv 2) (pa_cons (pe_lc (own := [("one", 3), ("two", 4)]) (g := (gTup K 2 (gCons (gName 3) (gCons (gName 4) gNil)))) rfl nd (show PI _ _ _ (RZ.iZipA K _) from RZ.pi_zipA (by rfl) T.z_zip (pa_cons (show PE _ _ (tFld K _ _) from pe_fld (pv 0) rfl) (pa_cons (show PE _ _ (tFld K _ _) from pe_fld (pv 1) rfl) pa_nil))) (blkOk_by (own := [("one", 3), ("two", 4)]) (N := N_Wedge_sub) (sc := defScope s_Wedge_sub) (by decide +kernel)) (fun _ _ _ _ _ => by exact (pg_tup rfl (pgs_cons (pg_name (i := 3) nd rfl (Or.inl rfl)) (pgs_cons (pg_name (i := 4) nd rfl (Or.inl rfl)) pgs_nil)))) (fun _ _ _ _ _ => by exact pts_nil) (fun _ _ _ _ _ => by exact (pe_op op_modN (pe_op op_add (pv 3) (pv 4)) pe_int))) pa_nil)))))), ?_⟩
  refine ⟨_, rfl, p, _, _, _, _, rfl, e1, T.c_Wedge, T.n_Wedge_pairs, wf_p _ _, _, rfl, r, _, _, _, _, rfl, g1, T.c_Wedge, T.n_Wedge_pairs, wf_p _ _, t1, r1, _, _, rfl, .inr ⟨e2, g2, fun D hD => ?_⟩⟩
  refine lc_zipT (f := fun a b => a - b) e2 g2 (by rw [ox.l1, oy.l1]) (by rw [ox.l1]; decide) hD (fun u v => rfl) (fun u v H1 k _ _ hk => ⟨_, rfl, _, rfl, u, v, rfl, rfl, hk⟩) fun H1 s1 hD1 => ?_
  refine ⟨_, rfl, _, rfl, p, _, _, _, _, rfl, s1 _ _ e1, T.c_Wedge, T.n_Wedge_bits, wf_b _ _, _, rfl, r, _, _, _, _, rfl, s1 _ _ g1, T.c_Wedge, T.n_Wedge_bits, wf_b _ _, t2, r2, _, _, rfl, .inr ⟨seqT s1 e3, seqT s1 g3, fun D2 hD2 => ?_⟩⟩
  refine lc_zipT (f := fun a b => (a + b).fmod 2) (seqT s1 e3) (seqT s1 g3) (by rw [ox.l2, oy.l2]) (by rw [ox.l2]; decide) hD2 (fun u v => rfl) (fun u v H1 k _ _ hk => ⟨_, rfl, _, rfl, u, v, rfl, rfl, _, _, rfl, rfl, (by show (2 : Int) ≠ 0; decide), hk⟩) fun H2 s2 hD3 => ?_
  exact make_w (wd := subW x y) (.inl (SqL.of (s2 _ _ hD1))) (.inl (SqL.of hD3)) (subW_ok ox oy) fun z H' s3 hz => q z H' ((s1.trans s2).trans s3) hz
def spNegW (K : PySem.W.Frag) (C : Addr) : Sp := fun vs H Q _ => ∃ (p : Addr) (x : W2), vs = [.ref p] ∧ WAt K C H p x ∧ ∀ t H', Same H H' → WAt K C H' t (negW x) → Q (.ref t) H'
theorem ok_neg (T : Tx K mg) : FnOk P w K mg base CX0 6 T.f_Wedge_neg T.d_Wedge_neg ["self"] (spNegW K T.C_Wedge) := by
  have G_Wedge_init := ok_init (P := P) (w := w) (base := base) T
  refine T.F_Wedge_neg.ok sc_Wedge_neg (fun vs H Q E h => ?_) (fun cdv A outer s H vs Q E hr h => ?_)
  · obtain ⟨p, x, rfl, _⟩ := h
    rfl
  obtain ⟨p, x, rfl, hx, q⟩ := h
  have nd := sc_Wedge_neg.nd
  obtain ⟨⟨dx, t1, t2, e1, e2, e3⟩, ox⟩ := id hx
  refine ⟨_, (pss_one (ps_ret (pe_make T.k_Wedge G_Wedge_init hr (by rfl) T.g_Wedge T.b_Wedge_init .nil pass0 (pa_cons (pe_lc (own := [("number", 1)]) (g := (gName 1)) rfl nd (show PI _ _ _ (iTup K _) from pi_tup (show PE _ _ (tFld K _ _) from pe_fld (pv 0) rfl)) (blkOk_by (own := [("number", 1)]) (N := N_Wedge_neg) (sc := defScope s_Wedge_neg) (by decide +kernel)) (fun _ _ _ _ _ => by exact (pg_name (i := 1) nd rfl (Or.inl rfl))) (fun _ _ _ _ _ => by exact pts_nil) (fun _ _ _ _ _ => by exact (pe_un un_neg (pv 1)))) (pa_cons (show PE _ _ (tFld K _ _) from pe_fld (pv 0) rfl) pa_nil))))), ?_⟩
  refine ⟨_, rfl, p, _, _, _, _, rfl, e1, T.c_Wedge, T.n_Wedge_pairs, wf_p _ _, t1, rfl, ⟨_, e2⟩, fun D hD => ?_⟩
  refine lc_mapT (f := fun a => -a) e2 (by rw [ox.l1]; decide) hD (fun u => rfl) (fun u H1 k _ hk => ⟨_, rfl, u, rfl, hk⟩) fun H1 s1 hD1 => ?_
  refine ⟨_, rfl, p, _, _, _, _, rfl, s1 _ _ e1, T.c_Wedge, T.n_Wedge_bits, wf_b _ _, ?_⟩
  exact make_w (wd := negW x) (.inl (SqL.of hD1)) (.inr (seqT s1 e3)) (negW_ok ox) fun z H' s3 hz => q z H' (s1.trans s3) hz
def Small (k : Int) (x : W2) : Prop := ∀ u ∈ x.1, CMulW k u
def spMulW (K : PySem.W.Frag) (C : Addr) : Sp := fun vs H Q _ => ∃ (p : Addr) (k : Int) (x : W2), vs = [.ref p, .int k] ∧ WAt K C H p x ∧ Small k x ∧ ∀ t H', Same H H' → WAt K C H' t (mulW k x) → Q (.ref t) H'
theorem bit_mul (k : Int) {b : Int} (h : Bit b) : CMul k b := by
  refine .inr ?_
  rcases h with rfl | rfl <;> exact ⟨by decide, by decide⟩
theorem ok_mul (T : Tx K mg) : FnOk P w K mg base CX0 6 T.f_Wedge_mul T.d_Wedge_mul ["self", "k"] (spMulW K T.C_Wedge) := by
  have G_Wedge_init := ok_init (P := P) (w := w) (base := base) T
  refine T.F_Wedge_mul.ok sc_Wedge_mul (fun vs H Q E h => ?_) (fun cdv A outer s H vs Q E hr h => ?_)
  · obtain ⟨p, k, x, rfl, _⟩ := h
    rfl
  obtain ⟨p, k, x, rfl, hx, hsm, q⟩ := h
  have nd := sc_Wedge_mul.nd
  obtain ⟨⟨dx, t1, t2, e1, e2, e3⟩, ox⟩ := id hx
  refine ⟨_, (pss_one (ps_ret (pe_make T.k_Wedge G_Wedge_init hr (by rfl) T.g_Wedge T.b_Wedge_init .nil pass0 (pa_cons (pe_lc (own := [("number", 2)]) (g := (gName 2)) rfl nd (show PI _ _ _ (iTup K _) from pi_tup (show PE _ _ (tFld K _ _) from pe_fld (pv 0) rfl)) (blkOk_by (own := [("number", 2)]) (N := N_Wedge_mul) (sc := defScope s_Wedge_mul) (by decide +kernel)) (fun _ _ _ _ _ => by exact (pg_name (i := 2) nd rfl (Or.inl rfl))) (fun _ _ _ _ _ => by exact pts_nil) (fun _ _ _ _ _ => by exact (pe_op op_mulW (pv 1) (pv 2)))) (pa_cons (pe_lc (own := [("bit", 3)]) (g := (gName 3)) rfl nd (show PI _ _ _ (iTup K _) from pi_tup (show PE _ _ (tFld K _ _) from pe_fld (pv 0) rfl)) (blkOk_by (own := [("bit", 3)]) (N := N_Wedge_mul) (sc := defScope s_Wedge_mul) (by decide +kernel)) (fun _ _ _ _ _ => by exact (pg_name (i := 3) nd rfl (Or.inl rfl))) (fun _ _ _ _ _ => by exact pts_nil) (fun _ _ _ _ _ => by exact (pe_op op_modN (pe_op op_mul (pv 1) (pv 3)) pe_int))) pa_nil))))), ?_⟩
  refine ⟨_, rfl, p, _, _, _, _, rfl, e1, T.c_Wedge, T.n_Wedge_pairs, wf_p _ _, t1, rfl, ⟨_, e2⟩, fun D hD => ?_⟩
  refine lc_mapT (f := fun a => k * a) e2 (by rw [ox.l1]; decide) hD (fun u => rfl) (fun u H1 kk hu hk => ⟨_, rfl, _, rfl, k, u, rfl, rfl, hsm u hu, hk⟩) fun H1 s1 hD1 => ?_
  refine ⟨_, rfl, p, _, _, _, _, rfl, s1 _ _ e1, T.c_Wedge, T.n_Wedge_bits, wf_b _ _, t2, rfl, ⟨_, seqT s1 e3⟩, fun D2 hD2 => ?_⟩
  refine lc_mapT (f := fun b => (k * b).fmod 2) (seqT s1 e3) (by rw [ox.l2]; decide) hD2 (fun u => rfl) (fun u H1 kk hu hk => ⟨_, rfl, _, rfl, k, u, rfl, rfl, bit_mul k (ox.bit u hu), _, _, rfl, rfl, (by show (2 : Int) ≠ 0; decide), hk⟩) fun H2 s2 hD3 => ?_
  exact make_w (wd := mulW k x) (.inl (SqL.of (s2 _ _ hD1))) (.inl (SqL.of hD3)) (mulW_ok ox) fun z H' s3 hz => q z H' ((s1.trans s2).trans s3) hz
theorem ok_rmul (T : Tx K mg) : FnOk P w K mg base CX0 6 T.f_Wedge_rmul T.d_Wedge_rmul ["self", "k"] (spMulW K T.C_Wedge) := by
  have G_Wedge_init := ok_init (P := P) (w := w) (base := base) T
  refine T.F_Wedge_rmul.ok sc_Wedge_rmul (fun vs H Q E h => ?_) (fun cdv A outer s H vs Q E hr h => ?_)
  · obtain ⟨p, k, x, rfl, _⟩ := h
    rfl
  obtain ⟨p, k, x, rfl, hx, hsm, q⟩ := h
  have nd := sc_Wedge_rmul.nd
  obtain ⟨⟨dx, t1, t2, e1, e2, e3⟩, ox⟩ := id hx
  refine ⟨_, (pss_one (ps_ret (pe_make T.k_Wedge G_Wedge_init hr (by rfl) T.g_Wedge T.b_Wedge_init .nil pass0 (pa_cons (pe_lc (own := [("number", 2)]) (g := (gName 2)) rfl nd (show PI _ _ _ (iTup K _) from pi_tup (show PE _ _ (tFld K _ _) from pe_fld (pv 0) rfl)) (blkOk_by (own := [("number", 2)]) (N := N_Wedge_rmul) (sc := defScope s_Wedge_rmul) (by decide +kernel)) (fun _ _ _ _ _ => by exact (pg_name (i := 2) nd rfl (Or.inl rfl))) (fun _ _ _ _ _ => by exact pts_nil) (fun _ _ _ _ _ => by exact (pe_op op_mulW (pv 1) (pv 2)))) (pa_cons (pe_lc (own := [("bit", 3)]) (g := (gName 3)) rfl nd (show PI _ _ _ (iTup K _) from pi_tup (show PE _ _ (tFld K _ _) from pe_fld (pv 0) rfl)) (blkOk_by (own := [("bit", 3)]) (N := N_Wedge_rmul) (sc := defScope s_Wedge_rmul) (by decide +kernel)) (fun _ _ _ _ _ => by exact (pg_name (i := 3) nd rfl (Or.inl rfl))) (fun _ _ _ _ _ => by exact pts_nil) (fun _ _ _ _ _ => by exact (pe_op op_modN (pe_op op_mul (pv 1) (pv 3)) pe_int))) pa_nil))))), ?_⟩
  refine ⟨_, rfl, p, _, _, _, _, rfl, e1, T.c_Wedge, T.n_Wedge_pairs, wf_p _ _, t1, rfl, ⟨_, e2⟩, fun D hD => ?_⟩
  refine lc_mapT (f := fun a => k * a) e2 (by rw [ox.l1]; decide) hD (fun u => rfl) (fun u H1 kk hu hk => ⟨_, rfl, _, rfl, k, u, rfl, rfl, hsm u hu, hk⟩) fun H1 s1 hD1 => ?_
  refine ⟨_, rfl, p, _, _, _, _, rfl, s1 _ _ e1, T.c_Wedge, T.n_Wedge_bits, wf_b _ _, t2, rfl, ⟨_, seqT s1 e3⟩, fun D2 hD2 => ?_⟩
  refine lc_mapT (f := fun b => (k * b).fmod 2) (seqT s1 e3) (by rw [ox.l2]; decide) hD2 (fun u => rfl) (fun u H1 kk hu hk => ⟨_, rfl, _, rfl, k, u, rfl, rfl, bit_mul k (ox.bit u hu), _, _, rfl, rfl, (by show (2 : Int) ≠ 0; decide), hk⟩) fun H2 s2 hD3 => ?_
  exact make_w (wd := mulW k x) (.inl (SqL.of (s2 _ _ hD1))) (.inl (SqL.of hD3)) (mulW_ok ox) fun z H' s3 hz => q z H' ((s1.trans s2).trans s3) hz
end
end TL.W
namespace TL.W
open TL
open PySem L2

/-! ### steps of a reading -/
local macro_rules | `(tactic| walk_at "hp") => `(tactic| first | assumption | exact upd_same | (refine (upd_ne (by first | assumption | (exact Ne.symm (by assumption)))).trans ?_; walk_at "hp"))
local macro_rules | `(tactic| walk_at "ok") => `(tactic| first | (exact Or.inr ⟨by decide, by decide⟩) | (exact ⟨by decide, by decide⟩) | (exact ⟨by decide, by decide, by decide⟩) | (show _ ≠ _; omega) | (show _ ≠ _; decide) | (exact Or.inl ⟨by omega, by omega⟩) | decide)
local macro_rules | `(tactic| walk_at "sq") => `(tactic| first | assumption | exact SqL.of (by walk_at "hp") | exact SqT.of (by walk_at "hp"))
local macro_rules | `(tactic| walk_at "ty") => `(tactic| first | refine ⟨_, _, Value.type "int", Value.type "list", false, rfl, ClsV.ty _, TyX.base (TyOf.int _), kt_int_list, ?_⟩ | refine ⟨_, _, Value.type "bool", Value.type "list", false, rfl, ClsV.ty _, TyX.base (TyOf.bl _), kt_bool_list, ?_⟩ | refine ⟨_, _, Value.type "str", Value.type "list", false, rfl, ClsV.ty _, TyX.base (TyOf.str _), kt_str_list, ?_⟩ | refine ⟨_, _, Value.type "NoneType", Value.type "list", false, rfl, ClsV.ty _, TyX.base TyOf.non, kt_NoneType_list, ?_⟩ | refine ⟨_, _, Value.type "list", Value.type "list", true, rfl, ClsV.ty _, tyx_L (by walk_at "sq"), kt_list_list, ?_⟩ | refine ⟨_, _, Value.type "tuple", Value.type "list", false, rfl, ClsV.ty _, tyx_T (by walk_at "sq"), kt_tuple_list, ?_⟩ | refine ⟨_, _, Value.type "int", Value.type "tuple", false, rfl, ClsV.ty _, TyX.base (TyOf.int _), kt_int_tuple, ?_⟩ | refine ⟨_, _, Value.type "bool", Value.type "tuple", false, rfl, ClsV.ty _, TyX.base (TyOf.bl _), kt_bool_tuple, ?_⟩ | refine ⟨_, _, Value.type "str", Value.type "tuple", false, rfl, ClsV.ty _, TyX.base (TyOf.str _), kt_str_tuple, ?_⟩ | refine ⟨_, _, Value.type "NoneType", Value.type "tuple", false, rfl, ClsV.ty _, TyX.base TyOf.non, kt_NoneType_tuple, ?_⟩ | refine ⟨_, _, Value.type "list", Value.type "tuple", false, rfl, ClsV.ty _, tyx_L (by walk_at "sq"), kt_list_tuple, ?_⟩ | refine ⟨_, _, Value.type "tuple", Value.type "tuple", true, rfl, ClsV.ty _, tyx_T (by walk_at "sq"), kt_tuple_tuple, ?_⟩ | refine ⟨_, _, Value.type "int", Value.type "bool", false, rfl, ClsV.ty _, TyX.base (TyOf.int _), kt_int_bool, ?_⟩ | refine ⟨_, _, Value.type "bool", Value.type "bool", true, rfl, ClsV.ty _, TyX.base (TyOf.bl _), kt_bool_bool, ?_⟩ | refine ⟨_, _, Value.type "str", Value.type "bool", false, rfl, ClsV.ty _, TyX.base (TyOf.str _), kt_str_bool, ?_⟩ | refine ⟨_, _, Value.type "NoneType", Value.type "bool", false, rfl, ClsV.ty _, TyX.base TyOf.non, kt_NoneType_bool, ?_⟩ | refine ⟨_, _, Value.type "list", Value.type "bool", false, rfl, ClsV.ty _, tyx_L (by walk_at "sq"), kt_list_bool, ?_⟩ | refine ⟨_, _, Value.type "tuple", Value.type "bool", false, rfl, ClsV.ty _, tyx_T (by walk_at "sq"), kt_tuple_bool, ?_⟩ | refine ⟨_, _, Value.type "int", Value.type "int", true, rfl, ClsV.ty _, TyX.base (TyOf.int _), kt_int_int, ?_⟩ | refine ⟨_, _, Value.type "bool", Value.type "int", true, rfl, ClsV.ty _, TyX.base (TyOf.bl _), kt_bool_int, ?_⟩ | refine ⟨_, _, Value.type "str", Value.type "int", false, rfl, ClsV.ty _, TyX.base (TyOf.str _), kt_str_int, ?_⟩ | refine ⟨_, _, Value.type "NoneType", Value.type "int", false, rfl, ClsV.ty _, TyX.base TyOf.non, kt_NoneType_int, ?_⟩ | refine ⟨_, _, Value.type "list", Value.type "int", false, rfl, ClsV.ty _, tyx_L (by walk_at "sq"), kt_list_int, ?_⟩ | refine ⟨_, _, Value.type "tuple", Value.type "int", false, rfl, ClsV.ty _, tyx_T (by walk_at "sq"), kt_tuple_int, ?_⟩ | refine ⟨_, _, Value.type "int", Value.type "str", false, rfl, ClsV.ty _, TyX.base (TyOf.int _), kt_int_str, ?_⟩ | refine ⟨_, _, Value.type "bool", Value.type "str", false, rfl, ClsV.ty _, TyX.base (TyOf.bl _), kt_bool_str, ?_⟩ | refine ⟨_, _, Value.type "str", Value.type "str", true, rfl, ClsV.ty _, TyX.base (TyOf.str _), kt_str_str, ?_⟩ | refine ⟨_, _, Value.type "NoneType", Value.type "str", false, rfl, ClsV.ty _, TyX.base TyOf.non, kt_NoneType_str, ?_⟩ | refine ⟨_, _, Value.type "list", Value.type "str", false, rfl, ClsV.ty _, tyx_L (by walk_at "sq"), kt_list_str, ?_⟩ | refine ⟨_, _, Value.type "tuple", Value.type "str", false, rfl, ClsV.ty _, tyx_T (by walk_at "sq"), kt_tuple_str, ?_⟩)
local macro_rules | `(tactic| walk_at "go1") => `(tactic| first
  | (refine ⟨_, rfl, ?_⟩)
  | (refine ⟨_, _, rfl, rfl, ?_⟩)
  | (refine ⟨_, _, _, _, rfl, rfl, SqL.of (by walk_at "hp"), rfl, ?_⟩)
  | (refine Or.inl ⟨_, rfl, ?_⟩)
  | (refine ⟨rfl, ?_⟩)
  | (refine ⟨_, _, rfl, .inl (SqL.of (by walk_at "hp")), ?_⟩)
  | (refine ⟨_, _, rfl, Or.inl (by assumption), ?_⟩)
  | (refine ⟨_, _, rfl, Or.inr (by assumption), ?_⟩)
  | (refine ⟨(by walk_at "ok"), ?_⟩)
  | (refine ⟨_, _, _, _, rfl, rfl, (by walk_at "hp"), rfl, ?_⟩))
local macro_rules | `(tactic| walk_at "go") => `(tactic| repeat (walk_at "go1"))
local macro_rules | `(tactic| walk_at "gt") => `(tactic| repeat (first | walk_at "go1" | walk_at "ty"))

section
variable {P : Program} {w : World} {K : PySem.W.Frag} {mg : Str → Option Value} {base : Heap}
def spGet (K : PySem.W.Frag) (C : Addr) (f : W2 → List Int) : Sp := fun vs H Q _ => ∃ (p : Addr) (x : W2), vs = [.ref p] ∧ WAt K C H p x ∧ ∀ t, SqT K H t ((f x).map V.int) → Q (.ref t) H
theorem ok_pairs (T : Tx K mg) : FnOk P w K mg base CX0 1 T.f_Wedge_pairs T.d_Wedge_pairs ["self"] (spGet K T.C_Wedge (·.1)) := by
  refine T.F_Wedge_pairs.ok sc_Wedge_pairs (fun vs H Q E h => ?_) (fun cdv A outer s H vs Q E hr h => ?_)
  · obtain ⟨p, x, rfl, _⟩ := h
    rfl
  obtain ⟨p, x, rfl, ⟨⟨dx, t1, t2, e1, e2, e3⟩, ox⟩, q⟩ := h
  refine ⟨_, (pss_one (ps_ret (show PE _ _ (tFld K _ _) from pe_fld (pv 0) rfl))), ?_⟩
  exact ⟨_, rfl, p, _, _, _, _, rfl, e1, T.c_Wedge, T.n_Wedge_pairs, wf_p _ _, q t1 e2⟩
theorem ok_bits (T : Tx K mg) : FnOk P w K mg base CX0 1 T.f_Wedge_bits T.d_Wedge_bits ["self"] (spGet K T.C_Wedge (·.2)) := by
  refine T.F_Wedge_bits.ok sc_Wedge_bits (fun vs H Q E h => ?_) (fun cdv A outer s H vs Q E hr h => ?_)
  · obtain ⟨p, x, rfl, _⟩ := h
    rfl
  obtain ⟨p, x, rfl, ⟨⟨dx, t1, t2, e1, e2, e3⟩, ox⟩, q⟩ := h
  refine ⟨_, (pss_one (ps_ret (show PE _ _ (tFld K _ _) from pe_fld (pv 0) rfl))), ?_⟩
  exact ⟨_, rfl, p, _, _, _, _, rfl, e1, T.c_Wedge, T.n_Wedge_bits, wf_b _ _, q t2 e3⟩
def spEqW (K : PySem.W.Frag) (C : Addr) : Sp := fun vs H Q _ => ∃ (p r : Addr) (x y : W2), vs = [.ref p, .ref r] ∧ WAt K C H p x ∧ WAt K C H r y ∧ Q (.bl (decide (x = y))) H
theorem dec_two (x y : W2) : decide (x = y) = (decide (x.1 = y.1) && decide (x.2 = y.2)) := by
  obtain ⟨a, b⟩ := x
  obtain ⟨c, d⟩ := y
  by_cases h1 : a = c <;> by_cases h2 : b = d <;> simp [h1, h2]
theorem ok_eq (T : Tx K mg) : FnOk P w K mg base CX0 1 T.f_Wedge_eq T.d_Wedge_eq ["self", "other"] (spEqW K T.C_Wedge) := by
  refine T.F_Wedge_eq.ok sc_Wedge_eq (fun vs H Q E h => ?_) (fun cdv A outer s H vs Q E hr h => ?_)
  · obtain ⟨p, r, x, y, rfl, _⟩ := h
    rfl
  obtain ⟨p, r, x, y, rfl, ⟨⟨dx, t1, t2, e1, e2, e3⟩, ox⟩, ⟨⟨dy, r1, r2, g1, g2, g3⟩, oy⟩, q⟩ := h
  refine ⟨_, (pss_one (ps_ret (pe_and (pe_callB (show CallR _ _ (rIsi K) from call_isi) (by rfl) T.z_isinstance (by decide +kernel) (pa_cons (pv 1) (pa_cons (pe_glob (v := .ref T.C_Wedge) (by rfl) T.g_Wedge rfl) pa_nil))) (pe_and (pe_cmpR (show OpR _ _ (rEqTI K) from op_eqTI hr.units) (show PE _ _ (tFld K _ _) from pe_fld (pv 0) rfl) (show PE _ _ (tFld K _ _) from pe_fld (pv 1) rfl) (nomark _)) (pe_one (pe_cmpR (show OpR _ _ (rEqTI K) from op_eqTI hr.units) (show PE _ _ (tFld K _ _) from pe_fld (pv 0) rfl) (show PE _ _ (tFld K _ _) from pe_fld (pv 1) rfl) (nomark _))))))), ?_⟩
  have i := T.i_Wedge
  refine ⟨_, rfl, _, _, _, .ref T.C_Wedge, true, rfl, ClsV.own _, TyX.base (TyOf.ins g1 T.c_Wedge i.ca i.cn i.ct i.cm), i.me, ?_⟩
  refine ⟨_, rfl, ?_⟩
  refine ⟨_, rfl, p, _, _, _, _, rfl, e1, T.c_Wedge, T.n_Wedge_pairs, wf_p _ _, _, rfl, r, _, _, _, _, rfl, g1, T.c_Wedge, T.n_Wedge_pairs, wf_p _ _, t1, r1, _, _, rfl, rfl, e2, g2, _, rfl, ?_⟩
  rw [dec_two] at q
  refine ite2 (fun c => ?_) (fun c => ?_)
  · refine ⟨_, rfl, p, _, _, _, _, rfl, e1, T.c_Wedge, T.n_Wedge_bits, wf_b _ _, _, rfl, r, _, _, _, _, rfl, g1, T.c_Wedge, T.n_Wedge_bits, wf_b _ _, t2, r2, _, _, rfl, rfl, e3, g3, ?_⟩
    rw [c, Bool.true_and] at q
    exact q
  · rw [Bool.eq_false_iff.mpr c, Bool.false_and] at q
    exact q
def boolW (x : W2) : Bool := x.1.any (fun n => n != 0) || x.2.any (fun n => n != 0)
def spBoolW (K : PySem.W.Frag) (C : Addr) : Sp := fun vs H Q _ => ∃ (p : Addr) (x : W2), vs = [.ref p] ∧ WAt K C H p x ∧ Q (.bl (boolW x)) H
def zeroW : W2 := (List.replicate 15 0, List.replicate 6 0)
theorem zeroW_ok : WOk zeroW := ⟨by decide, by decide, fun b hb => .inl (List.mem_replicate.mp hb).2⟩
def spNothing (K : PySem.W.Frag) (C : Addr) : Sp := fun vs H Q _ => vs = [] ∧ ∀ t H', Same H H' → WAt K C H' t zeroW → Q (.ref t) H'
theorem ok_nothing (T : Tx K mg) : FnOk P w K mg base CX0 6 T.f_nothing T.d_nothing [] (spNothing K T.C_Wedge) := by
  have G_Wedge_init := ok_init (P := P) (w := w) (base := base) T
  refine T.F_nothing.ok sc_nothing (fun vs H Q E h => ?_) (fun cdv A outer s H vs Q E hr h => ?_)
  · obtain ⟨rfl, _⟩ := h
    rfl
  obtain ⟨rfl, q⟩ := h
  obtain ⟨xsP, lP, hP⟩ := T.l_PAIRS
  refine ⟨_, (pss_one (ps_ret (pe_make T.k_Wedge G_Wedge_init hr (by rfl) T.g_Wedge T.b1_Wedge_init T.v_Wedge_init pass0 (pa_cons (pe_op op_rep (pe_lst (pa_cons pe_int pa_nil)) (pe_callB (show CallR _ _ (rLenSq K) from call_len_seq) (by rfl) T.z_len (by decide +kernel) (pa_cons (pe_glob (v := .ref T.e_PAIRS) (by rfl) T.m_PAIRS rfl) pa_nil))) pa_nil)))), ?_⟩
  refine ⟨(by show 1 ≤ sizeLine; decide), fun p hp => ⟨T.e_PAIRS, xsP, rfl, .inr (hP _), p, _, _, rfl, rfl, upd_same, ?_⟩⟩
  rw [lP]
  refine ⟨by decide, by decide, by decide, fun l hl => ?_⟩
  have s1 : Same H (upd H p (.lst [.int 0])) := Same.new hp
  have s2 := s1.trans (Same.new (o := .lst (zeroW.1.map V.int)) hl)
  exact make_w (wd := zeroW) (.inl (SqL.of upd_same)) (.inr (T.q_bits _)) zeroW_ok fun x H' s3 hx => q x H' (s2.trans s3) hx
end
end TL.W
namespace TL.W
open TL
open PySem L2

/-! ### steps of a reading -/
local macro_rules | `(tactic| walk_at "hp") => `(tactic| first | assumption | exact upd_same | (refine (upd_ne (by first | assumption | (exact Ne.symm (by assumption)))).trans ?_; walk_at "hp"))
local macro_rules | `(tactic| walk_at "ok") => `(tactic| first | (exact Or.inr ⟨by decide, by decide⟩) | (exact ⟨by decide, by decide⟩) | (exact ⟨by decide, by decide, by decide⟩) | (show _ ≠ _; omega) | (show _ ≠ _; decide) | (exact Or.inl ⟨by omega, by omega⟩) | decide)
local macro_rules | `(tactic| walk_at "sq") => `(tactic| first | assumption | exact SqL.of (by walk_at "hp") | exact SqT.of (by walk_at "hp"))
local macro_rules | `(tactic| walk_at "ty") => `(tactic| first | refine ⟨_, _, Value.type "int", Value.type "list", false, rfl, ClsV.ty _, TyX.base (TyOf.int _), kt_int_list, ?_⟩ | refine ⟨_, _, Value.type "bool", Value.type "list", false, rfl, ClsV.ty _, TyX.base (TyOf.bl _), kt_bool_list, ?_⟩ | refine ⟨_, _, Value.type "str", Value.type "list", false, rfl, ClsV.ty _, TyX.base (TyOf.str _), kt_str_list, ?_⟩ | refine ⟨_, _, Value.type "NoneType", Value.type "list", false, rfl, ClsV.ty _, TyX.base TyOf.non, kt_NoneType_list, ?_⟩ | refine ⟨_, _, Value.type "list", Value.type "list", true, rfl, ClsV.ty _, tyx_L (by walk_at "sq"), kt_list_list, ?_⟩ | refine ⟨_, _, Value.type "tuple", Value.type "list", false, rfl, ClsV.ty _, tyx_T (by walk_at "sq"), kt_tuple_list, ?_⟩ | refine ⟨_, _, Value.type "int", Value.type "tuple", false, rfl, ClsV.ty _, TyX.base (TyOf.int _), kt_int_tuple, ?_⟩ | refine ⟨_, _, Value.type "bool", Value.type "tuple", false, rfl, ClsV.ty _, TyX.base (TyOf.bl _), kt_bool_tuple, ?_⟩ | refine ⟨_, _, Value.type "str", Value.type "tuple", false, rfl, ClsV.ty _, TyX.base (TyOf.str _), kt_str_tuple, ?_⟩ | refine ⟨_, _, Value.type "NoneType", Value.type "tuple", false, rfl, ClsV.ty _, TyX.base TyOf.non, kt_NoneType_tuple, ?_⟩ | refine ⟨_, _, Value.type "list", Value.type "tuple", false, rfl, ClsV.ty _, tyx_L (by walk_at "sq"), kt_list_tuple, ?_⟩ | refine ⟨_, _, Value.type "tuple", Value.type "tuple", true, rfl, ClsV.ty _, tyx_T (by walk_at "sq"), kt_tuple_tuple, ?_⟩ | refine ⟨_, _, Value.type "int", Value.type "bool", false, rfl, ClsV.ty _, TyX.base (TyOf.int _), kt_int_bool, ?_⟩ | refine ⟨_, _, Value.type "bool", Value.type "bool", true, rfl, ClsV.ty _, TyX.base (TyOf.bl _), kt_bool_bool, ?_⟩ | refine ⟨_, _, Value.type "str", Value.type "bool", false, rfl, ClsV.ty _, TyX.base (TyOf.str _), kt_str_bool, ?_⟩ | refine ⟨_, _, Value.type "NoneType", Value.type "bool", false, rfl, ClsV.ty _, TyX.base TyOf.non, kt_NoneType_bool, ?_⟩ | refine ⟨_, _, Value.type "list", Value.type "bool", false, rfl, ClsV.ty _, tyx_L (by walk_at "sq"), kt_list_bool, ?_⟩ | refine ⟨_, _, Value.type "tuple", Value.type "bool", false, rfl, ClsV.ty _, tyx_T (by walk_at "sq"), kt_tuple_bool, ?_⟩ | refine ⟨_, _, Value.type "int", Value.type "int", true, rfl, ClsV.ty _, TyX.base (TyOf.int _), kt_int_int, ?_⟩ | refine ⟨_, _, Value.type "bool", Value.type "int", true, rfl, ClsV.ty _, TyX.base (TyOf.bl _), kt_bool_int, ?_⟩ | refine ⟨_, _, Value.type "str", Value.type "int", false, rfl, ClsV.ty _, TyX.base (TyOf.str _), kt_str_int, ?_⟩ | refine ⟨_, _, Value.type "NoneType", Value.type "int", false, rfl, ClsV.ty _, TyX.base TyOf.non, kt_NoneType_int, ?_⟩ | refine ⟨_, _, Value.type "list", Value.type "int", false, rfl, ClsV.ty _, tyx_L (by walk_at "sq"), kt_list_int, ?_⟩ | refine ⟨_, _, Value.type "tuple", Value.type "int", false, rfl, ClsV.ty _, tyx_T (by walk_at "sq"), kt_tuple_int, ?_⟩ | refine ⟨_, _, Value.type "int", Value.type "str", false, rfl, ClsV.ty _, TyX.base (TyOf.int _), kt_int_str, ?_⟩ | refine ⟨_, _, Value.type "bool", Value.type "str", false, rfl, ClsV.ty _, TyX.base (TyOf.bl _), kt_bool_str, ?_⟩ | refine ⟨_, _, Value.type "str", Value.type "str", true, rfl, ClsV.ty _, TyX.base (TyOf.str _), kt_str_str, ?_⟩ | refine ⟨_, _, Value.type "NoneType", Value.type "str", false, rfl, ClsV.ty _, TyX.base TyOf.non, kt_NoneType_str, ?_⟩ | refine ⟨_, _, Value.type "list", Value.type "str", false, rfl, ClsV.ty _, tyx_L (by walk_at "sq"), kt_list_str, ?_⟩ | refine ⟨_, _, Value.type "tuple", Value.type "str", false, rfl, ClsV.ty _, tyx_T (by walk_at "sq"), kt_tuple_str, ?_⟩)
local macro_rules | `(tactic| walk_at "go1") => `(tactic| first
  | (refine ⟨_, rfl, ?_⟩)
  | (refine ⟨_, _, rfl, rfl, ?_⟩)
  | (refine ⟨_, _, _, _, rfl, rfl, SqL.of (by walk_at "hp"), rfl, ?_⟩)
  | (refine Or.inl ⟨_, rfl, ?_⟩)
  | (refine ⟨rfl, ?_⟩)
  | (refine ⟨_, _, rfl, .inl (SqL.of (by walk_at "hp")), ?_⟩)
  | (refine ⟨_, _, rfl, Or.inl (by assumption), ?_⟩)
  | (refine ⟨_, _, rfl, Or.inr (by assumption), ?_⟩)
  | (refine ⟨(by walk_at "ok"), ?_⟩)
  | (refine ⟨_, _, _, _, rfl, rfl, (by walk_at "hp"), rfl, ?_⟩))
local macro_rules | `(tactic| walk_at "go") => `(tactic| repeat (walk_at "go1"))
local macro_rules | `(tactic| walk_at "gt") => `(tactic| repeat (first | walk_at "go1" | walk_at "ty"))


section
variable {P : Program} {w : World} {K : PySem.W.Frag} {mg : Str → Option Value} {base : Heap}
/-- the law's own wedge: a tuple of two lists -/
structure LW (H : Hp) (p : Addr) (w : W2) : Prop where
  ex : ∃ l1 l2, H p = some (.tup [.ref l1, .ref l2]) ∧ H l1 = some (.lst (w.1.map V.int)) ∧ H l2 = some (.lst (w.2.map V.int))
  ok : WOk w
theorem LW.same {H H' : Hp} {p : Addr} {w : W2} (h : LW H p w) (s : Same H H') : LW H' p w := by
  obtain ⟨l1, l2, h1, h2, h3⟩ := h.ex
  exact ⟨⟨l1, l2, s _ _ h1, s _ _ h2, s _ _ h3⟩, h.ok⟩
/-- a pair of two new lists is one -/
theorem LW.mk2 {H : Hp} {Q : VK} {wd : W2} {a b : Addr} (hw : WOk wd) (h1 : H a = some (.lst (wd.1.map V.int))) (h2 : H b = some (.lst (wd.2.map V.int))) (q : ∀ t H', Same H H' → LW H' t wd → Q (.ref t) H') :
    [V.ref a, V.ref b].length ≤ sizeLine ∧ ∀ p, H p = none → Q (.ref p) (upd H p (.tup [.ref a, .ref b])) := by
  refine ⟨by show 2 ≤ sizeLine; decide, fun p hp => ?_⟩
  have s := Same.new (o := .tup [V.ref a, V.ref b]) hp
  exact q p _ s ⟨⟨a, b, upd_same, s _ _ h1, s _ _ h2⟩, hw⟩
def spAdded : Sp := fun vs H Q _ => ∃ (p r : Addr) (x y : W2), vs = [.ref p, .ref r] ∧ LW H p x ∧ LW H r y ∧ ∀ t H', Same H H' → LW H' t (addW x y) → Q (.ref t) H'
theorem ok_l_added (T : Tx K mg) : FnOk P w K mg base CX0 1 T.f_l_added T.d_l_added ["_law_w", "_law_z"] spAdded := by
  refine T.F_l_added.ok sc_l_added (fun vs H Q E h => ?_) (fun cdv A outer s H vs Q E hr h => ?_)
  · obtain ⟨p, r, x, y, rfl, _⟩ := h
    rfl
  obtain ⟨p, r, x, y, rfl, ⟨⟨a1, a2, e1, e2, e3⟩, ox⟩, ⟨⟨b1, b2, g1, g2, g3⟩, oy⟩, q⟩ := h
  have nd := sc_l_added.nd
  refine ⟨_, (pss_one (ps_ret (pe_tup (pa_cons (pe_lc (own := [("_law_x", 2), ("_law_y", 3)]) (g := (gTup K 2 (gCons (gName 2) (gCons (gName 3) gNil)))) rfl nd (show PI _ _ _ (RZ.iZipA K _) from RZ.pi_zipA (by rfl) T.z_zip (pa_cons (pe_ix (show IxR _ (rIxT K) from ix_tup) (pv 0) pe_int (fun _ _ => rfl)) (pa_cons (pe_ix (show IxR _ (rIxT K) from ix_tup) (pv 1) pe_int (fun _ _ => rfl)) pa_nil))) (blkOk_by (own := [("_law_x", 2), ("_law_y", 3)]) (N := N_l_added) (sc := defScope s_l_added) (by decide +kernel)) (fun _ _ _ _ _ => by exact (pg_tup rfl (pgs_cons (pg_name (i := 2) nd rfl (Or.inl rfl)) (pgs_cons (pg_name (i := 3) nd rfl (Or.inl rfl)) pgs_nil)))) (fun _ _ _ _ _ => by exact pts_nil) (fun _ _ _ _ _ => by exact (pe_op op_add (pv 2) (pv 3)))) (pa_cons (pe_lc (own := [("_law_x", 2), ("_law_y", 3)]) (g := (gTup K 2 (gCons (gName 2) (gCons (gName 3) gNil)))) rfl nd (show PI _ _ _ (RZ.iZipA K _) from RZ.pi_zipA (by rfl) T.z_zip (pa_cons (pe_ix (show IxR _ (rIxT K) from ix_tup) (pv 0) pe_int (fun _ _ => rfl)) (pa_cons (pe_ix (show IxR _ (rIxT K) from ix_tup) (pv 1) pe_int (fun _ _ => rfl)) pa_nil))) (blkOk_by (own := [("_law_x", 2), ("_law_y", 3)]) (N := N_l_added) (sc := defScope s_l_added) (by decide +kernel)) (fun _ _ _ _ _ => by exact (pg_tup rfl (pgs_cons (pg_name (i := 2) nd rfl (Or.inl rfl)) (pgs_cons (pg_name (i := 3) nd rfl (Or.inl rfl)) pgs_nil)))) (fun _ _ _ _ _ => by exact pts_nil) (fun _ _ _ _ _ => by exact (pe_op op_and (pe_op op_add (pv 2) (pv 3)) pe_int))) pa_nil))))), ?_⟩
  refine ⟨_, rfl, _, _, _, _, rfl, rfl, SqT.of e1, rfl, _, rfl, _, _, _, _, rfl, rfl, SqT.of g1, rfl, a1, b1, _, _, rfl, .inl ⟨SqL.of e2, SqL.of g2, fun D hD => ?_⟩⟩
  refine lc_zipL (f := fun a b => a + b) (SqL.of e2) (SqL.of g2) (by rw [ox.l1, oy.l1]) (by rw [ox.l1]; decide) hD (fun u v => rfl) (fun u v H1 k _ _ hk => ⟨_, rfl, _, rfl, u, v, rfl, rfl, hk⟩) fun H1 s1 hD1 => ?_
  refine ⟨_, rfl, _, _, _, _, rfl, rfl, SqT.of (s1 _ _ e1), rfl, _, rfl, _, _, _, _, rfl, rfl, SqT.of (s1 _ _ g1), rfl, a2, b2, _, _, rfl, .inl ⟨SqL.of (s1 _ _ e3), SqL.of (s1 _ _ g3), fun D2 hD2 => ?_⟩⟩
  refine lc_zipL (f := fun a b => (a + b).fmod 2) (SqL.of (s1 _ _ e3)) (SqL.of (s1 _ _ g3)) (by rw [ox.l2, oy.l2]) (by rw [ox.l2]; decide) hD2 (fun u v => rfl) (fun u v H1 k _ _ hk => ⟨_, rfl, _, rfl, u, v, rfl, rfl, _, _, rfl, rfl, by show k (.int (Builtin.bitAnd (u + v) 1)) _; rw [and1]; exact hk⟩) fun H2 s2 hD3 => ?_
  exact LW.mk2 (wd := addW x y) (addW_ok ox oy) (s2 _ _ hD1) hD3 fun t H' s3 ht => q t H' ((s1.trans s2).trans s3) ht
theorem ok_l_none (T : Tx K mg) : FnOk P w K mg base CX0 1 T.f_l_none T.d_l_none [] (fun vs H Q _ => vs = [] ∧ ∀ t H', Same H H' → LW H' t zeroW → Q (.ref t) H') := by
  refine T.F_l_none.ok sc_l_none (fun vs H Q E h => ?_) (fun cdv A outer s H vs Q E hr h => ?_)
  · obtain ⟨rfl, _⟩ := h
    rfl
  obtain ⟨rfl, q⟩ := h
  refine ⟨_, (pss_one (ps_ret (pe_tup (pa_cons (pe_op op_rep (pe_lst (pa_cons pe_int pa_nil)) pe_int) (pa_cons (pe_op op_rep (pe_lst (pa_cons pe_int pa_nil)) pe_int) pa_nil))))), ?_⟩
  refine ⟨(by show 1 ≤ sizeLine; decide), fun p hp => ⟨p, _, _, rfl, rfl, upd_same, by decide, by decide, by decide, fun a ha => ?_⟩⟩
  have s1 := (Same.new (o := .lst [V.int 0]) hp).trans (Same.new (o := .lst (zeroW.1.map V.int)) ha)
  refine ⟨(by show 1 ≤ sizeLine; decide), fun p2 hp2 => ⟨p2, _, _, rfl, rfl, upd_same, by decide, by decide, by decide, fun b hb => ?_⟩⟩
  have s2 := (Same.new (o := .lst [V.int 0]) hp2).trans (Same.new (o := .lst (zeroW.2.map V.int)) hb)
  exact LW.mk2 (wd := zeroW) zeroW_ok (s2 _ _ upd_same) upd_same fun t H' s3 ht => q t H' ((s1.trans s2).trans s3) ht
/-- what is seen of a wedge: a tuple of two tuples -/
def Seen (K : PySem.W.Frag) (w : W2) (v : V) (H : Hp) : Prop := ∃ t a b, v = .ref t ∧ H t = some (.tup [.ref a, .ref b]) ∧ SqT K H a (w.1.map V.int) ∧ SqT K H b (w.2.map V.int)
theorem Seen.same {wd : W2} {v : V} {H H' : Hp} (s : Same H H') (h : Seen K wd v H) : Seen K wd v H' := by
  obtain ⟨t, a, b, rfl, h1, h2, h3⟩ := h
  exact ⟨t, a, b, rfl, s _ _ h1, seqT s h2, seqT s h3⟩
theorem Seen.lst {wd : W2} {v : V} {H : Hp} {D : Addr} {zs zs' : List V} (hD : H D = some (.lst zs)) (h : Seen K wd v H) : Seen K wd v (upd H D (.lst zs')) := by
  obtain ⟨t, a, b, rfl, h1, h2, h3⟩ := h
  exact ⟨t, a, b, rfl, by rw [upd_ne (ne_of h1 hD (by intro z; cases z))]; exact h1, seqT_lst hD h2, seqT_lst hD h3⟩
def spSeen (K : PySem.W.Frag) (C : Addr) : Sp := fun vs H Q _ => ∃ (p : Addr) (x : W2), vs = [.ref p] ∧ WAt K C H p x ∧ ∀ v H', Same H H' → Seen K x v H' → Q v H'
theorem ok_l_seen (T : Tx K mg) : FnOk P w K mg base CX0 2 T.f_l_wedge_seen T.d_l_wedge_seen ["_law_w"] (spSeen K T.C_Wedge) := by
  have G_Wedge_pairs := ok_pairs (P := P) (w := w) (base := base) T
  have G_Wedge_bits := ok_bits (P := P) (w := w) (base := base) T
  refine T.F_l_wedge_seen.ok sc_l_wedge_seen (fun vs H Q E h => ?_) (fun cdv A outer s H vs Q E hr h => ?_)
  · obtain ⟨p, x, rfl, _⟩ := h
    rfl
  obtain ⟨p, x, rfl, hx, q⟩ := h
  obtain ⟨dx, t1, t2, e1, e2, e3⟩ := hx.ex
  refine ⟨_, (pss_one (ps_ret (pe_tup (pa_cons (pe_meth0 (pv 0) T.c_Wedge T.a_Wedge_pairs G_Wedge_pairs hr T.b_Wedge_pairs .nil pass0) (pa_cons (pe_meth0 (pv 0) T.c_Wedge T.a_Wedge_bits G_Wedge_bits hr T.b_Wedge_bits .nil pass0) pa_nil))))), ?_⟩
  refine ⟨_, rfl, p, _, _, rfl, e1, wf_no _ _ (by decide +kernel) (by decide +kernel), p, x, rfl, hx, fun a ha => ?_⟩
  refine ⟨_, rfl, p, _, _, rfl, e1, wf_no _ _ (by decide +kernel) (by decide +kernel), p, x, rfl, hx, fun b hb => ?_⟩
  refine ⟨(by show 2 ≤ sizeLine; decide), fun t ht => ?_⟩
  have s := Same.new (o := .tup [V.ref a, V.ref b]) ht
  exact q _ _ s ⟨t, a, b, rfl, upd_same, seqT s ha, seqT s hb⟩
def spDue (K : PySem.W.Frag) : Sp := fun vs H Q _ => ∃ (p : Addr) (x : W2), vs = [.ref p] ∧ LW H p x ∧ ∀ v H', Same H H' → Seen K x v H' → Q v H'
theorem ok_l_due (T : Tx K mg) : FnOk P w K mg base CX0 1 T.f_l_wedge_due T.d_l_wedge_due ["_law_w"] (spDue K) := by
  refine T.F_l_wedge_due.ok sc_l_wedge_due (fun vs H Q E h => ?_) (fun cdv A outer s H vs Q E hr h => ?_)
  · obtain ⟨p, x, rfl, _⟩ := h
    rfl
  obtain ⟨p, x, rfl, ⟨⟨a1, a2, e1, e2, e3⟩, ox⟩, q⟩ := h
  refine ⟨_, (pss_one (ps_ret (pe_tup (pa_cons (pe_callTy (show CallR _ _ (rTup1 K) from call_tup1) (by rfl) T.z_tuple (by decide +kernel) (pa_cons (pe_ix (show IxR _ (rIxT K) from ix_tup) (pv 0) pe_int (fun _ _ => rfl)) pa_nil)) (pa_cons (pe_callTy (show CallR _ _ (rTup1 K) from call_tup1) (by rfl) T.z_tuple (by decide +kernel) (pa_cons (pe_ix (show IxR _ (rIxT K) from ix_tup) (pv 0) pe_int (fun _ _ => rfl)) pa_nil)) pa_nil))))), ?_⟩
  refine ⟨_, rfl, _, _, _, _, rfl, rfl, SqT.of e1, rfl, a1, _, rfl, .inl (SqL.of e2), fun a H1 s1 ha => ?_⟩
  refine ⟨_, rfl, _, _, _, _, rfl, rfl, SqT.of (s1 _ _ e1), rfl, a2, _, rfl, .inl (SqL.of (s1 _ _ e3)), fun b H2 s2 hb => ?_⟩
  refine ⟨(by show 2 ≤ sizeLine; decide), fun t ht => ?_⟩
  have s := Same.new (o := .tup [V.ref a, V.ref b]) ht
  exact q _ _ ((s1.trans s2).trans s) ⟨t, a, b, rfl, upd_same, seqT s (seqT s2 ha), seqT s hb⟩
def Bnd (x : W2) : Prop := ∀ u ∈ x.1, u.natAbs < 2 ^ 500
theorem mul_bnd {k u : Int} (h1 : k.natAbs < 2 ^ 500) (h2 : u.natAbs < 2 ^ 500) : CMulW k u := wide_mul h1 h2 (by decide) (by decide) (by decide)
theorem bit_bnd {b : Int} (h : Bit b) : b.natAbs < 2 ^ 500 := by
  rcases h with rfl | rfl <;> decide
end
end TL.W
namespace TL.W
open TL
open PySem L2

/-! ### steps of a reading -/
local macro_rules | `(tactic| walk_at "hp") => `(tactic| first | assumption | exact upd_same | (refine (upd_ne (by first | assumption | (exact Ne.symm (by assumption)))).trans ?_; walk_at "hp"))
local macro_rules | `(tactic| walk_at "ok") => `(tactic| first | (exact Or.inr ⟨by decide, by decide⟩) | (exact ⟨by decide, by decide⟩) | (exact ⟨by decide, by decide, by decide⟩) | (show _ ≠ _; omega) | (show _ ≠ _; decide) | (exact Or.inl ⟨by omega, by omega⟩) | decide)
local macro_rules | `(tactic| walk_at "sq") => `(tactic| first | assumption | exact SqL.of (by walk_at "hp") | exact SqT.of (by walk_at "hp"))
local macro_rules | `(tactic| walk_at "ty") => `(tactic| first | refine ⟨_, _, Value.type "int", Value.type "list", false, rfl, ClsV.ty _, TyX.base (TyOf.int _), kt_int_list, ?_⟩ | refine ⟨_, _, Value.type "bool", Value.type "list", false, rfl, ClsV.ty _, TyX.base (TyOf.bl _), kt_bool_list, ?_⟩ | refine ⟨_, _, Value.type "str", Value.type "list", false, rfl, ClsV.ty _, TyX.base (TyOf.str _), kt_str_list, ?_⟩ | refine ⟨_, _, Value.type "NoneType", Value.type "list", false, rfl, ClsV.ty _, TyX.base TyOf.non, kt_NoneType_list, ?_⟩ | refine ⟨_, _, Value.type "list", Value.type "list", true, rfl, ClsV.ty _, tyx_L (by walk_at "sq"), kt_list_list, ?_⟩ | refine ⟨_, _, Value.type "tuple", Value.type "list", false, rfl, ClsV.ty _, tyx_T (by walk_at "sq"), kt_tuple_list, ?_⟩ | refine ⟨_, _, Value.type "int", Value.type "tuple", false, rfl, ClsV.ty _, TyX.base (TyOf.int _), kt_int_tuple, ?_⟩ | refine ⟨_, _, Value.type "bool", Value.type "tuple", false, rfl, ClsV.ty _, TyX.base (TyOf.bl _), kt_bool_tuple, ?_⟩ | refine ⟨_, _, Value.type "str", Value.type "tuple", false, rfl, ClsV.ty _, TyX.base (TyOf.str _), kt_str_tuple, ?_⟩ | refine ⟨_, _, Value.type "NoneType", Value.type "tuple", false, rfl, ClsV.ty _, TyX.base TyOf.non, kt_NoneType_tuple, ?_⟩ | refine ⟨_, _, Value.type "list", Value.type "tuple", false, rfl, ClsV.ty _, tyx_L (by walk_at "sq"), kt_list_tuple, ?_⟩ | refine ⟨_, _, Value.type "tuple", Value.type "tuple", true, rfl, ClsV.ty _, tyx_T (by walk_at "sq"), kt_tuple_tuple, ?_⟩ | refine ⟨_, _, Value.type "int", Value.type "bool", false, rfl, ClsV.ty _, TyX.base (TyOf.int _), kt_int_bool, ?_⟩ | refine ⟨_, _, Value.type "bool", Value.type "bool", true, rfl, ClsV.ty _, TyX.base (TyOf.bl _), kt_bool_bool, ?_⟩ | refine ⟨_, _, Value.type "str", Value.type "bool", false, rfl, ClsV.ty _, TyX.base (TyOf.str _), kt_str_bool, ?_⟩ | refine ⟨_, _, Value.type "NoneType", Value.type "bool", false, rfl, ClsV.ty _, TyX.base TyOf.non, kt_NoneType_bool, ?_⟩ | refine ⟨_, _, Value.type "list", Value.type "bool", false, rfl, ClsV.ty _, tyx_L (by walk_at "sq"), kt_list_bool, ?_⟩ | refine ⟨_, _, Value.type "tuple", Value.type "bool", false, rfl, ClsV.ty _, tyx_T (by walk_at "sq"), kt_tuple_bool, ?_⟩ | refine ⟨_, _, Value.type "int", Value.type "int", true, rfl, ClsV.ty _, TyX.base (TyOf.int _), kt_int_int, ?_⟩ | refine ⟨_, _, Value.type "bool", Value.type "int", true, rfl, ClsV.ty _, TyX.base (TyOf.bl _), kt_bool_int, ?_⟩ | refine ⟨_, _, Value.type "str", Value.type "int", false, rfl, ClsV.ty _, TyX.base (TyOf.str _), kt_str_int, ?_⟩ | refine ⟨_, _, Value.type "NoneType", Value.type "int", false, rfl, ClsV.ty _, TyX.base TyOf.non, kt_NoneType_int, ?_⟩ | refine ⟨_, _, Value.type "list", Value.type "int", false, rfl, ClsV.ty _, tyx_L (by walk_at "sq"), kt_list_int, ?_⟩ | refine ⟨_, _, Value.type "tuple", Value.type "int", false, rfl, ClsV.ty _, tyx_T (by walk_at "sq"), kt_tuple_int, ?_⟩ | refine ⟨_, _, Value.type "int", Value.type "str", false, rfl, ClsV.ty _, TyX.base (TyOf.int _), kt_int_str, ?_⟩ | refine ⟨_, _, Value.type "bool", Value.type "str", false, rfl, ClsV.ty _, TyX.base (TyOf.bl _), kt_bool_str, ?_⟩ | refine ⟨_, _, Value.type "str", Value.type "str", true, rfl, ClsV.ty _, TyX.base (TyOf.str _), kt_str_str, ?_⟩ | refine ⟨_, _, Value.type "NoneType", Value.type "str", false, rfl, ClsV.ty _, TyX.base TyOf.non, kt_NoneType_str, ?_⟩ | refine ⟨_, _, Value.type "list", Value.type "str", false, rfl, ClsV.ty _, tyx_L (by walk_at "sq"), kt_list_str, ?_⟩ | refine ⟨_, _, Value.type "tuple", Value.type "str", false, rfl, ClsV.ty _, tyx_T (by walk_at "sq"), kt_tuple_str, ?_⟩)
local macro_rules | `(tactic| walk_at "go1") => `(tactic| first
  | (refine ⟨_, rfl, ?_⟩)
  | (refine ⟨_, _, rfl, rfl, ?_⟩)
  | (refine ⟨_, _, _, _, rfl, rfl, SqL.of (by walk_at "hp"), rfl, ?_⟩)
  | (refine Or.inl ⟨_, rfl, ?_⟩)
  | (refine ⟨rfl, ?_⟩)
  | (refine ⟨_, _, rfl, .inl (SqL.of (by walk_at "hp")), ?_⟩)
  | (refine ⟨_, _, rfl, Or.inl (by assumption), ?_⟩)
  | (refine ⟨_, _, rfl, Or.inr (by assumption), ?_⟩)
  | (refine ⟨(by walk_at "ok"), ?_⟩)
  | (refine ⟨_, _, _, _, rfl, rfl, (by walk_at "hp"), rfl, ?_⟩))
local macro_rules | `(tactic| walk_at "go") => `(tactic| repeat (walk_at "go1"))
local macro_rules | `(tactic| walk_at "gt") => `(tactic| repeat (first | walk_at "go1" | walk_at "ty"))

section
variable {P : Program} {w : World} {K : PySem.W.Frag} {mg : Str → Option Value} {base : Heap}
theorem deq_ints {H : Hp} {ns : List Int} {a b : Addr} {n : Nat} (h1 : SqT K H a (ns.map V.int)) (h2 : SqT K H b (ns.map V.int)) (hz : ns.length ≤ 100000) : DEq K H (n + 1) (.ref a) (.ref b) :=
  .tup h1 h2 (by rw [len_map]; exact hz) rfl fun i x y hx hy => by
    obtain ⟨u, hu, rfl⟩ := int_at hx
    obtain ⟨v, hv, rfl⟩ := int_at hy
    rw [hu] at hv
    cases hv
    exact .int u
theorem seen_deq {H : Hp} {x : W2} {v v' : V} (ok : WOk x) (h : Seen K x v H) (h' : Seen K x v' H) : DEq K H 2 v v' := by
  obtain ⟨t, a, b, rfl, e1, e2, e3⟩ := h
  obtain ⟨t', a', b', rfl, g1, g2, g3⟩ := h'
  refine .tup (SqT.of e1) (SqT.of g1) (by show 2 ≤ 100000; decide) rfl fun i x' y' hx hy => ?_
  match i, hx, hy with
  | 0, hx, hy =>
    cases hx
    cases hy
    exact deq_ints e2 g2 (by rw [ok.l1]; decide)
  | 1, hx, hy =>
    cases hx
    cases hy
    exact deq_ints e3 g3 (by rw [ok.l2]; decide)
  | n + 2, hx, hy => cases hx
def Wds (K : PySem.W.Frag) (C : Addr) (H : Hp) (ps : List V) (ws : List W2) : Prop := ps.length = ws.length ∧ ∀ (i : Nat) p, ps[i]? = some p → ∃ t wd, p = .ref t ∧ ws[i]? = some wd ∧ WAt K C H t wd
def Lws (H : Hp) (ps : List V) (ws : List W2) : Prop := ps.length = ws.length ∧ ∀ (i : Nat) p, ps[i]? = some p → ∃ t wd, p = .ref t ∧ ws[i]? = some wd ∧ LW H t wd
def spAllSo (K : PySem.W.Frag) (C : Addr) : Sp := fun vs H Q _ => ∃ (a b : Addr) (ps qs : List V) (ws : List W2), vs = [.ref a, .ref b] ∧ SqL K H a ps ∧ SqL K H b qs ∧ ws.length ≤ 1000 ∧ Wds K C H ps ws ∧ Lws H qs ws ∧ ∀ H', Same H H' → Q (.bl true) H'
theorem ok_l_all_so (T : Tx K mg) : FnOk P w K mg base CX0 5 T.f_l_all_so T.d_l_all_so ["_law_told", "_law_dues"] (spAllSo K T.C_Wedge) := by
  have G_l_wedge_seen := ok_l_seen (P := P) (w := w) (base := base) T
  have G_l_wedge_due := ok_l_due (P := P) (w := w) (base := base) T
  have G_l_same := ok_same (P := P) (w := w) (base := base) T 4
  refine T.F_l_all_so.ok sc_l_all_so (fun vs H Q E h => ?_) (fun cdv A outer s H vs Q E hr h => ?_)
  · obtain ⟨a, b, ps, qs, ws, rfl, _⟩ := h
    rfl
  obtain ⟨a, b, ps, qs, ws, rfl, ha, hb, hz, ⟨hp1, hp2⟩, ⟨hq1, hq2⟩, q⟩ := h
  have nd := sc_l_all_so.nd
  refine ⟨_, (pss_one (ps_ret (pe_call G_l_same hr (by rfl) T.m_l_same T.F_l_same.kp T.b_l_same .nil pass0 (pa_cons (pe_lc (own := [("_law_w", 2)]) (g := (gName 2)) rfl nd (show PI _ _ _ (iList K _) from pi_list (pv 0)) (blkOk_by (own := [("_law_w", 2)]) (N := N_l_all_so) (sc := defScope s_l_all_so) (by decide +kernel)) (fun _ _ _ _ _ => by exact (pg_name (i := 2) nd rfl (Or.inl rfl))) (fun _ _ _ _ _ => by exact pts_nil) (fun _ _ _ _ _ => by exact (pe_call G_l_wedge_seen (hr.mono (by decide)) (by rfl) T.m_l_wedge_seen T.F_l_wedge_seen.kp T.b_l_wedge_seen .nil pass0 (pa_cons (pv 2) pa_nil)))) (pa_cons (pe_lc (own := [("_law_w", 2)]) (g := (gName 2)) rfl nd (show PI _ _ _ (iList K _) from pi_list (pv 1)) (blkOk_by (own := [("_law_w", 2)]) (N := N_l_all_so) (sc := defScope s_l_all_so) (by decide +kernel)) (fun _ _ _ _ _ => by exact (pg_name (i := 2) nd rfl (Or.inl rfl))) (fun _ _ _ _ _ => by exact pts_nil) (fun _ _ _ _ _ => by exact (pe_call G_l_wedge_due (hr.mono (by decide)) (by rfl) T.m_l_wedge_due T.F_l_wedge_due.kp T.b_l_wedge_due .nil pass0 (pa_cons (pv 2) pa_nil)))) pa_nil))))), ?_⟩
  refine ⟨_, rfl, a, rfl, ⟨_, ha⟩, fun D hD => ?_⟩
  refine lcs (walk_list (K := K) (a := a) (xs := ps)) (fun i y H => ∃ wd, ws[i]? = some wd ∧ WOk wd ∧ Seen K wd y H) (fun i y H1 H2 s h => ?_) (fun i y H1 zs zs' h1 h => ?_) (by omega) hD (fun H' s => s.seq ha) ?_ ?_
  · obtain ⟨wd, h1, h2, h3⟩ := h
    exact ⟨wd, h1, h2, h3.same s⟩
  · obtain ⟨wd, e1, e2, h3⟩ := h
    exact ⟨wd, e1, e2, h3.lst h1⟩
  · rintro i x H1 H2 hi s1 ⟨rfl, hx⟩ k hk
    obtain ⟨t, wd, rfl, hw, hW⟩ := hp2 i x hx
    exact ⟨rfl, _, rfl, t, wd, rfl, hW.same s1, fun v H4 s4 hs => hk v H4 s4 ⟨wd, hw, hW.ok, hs⟩⟩
  intro ys H1 hl1 hys s1 hD1
  refine ⟨_, rfl, b, rfl, ⟨_, s1.seq hb⟩, fun D2 hD2 => ?_⟩
  refine lcs (walk_list (K := K) (a := b) (xs := qs)) (fun i y H => ∃ wd, ws[i]? = some wd ∧ WOk wd ∧ Seen K wd y H) (fun i y H1 H2 s h => ?_) (fun i y H1 zs zs' h1 h => ?_) (by omega) hD2 (fun H' s => s.seq (s1.seq hb)) ?_ ?_
  · obtain ⟨wd, h1, h2, h3⟩ := h
    exact ⟨wd, h1, h2, h3.same s⟩
  · obtain ⟨wd, e1, e2, h3⟩ := h
    exact ⟨wd, e1, e2, h3.lst h1⟩
  · rintro i x H1 H2 hi s2 ⟨rfl, hx⟩ k hk
    obtain ⟨t, wd, rfl, hw, hW⟩ := hq2 i x hx
    exact ⟨rfl, _, rfl, t, wd, rfl, (hW.same s1).same s2, fun v H4 s4 hs => hk v H4 s4 ⟨wd, hw, hW.ok, hs⟩⟩
  intro zs H2 hl2 hzs s2 hD3
  refine ⟨3, _, _, rfl, by decide, .lst (SqL.of (s2 _ _ hD1)) (SqL.of hD3) (by omega) (by omega) fun i x y hx hy => ?_, fun H' s3 => q H' ((s1.trans s2).trans s3)⟩
  obtain ⟨wd, e1, e2, e3⟩ := hys i x hx
  obtain ⟨wd', g1, g2, g3⟩ := hzs i y hy
  rw [e1] at g1
  cases g1
  exact seen_deq e2 (e3.same s2) g3
end
end TL.W
namespace TL.W
open TL
open PySem L2
/-! ### the sums of wedges -/
def Bw (e : Nat) (x : W2) : Prop := ∀ u ∈ x.1, u.natAbs < 2 ^ e
theorem Bw.mono {e f : Nat} {x : W2} (h : Bw e x) (hf : e ≤ f) : Bw f x := fun u hu => Nat.lt_of_lt_of_le (h u hu) (Nat.pow_le_pow_right (by decide) hf)
theorem bw_add {e : Nat} {x y : W2} (h : Bw e x) (h' : Bw e y) : Bw (e + 1) (addW x y) := fun u hu => by
  obtain ⟨i, hi, rfl⟩ := List.mem_iff_getElem.mp (show u ∈ List.zipWith (· + ·) x.1 y.1 from hu)
  rw [List.getElem_zipWith]
  rw [List.length_zipWith] at hi
  have h1 := h _ (List.getElem_mem (show i < x.1.length by omega))
  have h2 := h' _ (List.getElem_mem (show i < y.1.length by omega))
  rw [Nat.pow_succ]
  omega
theorem bw_mul {e f : Nat} {k : Int} {x : W2} (hk : k.natAbs < 2 ^ f) (h : Bw e x) : Bw (f + e) (mulW k x) := fun u hu => by
  obtain ⟨v, hv, rfl⟩ := List.mem_map.mp (show u ∈ x.1.map (k * ·) from hu)
  exact wide_lt hk (h v hv)
theorem bw_neg {e : Nat} {x : W2} (h : Bw e x) : Bw e (negW x) := fun u hu => by
  obtain ⟨v, hv, rfl⟩ := List.mem_map.mp (show u ∈ x.1.map (- ·) from hu)
  rw [Int.natAbs_neg]
  exact h v hv
theorem bw_bnd {e : Nat} {x : W2} (h : Bw e x) (he : e ≤ 500) : Bnd x := h.mono he
theorem bw_small {e : Nat} {k : Int} {x : W2} (hk : k.natAbs < 2 ^ 500) (h : Bw e x) (he : e ≤ 500) : Small k x := fun u hu => mul_bnd hk (bw_bnd h he u hu)
theorem zip_comm {f : Int → Int → Int} (hf : ∀ a b, f a b = f b a) (xs ys : List Int) : List.zipWith f xs ys = List.zipWith f ys xs := by
  apply List.ext_getElem
  · simp [Nat.min_comm]
  · intro i h1 h2
    simp [hf]
theorem add_comm (x y : W2) : addW y x = addW x y := by
  unfold addW
  rw [zip_comm (fun a b => Int.add_comm a b) y.1 x.1, zip_comm (f := fun a b => (a + b).fmod 2) (fun a b => by rw [Int.add_comm]) y.2 x.2]
theorem sub_add (x y : W2) : subW x y = addW x (negW y) := by
  unfold subW addW negW
  refine Prod.ext ?_ rfl
  apply List.ext_getElem
  · simp
  · intro i h1 h2
    simp
    omega
theorem fm2 (a : Int) : a.fmod 2 = a % 2 := Int.fmod_eq_emod_of_nonneg _ (by decide)
theorem add_assoc (x y z : W2) : addW x (addW y z) = addW (addW x y) z := by
  unfold addW
  refine Prod.ext ?_ ?_
  · apply List.ext_getElem
    · simp [Nat.min_assoc]
    · intro i h1 h2
      simp
      omega
  · apply List.ext_getElem
    · simp [Nat.min_assoc]
    · intro i h1 h2
      simp [fm2]
      omega
theorem bit_at {x : W2} (h : WOk x) {i : Nat} (hi : i < x.2.length) : x.2[i] = 0 ∨ x.2[i] = 1 := h.bit _ (List.getElem_mem hi)
theorem sub_self {x : W2} (h : WOk x) : subW x x = zeroW := by
  unfold subW zeroW
  refine Prod.ext ?_ ?_
  · apply List.ext_getElem
    · simp [-List.reduceReplicate, h.l1]
    · intro i h1 h2
      simp [-List.reduceReplicate]
  · apply List.ext_getElem
    · simp [-List.reduceReplicate, h.l2]
    · intro i h1 h2
      have := bit_at h (i := i) (by simpa using h1)
      simp [-List.reduceReplicate, fm2]
      omega
theorem add_zero {x : W2} (h : WOk x) : addW x zeroW = x := by
  unfold addW zeroW
  refine Prod.ext ?_ ?_
  · apply List.ext_getElem
    · simp [-List.reduceReplicate, h.l1]
    · intro i h1 h2
      simp [-List.reduceReplicate]
  · apply List.ext_getElem
    · simp [-List.reduceReplicate, h.l2]
    · intro i h1 h2
      have := bit_at h h2
      simp [-List.reduceReplicate, fm2]
      omega
theorem zero_sub {x : W2} (h : WOk x) : subW zeroW x = negW x := by
  unfold subW negW zeroW
  refine Prod.ext ?_ ?_
  · apply List.ext_getElem
    · simp [-List.reduceReplicate, h.l1]
    · intro i h1 h2
      simp [-List.reduceReplicate]
  · apply List.ext_getElem
    · simp [-List.reduceReplicate, h.l2]
    · intro i h1 h2
      have := bit_at h h2
      simp [-List.reduceReplicate, fm2]
      omega
theorem neg_neg (x : W2) : negW (negW x) = x := by
  unfold negW
  refine Prod.ext ?_ rfl
  simp [Function.comp_def]
theorem bitmod (m b : Int) (hb : b = 0 ∨ b = 1) : (m * b) % 2 = if b = 0 then 0 else m % 2 := by
  rcases hb with rfl | rfl <;> simp
theorem mul_add {x y : W2} (m : Int) (hx : WOk x) (hy : WOk y) : addW (mulW m x) (mulW m y) = mulW m (addW x y) := by
  unfold addW mulW
  refine Prod.ext ?_ ?_
  · apply List.ext_getElem
    · simp
    · intro i h1 h2
      simp [Int.mul_add]
  · apply List.ext_getElem
    · simp
    · intro i h1 h2
      simp only [List.length_map, List.length_zipWith] at h2
      have a := bit_at hx (i := i) (by omega)
      have b := bit_at hy (i := i) (by omega)
      simp only [List.getElem_zipWith, List.getElem_map, fm2]
      rcases a with a | a <;> rcases b with b | b <;> rw [a, b] <;> simp <;> omega
theorem add_mul {x : W2} (n m : Int) (hx : WOk x) : addW (mulW n x) (mulW m x) = mulW (n + m) x := by
  unfold addW mulW
  refine Prod.ext ?_ ?_
  · apply List.ext_getElem
    · simp
    · intro i h1 h2
      simp [Int.add_mul]
  · apply List.ext_getElem
    · simp
    · intro i h1 h2
      simp only [List.length_map] at h2
      have a := bit_at hx (i := i) (by omega)
      simp only [List.getElem_zipWith, List.getElem_map, fm2]
      rcases a with a | a <;> rw [a] <;> simp
theorem mul_mul {x : W2} (n m : Int) (hx : WOk x) : mulW m (mulW n x) = mulW (n * m) x := by
  unfold mulW
  refine Prod.ext ?_ ?_
  · apply List.ext_getElem
    · simp
    · intro i h1 h2
      simp [Int.mul_comm n m, Int.mul_assoc]
  · apply List.ext_getElem
    · simp
    · intro i h1 h2
      simp only [List.length_map] at h2
      have a := bit_at hx (i := i) (by omega)
      simp only [List.getElem_map, fm2]
      rcases a with a | a <;> rw [a] <;> simp [Int.mul_emod, Int.mul_comm n m]
theorem mul_zero (n : Int) : mulW n zeroW = zeroW := by
  unfold mulW zeroW
  refine Prod.ext ?_ ?_ <;> simp
theorem zero_mul {x : W2} (h : WOk x) : mulW 0 x = zeroW := by
  unfold mulW zeroW
  refine Prod.ext ?_ ?_
  · apply List.ext_getElem
    · simp [-List.reduceReplicate, h.l1]
    · intro i h1 h2
      simp [-List.reduceReplicate]
  · apply List.ext_getElem
    · simp [-List.reduceReplicate, h.l2]
    · intro i h1 h2
      simp [-List.reduceReplicate]
theorem two_mul {x : W2} (h : WOk x) : mulW 2 x = addW x x := by
  unfold mulW addW
  refine Prod.ext ?_ ?_
  · apply List.ext_getElem
    · simp
    · intro i h1 h2
      simp
      omega
  · apply List.ext_getElem
    · simp
    · intro i h1 h2
      simp [fm2]
      omega
theorem all_zero : ∀ (ns : List Int) (n : Nat), ns.length = n → (ns.any (fun k => k != 0) = !decide (ns = List.replicate n 0))
  | [], n, h => by
    subst h
    simp
  | a :: ns, n, h => by
    subst h
    have ih := all_zero ns ns.length rfl
    simp only [List.any_cons, ih, List.length_cons, List.replicate_succ, List.cons.injEq]
    by_cases h1 : a = 0 <;> simp [h1]
theorem bool_zero {x : W2} (h : WOk x) : boolW x = !decide (x = zeroW) := by
  unfold boolW
  rw [all_zero _ _ h.l1, all_zero _ _ h.l2, dec_two]
  exact (Bool.not_and _ _).symm
theorem neg_same {x : W2} (h : WOk x) : decide (negW x = x) = decide (x.1 = List.replicate 15 0) := by
  rw [dec_two]
  have e2 : (negW x).2 = x.2 := rfl
  rw [e2, decide_eq_true (rfl : x.2 = x.2), Bool.and_true]
  congr 1
  apply propext
  constructor
  · intro e
    apply List.ext_getElem
    · simp [-List.reduceReplicate, h.l1]
    · intro i h1 h2
      have : (x.1.map (- ·))[i]? = x.1[i]? := by rw [show x.1.map (- ·) = x.1 from e]
      rw [List.getElem?_map, List.getElem?_eq_getElem h1] at this
      simp [-List.reduceReplicate] at this
      simp [-List.reduceReplicate]
      omega
  · intro e
    show x.1.map (- ·) = x.1
    rw [e]
    simp [-List.reduceReplicate]
end TL.W
namespace TL
open PySem PySem.Spec PyProof.Rows L2 PySem.W
/-! ### enumerate over a tuple -/
set_option maxHeartbeats 1000000 in
theorem enumT_new (t : Addr) (its : Array Value) : Meets (Builtin.«enumerate.__new__» ⟨[.type "enumerate", .ref t], []⟩) (fun _ R s => s.heap.IsTuple t its ∧
    R (.ok (.ret (.ref (s.heap.objs.size + 1)))) { s with heap := (s.heap.push { cls := .type "tuple_iterator", data := .fields #[.ref t, .int 0 0] }).push { cls := .type "enumerate", data := .fields #[.none, .bool false, .ref s.heap.objs.size, rawInt 0, .none, .none] } }) :=
  .of_wp fun prog w A R s h => by
    obtain ⟨h0, g, d, tk, os⟩ := s
    obtain ⟨hT, h⟩ := h
    have hz : (h0.push { cls := .type "tuple_iterator", data := .fields #[.ref t, .int 0 0] }).objs.size = h0.objs.size + 1 := Heap.size_push ..
    rw [← hz] at h
    have se := sub_enumerate
    have go : ∀ {A2 : Around} {E2 Q2 : Value → Shared → Prop}, Q2 (.ref h0.objs.size) ⟨h0.push { cls := .type "tuple_iterator", data := .fields #[.ref t, .int 0 0] }, g, d, tk, os⟩ → wpAny (model prog w) A2 (pyIter (.ref t)) Q2 E2 ⟨h0, g, d, tk, os⟩ :=
      fun k => wpAny_pyIter_tuple hT k
    wp_walk using go
    refine wpAny_stack_any fun _ => wpAny_pure ?_
    split
    · rename_i c _ _ _ _ _
      rcases hb : (c == Value.type "enumerate") <;> wp_walk using go <;> exact ⟨_, rfl, h⟩
    · wp_walk using go
      exact ⟨_, rfl, h⟩
theorem enumT_call {prog : Program} {w : World} {A : Around} {E Q : Value → Shared → Prop} {s : Shared} {t : Addr} {its : Array Value} (hT : s.heap.IsTuple t its)
    (k : ∀ h', IsEnum h' (s.heap.objs.size + 1) s.heap.objs.size 0 .none → h'.IsTupleIter s.heap.objs.size t 0 → (∀ b o, s.heap.get? b = some o → h'.get? b = some o) → Q (.ref (s.heap.objs.size + 1)) { s with heap := h' }) :
    wpAny (model prog w) A (call (.type "enumerate") [.ref t]) Q E s := by
  have hz : (s.heap.push { cls := .type "tuple_iterator", data := .fields #[.ref t, .int 0 0] }).objs.size = s.heap.objs.size + 1 := Heap.size_push ..
  have he := Heap.get?_push_size (s.heap.push { cls := .type "tuple_iterator", data := .fields #[.ref t, .int 0 0] }) (o := { cls := .type "enumerate", data := .fields #[.none, .bool false, .ref s.heap.objs.size, rawInt 0, .none, .none] }) rfl
  rw [hz] at he
  refine callType_new F.called_enumerate (by decide) (F.typeCall_enumerate_1 _) (F.newCall_enumerate_1 _) (fun o => F.args_object_init_2 o _) F.entry_enumerate_new (enumT_new t its) ⟨hT, ?_⟩
  exact ⟨⟨_, he, rfl⟩, k _ he ⟨_, Heap.get?_push_of_some _ (Heap.get?_push_size _ rfl), rfl, rfl⟩ fun b o z => Heap.get?_push_of_some _ (Heap.get?_push_of_some _ z)⟩
def IteT (K : PySem.W.Frag) (a : Addr) : It :=
  ⟨fun i H => ∃ xs x, SqT K H a xs ∧ xs[i]? = some x, fun i H v H' => ∃ T x, v = .ref T ∧ H T = none ∧ H' = upd H T (.tup [.int (i : Nat), x]) ∧ ∀ xs, SqT K H a xs → xs[i]? = some x, fun i H => ∃ xs, SqT K H a xs ∧ xs.length ≤ i⟩
theorem cls_ne {h : Heap} {a b : Addr} {S T : String} (p : ∃ o, h.get? a = some o ∧ o.cls = .type S) (q : ∃ o, h.get? b = some o ∧ o.cls = .type T) (n : S ≠ T) : a ≠ b := by
  rintro rfl
  obtain ⟨o, e1, e2⟩ := p
  obtain ⟨o', e3, e4⟩ := q
  rw [e1] at e3
  cases e3
  rw [e2] at e4
  cases e4
  exact n rfl
theorem turn_enumT {P : Program} {w : World} {K : PySem.W.Frag} {elts : List Expr} {kk : Nat} {tp : Pos} (a e it : Addr) :
    Turn P w K (.Tuple elts kk tp) (IteT K a) [e, it] e (fun i h => (∃ z, IsEnum h e it ((i : Nat) : Int) z) ∧ h.IsTupleIter it a i ∧ e ≠ it) where
  mem := List.mem_cons_self ..
  obj := fun i h st b hb => by
    obtain ⟨⟨z, he⟩, ⟨o, ho, _, hd⟩, _⟩ := st
    simp only [List.mem_cons, List.not_mem_nil, or_false] at hb
    rcases hb with rfl | rfl
    · exact ⟨_, he, fun v q => nomatch q⟩
    · refine ⟨o, ho, fun v q => ?_⟩
      rw [hd] at q
      cases q
  keep := fun i h h' st k => let ⟨⟨z, he⟩, hi, n⟩ := st; ⟨⟨z, k e (by simp) _ he⟩, hi.at fun o q => k it (by simp) o q, n⟩
  item := by
    intro X hP hw hK hc i pins s σ H E I hf st hg
    subst hP hw hK
    obtain ⟨⟨z, he⟩, hi, n⟩ := st
    obtain ⟨xs, x, hq, hx⟩ := hg
    obtain ⟨its, rv, p, hz⟩ := I.tuple hq
    obtain ⟨u, hu, ru⟩ := rv.get hx
    have hT : s.heap.IsTuple a its.toArray := p
    have cT : ∃ o, s.heap.get? a = some o ∧ o.cls = .type "tuple" := let ⟨o, e1, e2, _⟩ := hT; ⟨o, e1, e2⟩
    have cI : ∃ o, s.heap.get? it = some o ∧ o.cls = .type "tuple_iterator" := let ⟨o, e1, e2, _⟩ := hi; ⟨o, e1, e2⟩
    have ai : a ≠ it := cls_ne cT cI (by decide)
    have ea : e ≠ a := Ne.symm (cls_ne cT ⟨_, he, rfl⟩ (by decide))
    have le : e < s.heap.objs.size := Heap.lt_size he
    have li : it < s.heap.objs.size := let ⟨_, q, _⟩ := cI; Heap.lt_size q
    have hd1 : X.A.in1.handled = none := I.ok.hd hc
    refine wpAny_pyNext_enum_itemD (Draws.tuple hd1 it a ai its.toArray) he ⟨hi, hT⟩ (by
      have := (List.getElem?_eq_some_iff.mp hu).1
      simpa using this) n (by simp [n, ea]) fun y h' tk hy ho hst hT2 hsz hk => ?_
    obtain rfl : u = y := by
      have hy' : its[i]? = some y := by simpa using hy
      rw [hu] at hy'
      exact Option.some.inj hy'
    refine ⟨_, rfl, wpAny_letOwnedTupleGo_enum (s := { s with heap := h', toks := tk + 1 }) ho fun h2 he2 sb => ?_⟩
    have hT3 : h2.get? s.heap.objs.size = some { cls := .type "tuple", data := .seq #[.int i tk, u] } := (sb.2 _ (Nat.ne_of_gt le)).trans hT2
    have new : ObjOk X.prog X.w (upd H s.heap.objs.size (.tup [.int (i : Nat), x])) h2 s.heap.objs.size (.tup [.int (i : Nat), x]) :=
      ⟨(show 2 ≤ sizeLine by decide), [.int i tk, u], .cons ⟨_, rfl⟩ (.cons ru .nil), ⟨_, hT3, rfl, _, rfl⟩⟩
    have I1 : Inv X pins σ (upd H s.heap.objs.size (.tup [.int (i : Nat), x])) { s with heap := h2, toks := tk + 1 } :=
      I.turnedNew (ch := [e, it]) (fun b ob hb q => (sb.2 b fun c => hb (by simp [c])).trans (hk b ob (fun c => hb (by simp [c])) (fun c => hb (by simp [c])) q)) hf (Nat.le_refl _) new
    refine ⟨.ref s.heap.objs.size, _, I1, rfl, ⟨_, x, rfl, I.hok.fresh (Nat.le_refl _), rfl, fun ys hy => ?_⟩, ⟨⟨u, ?_⟩, hst.1.at fun o q => (sb.2 it (Ne.symm n)).trans q, n⟩, fun b hb => ?_⟩
    · rw [I.tuple_inj hy hq]
      exact hx
    · rw [show ((i + 1 : Nat) : Int) = (i : Int) + 1 by omega]
      exact he2
    · have lb : b < s.heap.objs.size := by
        simp only [List.mem_cons, List.not_mem_nil, or_false] at hb
        rcases hb with rfl | rfl <;> assumption
      rw [upd_ne (Nat.ne_of_lt lb)]
      exact (hf b hb).1
  done := by
    intro X hP hw hK hc i pins s σ H E I hf st hg
    subst hP hw hK
    obtain ⟨⟨z, he⟩, hi, n⟩ := st
    obtain ⟨xs, hq, hx⟩ := hg
    obtain ⟨its, rv, p, hz⟩ := I.tuple hq
    have hT : s.heap.IsTuple a its.toArray := p
    have cT : ∃ o, s.heap.get? a = some o ∧ o.cls = .type "tuple" := let ⟨o, e1, e2, _⟩ := hT; ⟨o, e1, e2⟩
    have cI : ∃ o, s.heap.get? it = some o ∧ o.cls = .type "tuple_iterator" := let ⟨o, e1, e2, _⟩ := hi; ⟨o, e1, e2⟩
    have ai : a ≠ it := cls_ne cT cI (by decide)
    obtain ⟨f0, f1, f2, f3, f4, f5⟩ := hf it (by simp)
    have hl := rv.length
    have hd1 : X.A.in1.handled = none := I.ok.hd hc
    have D0 : Draws X.prog X.w X.A.in1 it [it, a] i (fun _ _ => True) (fun j h => j = i ∧ h.IsTupleIter it a i ∧ h.IsTuple a its.toArray) := {
      live := fun _ _ st => let ⟨o, ho, _⟩ := st.2.1; ⟨o, ho⟩
      frame := fun _ _ _ st k => ⟨st.1, st.2.1.at fun o e => k it (by simp) o e, st.2.2.at fun o e => k a (by simp) o e⟩
      item := fun j s1 Q1 E1 hj st _ => absurd st.1 (Nat.ne_of_lt hj)
      done := fun s1 Q1 E1 st hE => wpAny_nextOf_tuple_end hd1 st.2.1 st.2.2 (by simp; omega) hE }
    exact wpAny_pyNext_enum_endD D0 he ⟨rfl, hi, hT⟩ fun h' eb => ⟨rfl, I.turned (t' := s.toks) (fun b o hb e => eb b o hb e) f0 f1 f3 f4 f5⟩
  self := fun A i s Q E st h => let ⟨⟨_, he⟩, _⟩ := st; wpAny_pyIter_enum he h
def iEnumT (K : PySem.W.Frag) (ta : TA) : TI := fun σ H R => ta σ H fun vs H1 => ∃ a, vs = [.ref a] ∧ (∃ xs, SqT K H1 a xs) ∧ R (IteT K a) H1
theorem pi_enumT {X : Cx} {e : Expr} {ta : TA} {p pos tp : Pos} {elts : List Expr} {kk : Nat} (hg : Gl X "enumerate") (hm : X.mg "enumerate" = none) (ha : PA X [e] ta) (hs : starEach [e] X.env = [(false, eval e X.env)] := by rfl) :
    PI X (.Tuple elts kk tp) (.Call (.Name "enumerate" p) [e] [] pos) (iEnumT X.K ta) := by
  refine ⟨fun pins s σ H R I h => Call_ (ld_blt I hg hm boot_enumerate (PyProof.Rows.callWith_type1 (thn (ha.run pos pins s σ H _ I h) fun us s1 ⟨vs, H1, I1, r1, q1⟩ => ?_) hs rfl))⟩
  obtain ⟨a, ex, ⟨xs, hq⟩, q⟩ := q1
  subst ex
  cases r1 with
  | cons r rr =>
    cases rr
    cases r
    obtain ⟨its, rv, pT, hz⟩ := I1.tuple hq
    refine enumT_call (show s1.heap.IsTuple a its.toArray from pT) fun h' he hi hk => wpAny_pyIter_enum he ?_
    refine ⟨s1.heap.objs.size + 1, [s1.heap.objs.size + 1, s1.heap.objs.size], _, _, H1, rfl, I1.kept (t' := s1.toks) hk, turn_enumT a (s1.heap.objs.size + 1) s1.heap.objs.size, ⟨⟨.none, he⟩, hi, Nat.succ_ne_self _⟩, fun b hb => ?_, q⟩
    have lb : s1.heap.objs.size ≤ b := by
      simp only [List.mem_cons, List.not_mem_nil, or_false] at hb
      rcases hb with z | z
      · exact z ▸ Nat.le_succ _
      · exact z ▸ Nat.le_refl _
    exact I1.fpOk lb (I1.hok.fresh lb)
theorem walk_enumT {K : PySem.W.Frag} {a : Addr} {xs : List V} : Walk (IteT K a) xs.length (fun H => SqT K H a xs) (YPair (fun i => some (.int (i : Nat))) (fun i => xs[i]?)) := by
  refine ⟨fun i _ hi q => ⟨xs, xs[i], q, by simp [hi]⟩, fun _ q => ⟨xs, q, Nat.le_refl _⟩, fun i H v H' _ q y => ?_⟩
  obtain ⟨T, x, e1, e2, e3, e4⟩ := y
  exact ⟨T, .int (i : Nat), x, e1, e2, e3, rfl, e4 xs q⟩
end TL
namespace TL
open PySem L2

/-! ### steps of a reading -/
local macro_rules | `(tactic| walk_at "hp") => `(tactic| first | assumption | exact upd_same | (refine (upd_ne (by first | assumption | (exact Ne.symm (by assumption)))).trans ?_; walk_at "hp"))
local macro_rules | `(tactic| walk_at "ok") => `(tactic| first | (exact Or.inr ⟨by decide, by decide⟩) | (exact ⟨by decide, by decide⟩) | (exact ⟨by decide, by decide, by decide⟩) | (show _ ≠ _; omega) | (show _ ≠ _; decide) | (exact Or.inl ⟨by omega, by omega⟩) | decide)
local macro_rules | `(tactic| walk_at "sq") => `(tactic| first | assumption | exact SqL.of (by walk_at "hp") | exact SqT.of (by walk_at "hp"))
local macro_rules | `(tactic| walk_at "ty") => `(tactic| first | refine ⟨_, _, Value.type "int", Value.type "list", false, rfl, ClsV.ty _, TyX.base (TyOf.int _), kt_int_list, ?_⟩ | refine ⟨_, _, Value.type "bool", Value.type "list", false, rfl, ClsV.ty _, TyX.base (TyOf.bl _), kt_bool_list, ?_⟩ | refine ⟨_, _, Value.type "str", Value.type "list", false, rfl, ClsV.ty _, TyX.base (TyOf.str _), kt_str_list, ?_⟩ | refine ⟨_, _, Value.type "NoneType", Value.type "list", false, rfl, ClsV.ty _, TyX.base TyOf.non, kt_NoneType_list, ?_⟩ | refine ⟨_, _, Value.type "list", Value.type "list", true, rfl, ClsV.ty _, tyx_L (by walk_at "sq"), kt_list_list, ?_⟩ | refine ⟨_, _, Value.type "tuple", Value.type "list", false, rfl, ClsV.ty _, tyx_T (by walk_at "sq"), kt_tuple_list, ?_⟩ | refine ⟨_, _, Value.type "int", Value.type "tuple", false, rfl, ClsV.ty _, TyX.base (TyOf.int _), kt_int_tuple, ?_⟩ | refine ⟨_, _, Value.type "bool", Value.type "tuple", false, rfl, ClsV.ty _, TyX.base (TyOf.bl _), kt_bool_tuple, ?_⟩ | refine ⟨_, _, Value.type "str", Value.type "tuple", false, rfl, ClsV.ty _, TyX.base (TyOf.str _), kt_str_tuple, ?_⟩ | refine ⟨_, _, Value.type "NoneType", Value.type "tuple", false, rfl, ClsV.ty _, TyX.base TyOf.non, kt_NoneType_tuple, ?_⟩ | refine ⟨_, _, Value.type "list", Value.type "tuple", false, rfl, ClsV.ty _, tyx_L (by walk_at "sq"), kt_list_tuple, ?_⟩ | refine ⟨_, _, Value.type "tuple", Value.type "tuple", true, rfl, ClsV.ty _, tyx_T (by walk_at "sq"), kt_tuple_tuple, ?_⟩ | refine ⟨_, _, Value.type "int", Value.type "bool", false, rfl, ClsV.ty _, TyX.base (TyOf.int _), kt_int_bool, ?_⟩ | refine ⟨_, _, Value.type "bool", Value.type "bool", true, rfl, ClsV.ty _, TyX.base (TyOf.bl _), kt_bool_bool, ?_⟩ | refine ⟨_, _, Value.type "str", Value.type "bool", false, rfl, ClsV.ty _, TyX.base (TyOf.str _), kt_str_bool, ?_⟩ | refine ⟨_, _, Value.type "NoneType", Value.type "bool", false, rfl, ClsV.ty _, TyX.base TyOf.non, kt_NoneType_bool, ?_⟩ | refine ⟨_, _, Value.type "list", Value.type "bool", false, rfl, ClsV.ty _, tyx_L (by walk_at "sq"), kt_list_bool, ?_⟩ | refine ⟨_, _, Value.type "tuple", Value.type "bool", false, rfl, ClsV.ty _, tyx_T (by walk_at "sq"), kt_tuple_bool, ?_⟩ | refine ⟨_, _, Value.type "int", Value.type "int", true, rfl, ClsV.ty _, TyX.base (TyOf.int _), kt_int_int, ?_⟩ | refine ⟨_, _, Value.type "bool", Value.type "int", true, rfl, ClsV.ty _, TyX.base (TyOf.bl _), kt_bool_int, ?_⟩ | refine ⟨_, _, Value.type "str", Value.type "int", false, rfl, ClsV.ty _, TyX.base (TyOf.str _), kt_str_int, ?_⟩ | refine ⟨_, _, Value.type "NoneType", Value.type "int", false, rfl, ClsV.ty _, TyX.base TyOf.non, kt_NoneType_int, ?_⟩ | refine ⟨_, _, Value.type "list", Value.type "int", false, rfl, ClsV.ty _, tyx_L (by walk_at "sq"), kt_list_int, ?_⟩ | refine ⟨_, _, Value.type "tuple", Value.type "int", false, rfl, ClsV.ty _, tyx_T (by walk_at "sq"), kt_tuple_int, ?_⟩ | refine ⟨_, _, Value.type "int", Value.type "str", false, rfl, ClsV.ty _, TyX.base (TyOf.int _), kt_int_str, ?_⟩ | refine ⟨_, _, Value.type "bool", Value.type "str", false, rfl, ClsV.ty _, TyX.base (TyOf.bl _), kt_bool_str, ?_⟩ | refine ⟨_, _, Value.type "str", Value.type "str", true, rfl, ClsV.ty _, TyX.base (TyOf.str _), kt_str_str, ?_⟩ | refine ⟨_, _, Value.type "NoneType", Value.type "str", false, rfl, ClsV.ty _, TyX.base TyOf.non, kt_NoneType_str, ?_⟩ | refine ⟨_, _, Value.type "list", Value.type "str", false, rfl, ClsV.ty _, tyx_L (by walk_at "sq"), kt_list_str, ?_⟩ | refine ⟨_, _, Value.type "tuple", Value.type "str", false, rfl, ClsV.ty _, tyx_T (by walk_at "sq"), kt_tuple_str, ?_⟩)
local macro_rules | `(tactic| walk_at "go1") => `(tactic| first
  | (refine ⟨_, rfl, ?_⟩)
  | (refine ⟨_, _, rfl, rfl, ?_⟩)
  | (refine ⟨_, _, _, _, rfl, rfl, SqL.of (by walk_at "hp"), rfl, ?_⟩)
  | (refine Or.inl ⟨_, rfl, ?_⟩)
  | (refine ⟨rfl, ?_⟩)
  | (refine ⟨_, _, rfl, .inl (SqL.of (by walk_at "hp")), ?_⟩)
  | (refine ⟨_, _, rfl, Or.inl (by assumption), ?_⟩)
  | (refine ⟨_, _, rfl, Or.inr (by assumption), ?_⟩)
  | (refine ⟨(by walk_at "ok"), ?_⟩)
  | (refine ⟨_, _, _, _, rfl, rfl, (by walk_at "hp"), rfl, ?_⟩))
local macro_rules | `(tactic| walk_at "go") => `(tactic| repeat (walk_at "go1"))
local macro_rules | `(tactic| walk_at "gt") => `(tactic| repeat (first | walk_at "go1" | walk_at "ty"))

section
variable {P : Program} {w : World} {K : PySem.W.Frag} {mg : Str → Option Value} {base : Heap}
-- [0=number, 1=divisor, 2=many, 3=rest, 4=remainder]
-- [0=number, 1=powers, 2=at, 3=prime, 4=many, 5=few]
theorem noPy {n : Int} {d : Nat} (h : d < 2 ^ 300) : Builtin.divisionGoesByPylong n (d : Int) = false :=
  PyProof.noPylong_of_log2 (Nat.lt_of_lt_of_le (PySem.Flt.log2_lt_of (by decide) (show ((d : Int)).natAbs < 2 ^ 300 from h)) (by decide))
theorem spl0 {d r : Nat} (h : ¬ d ∣ r) : ((d ^ 0 * r : Nat) : Int) % (d : Int) ≠ 0 := by
  rw [Nat.pow_zero, Nat.one_mul, ← Int.natCast_emod]
  intro e
  exact h (Nat.dvd_of_mod_eq_zero (by omega))
theorem spl1 {d m r : Nat} (h : 0 < d) : ((d ^ (m + 1) * r : Nat) : Int) % (d : Int) = 0 := by
  rw [← Int.natCast_emod, Nat.pow_succ, Nat.mul_comm (d ^ m) d, Nat.mul_assoc, Nat.mul_mod_right]
  rfl
theorem spl2 {d m r : Nat} (h : 0 < d) : ((d ^ (m + 1) * r : Nat) : Int) / (d : Int) = ((d ^ m * r : Nat) : Int) := by
  rw [← Int.natCast_ediv, Nat.pow_succ, Nat.mul_comm (d ^ m) d, Nat.mul_assoc, Nat.mul_div_cancel_left _ h]
def spSplit : Sp := fun vs H Q _ => ∃ (d k r : Nat), vs = [.int ((d ^ k * r : Nat) : Int), .int (d : Int)] ∧ 1 < d ∧ 0 < r ∧ ¬ d ∣ r ∧ d < 2 ^ 300 ∧ ∀ t H', Same H H' → H' t = some (.tup [.int (k : Int), .int (r : Int)]) → Q (.ref t) H'
theorem ok_split (T : Tx K mg) : FnOk P w K mg base CX0 1 T.f__split T.d__split ["number", "divisor"] spSplit := by
  refine T.F__split.ok sc__split (fun vs H Q E h => ?_) (fun cdv A outer s H vs Q E hr h => ?_)
  · obtain ⟨d, k, r, rfl, _⟩ := h
    rfl
  obtain ⟨d, k, r, rfl, h1, hr0, hd, hb, q⟩ := h
  have nd := sc__split.nd
  refine ⟨_, (pss_cons (ps_set (i := 2) nd rfl (Or.inl rfl) pe_int)
    (pss_cons (ps_asg (pe_callB call_divmodW (by rfl) T.z_divmod (by decide +kernel) (pa_cons (pv 0) (pa_cons (pv 1) pa_nil))) (pg_tup rfl (pgs_cons (pg_name (i := 3) nd rfl (Or.inl rfl)) (pgs_cons (pg_name (i := 4) nd rfl (Or.inl rfl)) pgs_nil))))
    (pss_cons (ps_while PassesOwn.never (pt_cmpR op_eq (pv 4) pe_int (nomark _)) (pss_cons (ps_set (i := 0) nd rfl (Or.inl rfl) (pv 3))
    (pss_cons (ps_aug (i := 2) nd rfl (Or.inl rfl) pe_int ip_add)
    (pss_one (ps_asg (pe_callB call_divmodW (by rfl) T.z_divmod (by decide +kernel) (pa_cons (pv 0) (pa_cons (pv 1) pa_nil))) (pg_tup rfl (pgs_cons (pg_name (i := 3) nd rfl (Or.inl rfl)) (pgs_cons (pg_name (i := 4) nd rfl (Or.inl rfl)) pgs_nil))))))))
    (pss_one (ps_ret (pe_tup (pa_cons (pv 2) (pa_cons (pv 0) pa_nil)))))))), ?_⟩
  have hD : ∀ n : Int, CDivP n (d : Int) := fun n => ⟨by omega, noPy hb⟩
  refine ⟨_, rfl, _, rfl, _, _, rfl, hD _, fun p hp => ?_⟩
  have s1 := Same.new (o := .tup [.int (((d ^ k * r : Nat) : Int) / (d : Int)), .int (((d ^ k * r : Nat) : Int) % (d : Int))]) hp
  refine ⟨p, _, rfl, SqT.of upd_same, rfl, ?_⟩
  refine ⟨_, _, rfl, _, _, rfl, rfl, ?_⟩
  refine ⟨fun m σ H' => ∃ i : Nat, i + m = k ∧ Same H H' ∧ σ = [some (.int ((d ^ m * r : Nat) : Int)), some (.int (d : Int)), some (.int (i : Int)), some (.int (((d ^ m * r : Nat) : Int) / (d : Int))), some (.int (((d ^ m * r : Nat) : Int) % (d : Int)))], ⟨k, 0, by omega, s1, rfl⟩, ?_⟩
  rintro m σ H2 ⟨i, hi, s2, rfl⟩
  cases m with
  | zero =>
    obtain rfl : i = k := by omega
    refine ⟨_, rfl, rfl, false, congrArg V.bl (by rw [dec_int]; exact beq_false_of_ne (spl0 hd)), ?_⟩
    refine ⟨_, rfl, _, rfl, (by show 2 ≤ sizeLine; decide), fun t ht => q t _ (s2.trans (Same.new ht)) ?_⟩
    rw [Nat.pow_zero, Nat.one_mul]
    exact upd_same
  | succ m =>
    refine ⟨_, rfl, rfl, true, congrArg V.bl (by rw [dec_int, spl1 (by omega)]; rfl), ?_⟩
    refine ⟨fun σ' H' => ∃ i : Nat, i + m = k ∧ Same H H' ∧ σ' = [some (.int ((d ^ m * r : Nat) : Int)), some (.int (d : Int)), some (.int (i : Int)), some (.int (((d ^ m * r : Nat) : Int) / (d : Int))), some (.int (((d ^ m * r : Nat) : Int) % (d : Int)))], fun σ' H' h => ⟨m, Nat.lt_succ_self _, h⟩, ?_⟩
    rw [spl2 (by omega)]
    refine ⟨_, rfl, ?_⟩
    refine ⟨_, rfl, _, _, rfl, rfl, ?_⟩
    refine ⟨_, rfl, _, rfl, _, _, rfl, hD _, fun p2 hp2 => ?_⟩
    have s3 := Same.new (o := .tup [.int (((d ^ m * r : Nat) : Int) / (d : Int)), .int (((d ^ m * r : Nat) : Int) % (d : Int))]) hp2
    refine ⟨p2, _, rfl, SqT.of upd_same, rfl, ?_⟩
    exact ⟨_, _, rfl, _, _, rfl, rfl, i + 1, by omega, s2.trans s3, rfl⟩
abbrev nL (as : List Nat) : List V := as.map fun n : Nat => V.int (n : Int)
theorem nL_set (as : List Nat) (i a : Nat) : (nL as).set i (V.int (a : Int)) = nL (as.set i a) := (List.map_set ..).symm
theorem ixN_at {n i : Nat} (h : i < n) : ixN n (i : Int) = some i := by
  unfold ixN
  rw [if_pos (Int.natCast_nonneg i), if_pos (by omega), Int.toNat_natCast]
theorem cm {a b : Int} (h : a.natAbs ≤ 1000) : CMul a b := .inl ⟨by omega, by omega⟩
theorem _root_.L2.Same.upd_new {H H' : Hp} {p : Addr} {o : HO} (s : Same H H') (h : H p = none) : Same H (L2.upd H' p o) := fun c x e => by
  rw [upd_ne (ne_of_none e h)]
  exact s c x e
def spPowers : Sp := fun vs H Q _ => ∃ (as : List Nat), vs = [.int ((pp prs as : Nat) : Int)] ∧ as.length = 6 ∧ ∀ t H', Same H H' → H' t = some (.lst (as.map fun n : Nat => V.int (n : Int))) → Q (.ref t) H'
theorem ok_powers_in (T : Tx K mg) : FnOk P w K mg base CX0 2 T.f__powers_in T.d__powers_in ["number"] spPowers := by
  have G__split := ok_split (P := P) (w := w) (base := base) T
  refine T.F__powers_in.ok sc__powers_in (fun vs H Q E h => ?_) (fun cdv A outer s H vs Q E hr h => ?_)
  · obtain ⟨as, rfl, _⟩ := h
    rfl
  obtain ⟨as, rfl, hl, q⟩ := h
  have nd := sc__powers_in.nd
  refine ⟨_, (pss_cons (ps_set (i := 1) nd rfl (Or.inl rfl) (pe_op op_rep (pe_lst (pa_cons pe_int pa_nil)) (pe_callB (show CallR _ _ (rLenSq K) from call_len_seq) (by rfl) T.z_len (by decide +kernel) (pa_cons (pe_glob (v := .ref T.e_PRIMES) (by rfl) T.m_PRIMES rfl) pa_nil))))
    (pss_cons (ps_for PassesOwn.never rfl (show PI _ _ _ (iEnumT K _) from pi_enumT (by rfl) T.z_enumerate (pa_cons (pe_glob (v := .ref T.e_PRIMES) (by rfl) T.m_PRIMES rfl) pa_nil)) (pg_tup rfl (pgs_cons (pg_name (i := 2) nd rfl (Or.inl rfl)) (pgs_cons (pg_name (i := 3) nd rfl (Or.inl rfl)) pgs_nil))) (pss_cons (ps_if (pt_cmpR op_eq (pv 0) pe_int (nomark _)) (pss_one (ps_ret (pv 1))) pss_nil)
    (pss_cons (ps_asg (pe_call G__split hr (by rfl) T.m__split T.F__split.kp T.b__split .nil pass0 (pa_cons (pv 0) (pa_cons (pe_op op_pow (pv 3) pe_int) pa_nil))) (pg_tup rfl (pgs_cons (pg_name (i := 4) nd rfl (Or.inl rfl)) (pgs_cons (pg_name (i := 0) nd rfl (Or.inl rfl)) pgs_nil))))
    (pss_cons (ps_asg (pe_call G__split hr (by rfl) T.m__split T.F__split.kp T.b__split .nil pass0 (pa_cons (pv 0) (pa_cons (pv 3) pa_nil))) (pg_tup rfl (pgs_cons (pg_name (i := 5) nd rfl (Or.inl rfl)) (pgs_cons (pg_name (i := 0) nd rfl (Or.inl rfl)) pgs_nil))))
    (pss_one (ps_asg (pe_op op_add (pe_op op_mul pe_int (pv 4)) (pv 5)) (pg_sub (pv 1) (pv 2) set_list)))))))
    (pss_cons (ps_if (pt_cmpR op_ne (pv 0) pe_int (nomark _)) (pss_one ps_never) pss_nil)
    (pss_one (ps_ret (pv 1)))))), ?_⟩
  refine ⟨(by show 1 ≤ sizeLine; decide), fun p1 hp1 => ⟨T.e_PRIMES, _, rfl, .inr (T.q_PRIMES _), p1, _, _, rfl, rfl, upd_same, by decide, by decide, by decide, fun p hp => ?_⟩⟩
  have s0 := (Same.new (o := .lst [V.int 0]) hp1).trans (Same.new (o := .lst (nL (fill as 0))) hp)
  have hf : H p = none := (Same.new (o := .lst [V.int 0]) hp1).free hp
  refine ⟨T.e_PRIMES, rfl, ⟨_, T.q_PRIMES _⟩, for_it (walk_enumT (K := K) (a := T.e_PRIMES) (xs := nL prs)) (fun i σ H' => Same H H' ∧ H' p = some (.lst (nL (fill as i))) ∧ ∃ a2 a3 a4 a5, σ = [some (.int ((pp (prs.drop i) (as.drop i) : Nat) : Int)), some (.ref p), a2, a3, a4, a5]) ⟨s0, upd_same, _, _, _, _, rfl⟩ (fun _ _ _ _ _ => T.q_PRIMES _) ?_ ?_⟩
  · rintro i v σ H1 H2 hi ⟨s1, hp1, a2, a3, a4, a5, rfl⟩ ⟨t, x, y, rfl, ht, rfl, hx, hy⟩
    replace hi : i < 6 := hi
    obtain ⟨pr, a, e1, e2, g1, g2, g3, g4, g5⟩ := pp_drop hi hl
    obtain rfl : x = .int (i : Nat) := (Option.some.inj hx).symm
    obtain rfl : y = .int (pr : Nat) := by
      have hy' : (nL prs)[i]? = some y := hy
      rw [List.getElem?_map, e1] at hy'
      exact (Option.some.inj hy').symm
    have st := Same.new (o := .tup [.int (i : Nat), .int (pr : Nat)]) ht
    refine ⟨t, _, rfl, SqT.of upd_same, rfl, _, _, rfl, _, _, rfl, rfl, ?_⟩
    refine ⟨_, rfl, rfl, _, rfl, ?_⟩
    refine ite2 (fun c => ?_) (fun c => ?_)
    · have c' := of_decide_eq_true c
      rw [V.int.injEq] at c'
      refine ⟨_, rfl, q p _ (s1.trans st) ?_⟩
      rw [st _ _ hp1, fill_one hi hl (by omega)]
    have hk := split_at (a := a) g1 g4 g5
    have b64 : pr ^ 64 < 2 ^ 300 := Nat.lt_of_le_of_lt (Nat.pow_le_pow_left g2 64) (by decide)
    refine ⟨_, rfl, _, rfl, _, _, rfl, rfl, ⟨by decide, by decide, by show pr < _; omega⟩, ?_⟩
    refine ⟨pr ^ 64, a / 64, pr ^ (a % 64) * pp (prs.drop (i + 1)) (as.drop (i + 1)), ?_, Nat.one_lt_pow (by decide) g1, Nat.mul_pos (Nat.pow_pos (by omega)) g5, hk.1, b64, fun t2 H3 s3 ht2 => ?_⟩
    · rw [g3, split_eq]
      simp
    refine ⟨t2, _, rfl, SqT.of ht2, rfl, _, _, rfl, _, _, rfl, rfl, ?_⟩
    refine ⟨_, rfl, _, rfl, ?_⟩
    refine ⟨pr, a % 64, pp (prs.drop (i + 1)) (as.drop (i + 1)), rfl, g1, g5, hk.2, by omega, fun t3 H4 s4 ht3 => ?_⟩
    refine ⟨t3, _, rfl, SqT.of ht3, rfl, _, _, rfl, _, _, rfl, rfl, ?_⟩
    have hpt := s4 _ _ (s3 _ _ (st _ _ hp1))
    refine ⟨_, rfl, _, _, rfl, rfl, cm (by decide), _, rfl, _, _, rfl, rfl, ?_⟩
    refine ⟨_, rfl, _, rfl, p, _, _, i, rfl, rfl, hpt, ixN_at (by rw [List.length_map, fill_len hl (by omega)]; exact hi), ?_⟩
    refine ⟨?_, ?_, _, _, _, _, rfl⟩
    · exact (((s1.trans st).trans s3).trans s4).upd_new hf
    · show _ = some (HO.lst (nL (fill as (i + 1))))
      rw [upd_same]
      show some (HO.lst ((nL (fill as i)).set i (V.int ((64 : Int) * ((a / 64 : Nat) : Int) + ((a % 64 : Nat) : Int))))) = _
      rw [show (64 : Int) * ((a / 64 : Nat) : Int) + ((a % 64 : Nat) : Int) = (a : Int) by omega, ← fill_set hi hl e2, nL_set]
  · rintro σ H1 ⟨s1, hp1, a2, a3, a4, a5, rfl⟩
    have z : as.drop 6 = [] := List.drop_of_length_le (Nat.le_of_eq hl)
    have y : pp (prs.drop 6) (as.drop 6) = 1 := rfl
    refine ⟨_, rfl, rfl, _, rfl, ?_⟩
    refine iteF ?_
    refine ⟨_, rfl, q p _ s1 ?_⟩
    rw [hp1, show (nL prs).length = 6 from rfl, fill_all hl]
end
end TL
namespace TL
open PySem L2

/-! ### steps of a reading -/
local macro_rules | `(tactic| walk_at "hp") => `(tactic| first | assumption | exact upd_same | (refine (upd_ne (by first | assumption | (exact Ne.symm (by assumption)))).trans ?_; walk_at "hp"))
local macro_rules | `(tactic| walk_at "ok") => `(tactic| first | (exact Or.inr ⟨by decide, by decide⟩) | (exact ⟨by decide, by decide⟩) | (exact ⟨by decide, by decide, by decide⟩) | (show _ ≠ _; omega) | (show _ ≠ _; decide) | (exact Or.inl ⟨by omega, by omega⟩) | decide)
local macro_rules | `(tactic| walk_at "sq") => `(tactic| first | assumption | exact SqL.of (by walk_at "hp") | exact SqT.of (by walk_at "hp"))
local macro_rules | `(tactic| walk_at "ty") => `(tactic| first | refine ⟨_, _, Value.type "int", Value.type "list", false, rfl, ClsV.ty _, TyX.base (TyOf.int _), kt_int_list, ?_⟩ | refine ⟨_, _, Value.type "bool", Value.type "list", false, rfl, ClsV.ty _, TyX.base (TyOf.bl _), kt_bool_list, ?_⟩ | refine ⟨_, _, Value.type "str", Value.type "list", false, rfl, ClsV.ty _, TyX.base (TyOf.str _), kt_str_list, ?_⟩ | refine ⟨_, _, Value.type "NoneType", Value.type "list", false, rfl, ClsV.ty _, TyX.base TyOf.non, kt_NoneType_list, ?_⟩ | refine ⟨_, _, Value.type "list", Value.type "list", true, rfl, ClsV.ty _, tyx_L (by walk_at "sq"), kt_list_list, ?_⟩ | refine ⟨_, _, Value.type "tuple", Value.type "list", false, rfl, ClsV.ty _, tyx_T (by walk_at "sq"), kt_tuple_list, ?_⟩ | refine ⟨_, _, Value.type "int", Value.type "tuple", false, rfl, ClsV.ty _, TyX.base (TyOf.int _), kt_int_tuple, ?_⟩ | refine ⟨_, _, Value.type "bool", Value.type "tuple", false, rfl, ClsV.ty _, TyX.base (TyOf.bl _), kt_bool_tuple, ?_⟩ | refine ⟨_, _, Value.type "str", Value.type "tuple", false, rfl, ClsV.ty _, TyX.base (TyOf.str _), kt_str_tuple, ?_⟩ | refine ⟨_, _, Value.type "NoneType", Value.type "tuple", false, rfl, ClsV.ty _, TyX.base TyOf.non, kt_NoneType_tuple, ?_⟩ | refine ⟨_, _, Value.type "list", Value.type "tuple", false, rfl, ClsV.ty _, tyx_L (by walk_at "sq"), kt_list_tuple, ?_⟩ | refine ⟨_, _, Value.type "tuple", Value.type "tuple", true, rfl, ClsV.ty _, tyx_T (by walk_at "sq"), kt_tuple_tuple, ?_⟩ | refine ⟨_, _, Value.type "int", Value.type "bool", false, rfl, ClsV.ty _, TyX.base (TyOf.int _), kt_int_bool, ?_⟩ | refine ⟨_, _, Value.type "bool", Value.type "bool", true, rfl, ClsV.ty _, TyX.base (TyOf.bl _), kt_bool_bool, ?_⟩ | refine ⟨_, _, Value.type "str", Value.type "bool", false, rfl, ClsV.ty _, TyX.base (TyOf.str _), kt_str_bool, ?_⟩ | refine ⟨_, _, Value.type "NoneType", Value.type "bool", false, rfl, ClsV.ty _, TyX.base TyOf.non, kt_NoneType_bool, ?_⟩ | refine ⟨_, _, Value.type "list", Value.type "bool", false, rfl, ClsV.ty _, tyx_L (by walk_at "sq"), kt_list_bool, ?_⟩ | refine ⟨_, _, Value.type "tuple", Value.type "bool", false, rfl, ClsV.ty _, tyx_T (by walk_at "sq"), kt_tuple_bool, ?_⟩ | refine ⟨_, _, Value.type "int", Value.type "int", true, rfl, ClsV.ty _, TyX.base (TyOf.int _), kt_int_int, ?_⟩ | refine ⟨_, _, Value.type "bool", Value.type "int", true, rfl, ClsV.ty _, TyX.base (TyOf.bl _), kt_bool_int, ?_⟩ | refine ⟨_, _, Value.type "str", Value.type "int", false, rfl, ClsV.ty _, TyX.base (TyOf.str _), kt_str_int, ?_⟩ | refine ⟨_, _, Value.type "NoneType", Value.type "int", false, rfl, ClsV.ty _, TyX.base TyOf.non, kt_NoneType_int, ?_⟩ | refine ⟨_, _, Value.type "list", Value.type "int", false, rfl, ClsV.ty _, tyx_L (by walk_at "sq"), kt_list_int, ?_⟩ | refine ⟨_, _, Value.type "tuple", Value.type "int", false, rfl, ClsV.ty _, tyx_T (by walk_at "sq"), kt_tuple_int, ?_⟩ | refine ⟨_, _, Value.type "int", Value.type "str", false, rfl, ClsV.ty _, TyX.base (TyOf.int _), kt_int_str, ?_⟩ | refine ⟨_, _, Value.type "bool", Value.type "str", false, rfl, ClsV.ty _, TyX.base (TyOf.bl _), kt_bool_str, ?_⟩ | refine ⟨_, _, Value.type "str", Value.type "str", true, rfl, ClsV.ty _, TyX.base (TyOf.str _), kt_str_str, ?_⟩ | refine ⟨_, _, Value.type "NoneType", Value.type "str", false, rfl, ClsV.ty _, TyX.base TyOf.non, kt_NoneType_str, ?_⟩ | refine ⟨_, _, Value.type "list", Value.type "str", false, rfl, ClsV.ty _, tyx_L (by walk_at "sq"), kt_list_str, ?_⟩ | refine ⟨_, _, Value.type "tuple", Value.type "str", false, rfl, ClsV.ty _, tyx_T (by walk_at "sq"), kt_tuple_str, ?_⟩)
local macro_rules | `(tactic| walk_at "go1") => `(tactic| first
  | (refine ⟨_, rfl, ?_⟩)
  | (refine ⟨_, _, rfl, rfl, ?_⟩)
  | (refine ⟨_, _, _, _, rfl, rfl, SqL.of (by walk_at "hp"), rfl, ?_⟩)
  | (refine Or.inl ⟨_, rfl, ?_⟩)
  | (refine ⟨rfl, ?_⟩)
  | (refine ⟨_, _, rfl, .inl (SqL.of (by walk_at "hp")), ?_⟩)
  | (refine ⟨_, _, rfl, Or.inl (by assumption), ?_⟩)
  | (refine ⟨_, _, rfl, Or.inr (by assumption), ?_⟩)
  | (refine ⟨(by walk_at "ok"), ?_⟩)
  | (refine ⟨_, _, _, _, rfl, rfl, (by walk_at "hp"), rfl, ?_⟩))
local macro_rules | `(tactic| walk_at "go") => `(tactic| repeat (walk_at "go1"))
local macro_rules | `(tactic| walk_at "gt") => `(tactic| repeat (first | walk_at "go1" | walk_at "ty"))

section
variable {P : Program} {w : World} {K : PySem.W.Frag} {mg : Str → Option Value} {base : Heap}
def spIsNum : Sp := fun vs H Q _ => ∃ n, vs = [.int n] ∧ Q (.bl true) H
theorem ok_is_number (T : Tx K mg) : FnOk P w K mg base CX0 1 T.f_is_number T.d_is_number ["value"] spIsNum := by
  refine T.F_is_number.ok sc_is_number (fun vs H Q E h => ?_) (fun cdv A outer s H vs Q E hr h => ?_)
  · obtain ⟨n, rfl, _⟩ := h
    rfl
  obtain ⟨n, rfl, q⟩ := h
  refine ⟨_, (pss_one (ps_ret (pe_and (pe_callB (show CallR _ _ (rIsi K) from call_isi) (by rfl) T.z_isinstance (by decide +kernel) (pa_cons (pv 0) (pa_cons (pe_bltn (v := .ty "int") (u := .type "int") (by rfl) T.z_int (by decide +kernel) rfl) pa_nil))) (pe_one (pe_not (pe_callB (show CallR _ _ (rIsi K) from call_isi) (by rfl) T.z_isinstance (by decide +kernel) (pa_cons (pv 0) (pa_cons (pe_bltn (v := .ty "bool") (u := .type "bool") (by rfl) T.z_bool (by decide +kernel) rfl) pa_nil)))))))), ?_⟩
  walk_at "gt"
  exact q
/-! ### a ratio as it stands in memory -/
def rf (u d : Nat) (t : Addr) : List (Str × V) := [("over", .int (u : Int)), ("under", .int (d : Int)), ("_powers", .ref t)]
structure RAt (K : PySem.W.Frag) (C : Addr) (H : Hp) (p : Addr) (e : List Int) : Prop where
  ex : ∃ dx t, H p = some (.ins C dx (rf (up e) (dn e) t)) ∧ SqT K H t (e.map V.int)
  len : e.length = 6
theorem RAt.same {C : Addr} {H H' : Hp} {p : Addr} {e : List Int} (h : RAt K C H p e) (s : Same H H') : RAt K C H' p e := by
  obtain ⟨dx, t, h1, h2⟩ := h.ex
  exact ⟨⟨dx, t, s _ _ h1, seqT s h2⟩, h.len⟩
theorem nov : ¬ (("over" : Str) = "under") := by decide +kernel
theorem nop : ¬ (("over" : Str) = "_powers") := by decide +kernel
theorem nup : ¬ (("under" : Str) = "_powers") := by decide +kernel
theorem rf_put (u d : Nat) (t : Addr) : putF "_powers" (V.ref t) (putF "under" (V.int (d : Int)) (putF "over" (V.int (u : Int)) [])) = rf u d t := by
  show putF "_powers" (V.ref t) (if ("over" : Str) = "under" then [(("over" : Str), V.int (d : Int))] else (("over" : Str), V.int (u : Int)) :: putF "under" (V.int (d : Int)) []) = _
  rw [if_neg nov]
  show (if ("over" : Str) = "_powers" then _ else (("over" : Str), V.int (u : Int)) :: (if ("under" : Str) = "_powers" then _ else (("under" : Str), V.int (d : Int)) :: putF "_powers" (V.ref t) [])) = _
  rw [if_neg nop, if_neg nup]
  rfl
theorem nL_int (as : List Nat) : nL as = (as.map fun n : Nat => (n : Int)).map V.int := by
  rw [List.map_map]
  rfl
theorem up_down (e : List Int) : List.zipWith (· - ·) ((upE e).map fun n : Nat => (n : Int)) ((dnE e).map fun n : Nat => (n : Int)) = e := by
  apply List.ext_getElem
  · simp [upE, dnE]
  · intro i h1 h2
    simp [upE, dnE]
    omega
def spPowersOf (K : PySem.W.Frag) : Sp := fun vs H Q _ => ∃ (e : List Int), vs = [.int ((up e : Nat) : Int), .int ((dn e : Nat) : Int)] ∧ e.length = 6 ∧ ∀ t H', Same H H' → SqT K H' t (e.map V.int) → Q (.ref t) H'
theorem one_zero {e : List Int} (hl : e.length = 6) (hu : up e = 1) (hd : dn e = 1) : e = List.replicate 6 0 := by
  have h1 := pp_one pc_prs (as := upE e) (by rw [upE, List.length_map, hl]; decide) hu
  have h2 := pp_one pc_prs (as := dnE e) (by rw [dnE, List.length_map, hl]; decide) hd
  refine List.eq_replicate_iff.mpr ⟨hl, fun x hx => ?_⟩
  have a1 := h1 x.toNat (List.mem_map.mpr ⟨x, hx, rfl⟩)
  have a2 := h2 (-x).toNat (List.mem_map.mpr ⟨x, hx, rfl⟩)
  omega
-- [0=over, 1=under, 2=up, 3=down]
theorem ok_powers_of (T : Tx K mg) : FnOk P w K mg base CX0 3 T.f__powers_of T.d__powers_of ["over", "under"] (spPowersOf K) := by
  have G__powers_in := ok_powers_in (P := P) (w := w) (base := base) T
  refine T.F__powers_of.ok sc__powers_of (fun vs H Q E h => ?_) (fun cdv A outer s H vs Q E hr h => ?_)
  · obtain ⟨e, rfl, _⟩ := h
    rfl
  obtain ⟨e, rfl, hl, q⟩ := h
  have nd := sc__powers_of.nd
  refine ⟨_, (pss_cut (ps_if (PW.pt (pw_and (pt_cmpR op_eq (pv 0) pe_int (nomark _)) (pw_and1 (pt_cmpR op_eq (pv 1) pe_int (nomark _))))) (pss_one (ps_ret (pe_glob (v := .ref T.e_NO_POWERS) (by rfl) T.m_NO_POWERS rfl))) pss_nil)
    (pss_one (ps_ret (pe_callTy (show CallR _ _ (rTup1 K) from call_tup1) (by rfl) T.z_tuple (by decide +kernel) (pa_cons (pe_lc (own := [("up", 2), ("down", 3)]) (g := (gTup K 2 (gCons (gName 2) (gCons (gName 3) gNil)))) rfl nd (show PI _ _ _ (RZ.iZipA K _) from RZ.pi_zipA (by rfl) T.z_zip (pa_cons (pe_call G__powers_in hr (by rfl) T.m__powers_in T.F__powers_in.kp T.b__powers_in .nil pass0 (pa_cons (pv 0) pa_nil)) (pa_cons (pe_call G__powers_in hr (by rfl) T.m__powers_in T.F__powers_in.kp T.b__powers_in .nil pass0 (pa_cons (pv 1) pa_nil)) pa_nil))) (blkOk_by (own := [("up", 2), ("down", 3)]) (N := N__powers_of) (sc := defScope s__powers_of) (by decide +kernel)) (fun _ _ _ _ _ => by exact (pg_tup rfl (pgs_cons (pg_name (i := 2) nd rfl (Or.inl rfl)) (pgs_cons (pg_name (i := 3) nd rfl (Or.inl rfl)) pgs_nil)))) (fun _ _ _ _ _ => by exact pts_nil) (fun _ _ _ _ _ => by exact (pe_op op_sub (pv 2) (pv 3)))) pa_nil))))), ?_⟩
  refine ⟨fun σ' H' => σ' = L2.start N__powers_of [.int ((up e : Nat) : Int), .int ((dn e : Nat) : Int)] ∧ H' = H, ?_, ?_⟩
  · refine ⟨_, rfl, rfl, _, rfl, ?_⟩
    refine ite2 (fun c => ?_) (fun c => ⟨rfl, rfl⟩)
    refine ⟨_, rfl, rfl, _, rfl, ?_⟩
    refine ite2 (fun c2 => ?_) (fun c2 => ⟨rfl, rfl⟩)
    have u1 : up e = 1 := by
      have := of_decide_eq_true c
      rw [V.int.injEq] at this
      omega
    have d1 : dn e = 1 := by
      have := of_decide_eq_true c2
      rw [V.int.injEq] at this
      omega
    refine q _ H (Same.refl _) ?_
    rw [one_zero hl u1 d1]
    exact T.q_NO_POWERS H
  · rintro σ' H' ⟨rfl, rfl⟩
    refine ⟨_, rfl, upE e, rfl, by simpa [upE] using hl, fun t1 H1 s1 ht1 => ?_⟩
    refine ⟨_, rfl, dnE e, rfl, by simpa [dnE] using hl, fun t2 H2 s2 ht2 => ?_⟩
    have g1 := s2 _ _ ht1
    rw [show (upE e).map (fun n : Nat => V.int (n : Int)) = _ from nL_int _] at g1
    rw [show (dnE e).map (fun n : Nat => V.int (n : Int)) = _ from nL_int _] at ht2
    refine ⟨t1, t2, _, _, rfl, .inl ⟨SqL.of g1, SqL.of ht2, fun D hD => ?_⟩⟩
    refine lc_zipL (f := fun a b => a - b) (SqL.of g1) (SqL.of ht2) (by simp [upE, dnE]) (by simp [upE, hl]) hD (fun u v => rfl) (fun u v H1 k _ _ hk => ⟨_, rfl, _, rfl, u, v, rfl, rfl, hk⟩) fun H3 s3 hD3 => ?_
    rw [up_down] at hD3
    exact ⟨D, _, rfl, .inl (SqL.of hD3), fun t4 H4 s4 ht4 => q t4 H4 (((s1.trans s2).trans s3).trans s4) ht4⟩
def spRInit (K : PySem.W.Frag) (C : Addr) : Sp := fun vs H Q _ => ∃ (p dx : Addr) (m : Nat) (e : List Int), vs = [.ref p, .int ((m * up e : Nat) : Int), .int ((m * dn e : Nat) : Int)] ∧ H p = some (.ins C dx []) ∧ 0 < m ∧ m < 2 ^ 300 ∧ e.length = 6 ∧
  ∀ H', RAt K C H' p e → (∀ c o, H c = some o → c ≠ p → H' c = some o) → Q .non H'
theorem ok_rinit (T : Tx K mg) : FnOk P w K mg base CX0 4 T.f_Ratio_init T.d_Ratio_init ["self", "over", "under"] (spRInit K T.C_Ratio) := by
  have G_is_number := ok_is_number (P := P) (w := w) (base := base) T
  have G__powers_of := ok_powers_of (P := P) (w := w) (base := base) T
  refine T.F_Ratio_init.ok sc_Ratio_init (fun vs H Q E h => ?_) (fun cdv A outer s H vs Q E hr h => ?_)
  · obtain ⟨p, dx, m, e, rfl, _⟩ := h
    rfl
  obtain ⟨p, dx, m, e, rfl, hp, hm, hm3, hl, q⟩ := h
  have nd := sc_Ratio_init.nd
  have u1 := up_pos e
  have d1 := dn_pos e
  have a1 : 0 < m * up e := Nat.mul_pos hm u1
  have b1 : 0 < m * dn e := Nat.mul_pos hm d1
  refine ⟨_, (pss_cons (ps_if (PW.pt (pw_or (pt_not (pt_val (pe_call G_is_number (hr.mono (by decide)) (by rfl) T.m_is_number T.F_is_number.kp T.b_is_number .nil pass0 (pa_cons (pv 1) pa_nil)))) (pw_or (pt_not (pt_val (pe_call G_is_number (hr.mono (by decide)) (by rfl) T.m_is_number T.F_is_number.kp T.b_is_number .nil pass0 (pa_cons (pv 2) pa_nil)))) (pw_or (pt_cmpR op_lt (pv 1) pe_int (nomark _)) (pw_or1 (pt_cmpR op_lt (pv 2) pe_int (nomark _))))))) (pss_one ps_never) pss_nil)
    (pss_cons (ps_set (i := 3) nd rfl (Or.inl rfl) (pe_callBfun cr_gcd (by rfl) T.m_gcd (pa_cons (pv 1) (pa_cons (pv 2) pa_nil))))
    (pss_cons (ps_fld (pv 0) (pe_op op_fdivW (pv 1) (pv 3)) rfl)
    (pss_cons (ps_fld (pv 0) (pe_op op_fdivW (pv 2) (pv 3)) rfl)
    (pss_one (ps_fld (pv 0) (pe_call G__powers_of hr (by rfl) T.m__powers_of T.F__powers_of.kp T.b__powers_of .nil pass0 (pa_cons (show PE _ _ (tFld K _ _) from pe_fld (pv 0) rfl) (pa_cons (show PE _ _ (tFld K _ _) from pe_fld (pv 0) rfl) pa_nil))) rfl)))))), ?_⟩
  refine ⟨_, rfl, _, rfl, true, rfl, ?_⟩
  refine ⟨_, rfl, _, rfl, true, rfl, ?_⟩
  refine ⟨_, rfl, _, _, rfl, rfl, false, congrArg V.bl (decide_eq_false (by omega)), ?_⟩
  refine ⟨_, rfl, _, _, rfl, rfl, false, congrArg V.bl (decide_eq_false (by omega)), ?_⟩
  refine ⟨_, rfl, _, rfl, _, _, rfl, ?_⟩
  have hg : ((Nat.gcd ((m * up e : Nat) : Int).natAbs ((m * dn e : Nat) : Int).natAbs : Nat) : Int) = (m : Int) := by
    rw [Int.natAbs_natCast, Int.natAbs_natCast, gcd_of (cop_e e)]
    exact m
  rw [hg]
  have hm0 : (0 : Int) < (m : Int) := by omega
  have hW : ∀ i : Int, CDivW i (m : Int) := fun i => wide_div hm0 (by simpa using hm3) (by decide) (by decide)
  have q1 : ((m * up e : Nat) : Int) / (m : Int) = ((up e : Nat) : Int) := by rw [← Int.natCast_ediv, Nat.mul_div_cancel_left _ hm]
  have q2 : ((m * dn e : Nat) : Int) / (m : Int) = ((dn e : Nat) : Int) := by rw [← Int.natCast_ediv, Nat.mul_div_cancel_left _ hm]
  refine ⟨_, rfl, _, rfl, _, _, rfl, rfl, hW _, ?_⟩
  dsimp only
  rw [q1]
  refine ⟨_, rfl, p, T.C_Ratio, dx, [], rfl, hp, T.c_Ratio, T.n_Ratio_over, (by show 0 < 1000; decide), ?_⟩
  refine ⟨_, rfl, _, rfl, _, _, rfl, rfl, hW _, ?_⟩
  dsimp only
  rw [q2]
  refine ⟨_, rfl, p, T.C_Ratio, dx, _, rfl, upd_same, T.c_Ratio, T.n_Ratio_under, (by show 1 < 1000; decide), ?_⟩
  refine ⟨_, rfl, p, T.C_Ratio, dx, _, _, rfl, upd_same, T.c_Ratio, T.n_Ratio_over, rfl, ?_⟩
  refine ⟨_, rfl, p, T.C_Ratio, dx, _, _, rfl, upd_same, T.c_Ratio, T.n_Ratio_under, rfl, ?_⟩
  refine ⟨e, rfl, hl, fun t4 H4 s4 ht4 => ?_⟩
  have hp4 := s4 _ _ (upd_same (H := upd H p _) (a := p))
  refine ⟨_, rfl, p, T.C_Ratio, dx, _, rfl, hp4, T.c_Ratio, T.n_Ratio_powers, (by show 2 < 1000; decide), ?_⟩
  rw [rf_put]
  refine q _ ⟨⟨dx, t4, upd_same, seqT_ins hp4 ht4⟩, hl⟩ fun c o x n => ?_
  rw [upd_ne n]
  refine s4 _ _ ?_
  rw [upd_ne n, upd_ne n]
  exact x
-- [0=base, 1=exponent, 2=raised]
def spRaised : Sp := fun vs H Q _ => ∃ (b n : Nat), vs = [.int (b : Int), .int (n : Int)] ∧ 0 < b ∧ b ^ n < 2 ^ 100000 ∧ ∀ H', Same H H' → Q (.int ((b ^ n : Nat) : Int)) H'
theorem raised_rest {b n c m y : Nat} {H : Hp} {σ : L2.St} {D : Ends} (hc : 0 < c) (hy : 0 < y) (hp : y * (c * c) ^ (m / 2) = b ^ n) (hB : b ^ n < 2 ^ 100000) (hσ : σ = [some (.int (c : Int)), some (.int (m : Int)), some (.int (y : Int))])
    (hD : D.nx = fun σ' H' => ∃ c' y' : Nat, H' = H ∧ 0 < c' ∧ 0 < y' ∧ y' * c' ^ (m / 2) = b ^ n ∧ σ' = [some (.int (c' : Int)), some (.int ((m / 2 : Nat) : Int)), some (.int (y' : Int))]) :
    tSeq (tAsg (tOp (rI CDivW fun i j => .int (i / j)) (tVar 1) (tC (.int 2))) (gName 1)) (tIfS (tTest (tOp (rI0 fun i j => .bl (decide (j < i))) (tVar 1) (tC (.int 0)))) (tAsg (tOp (rI CMulW fun i j => .int (i * j)) (tVar 0) (tVar 0)) (gName 0)) tNext) D σ H := by
  subst hσ
  refine ⟨_, rfl, _, _, rfl, rfl, wide_div (b := 2) (by decide) (by decide) (by decide) (by decide), ?_⟩
  have e : ((m : Int)) / 2 = ((m / 2 : Nat) : Int) := by omega
  by_cases h : 0 < m / 2
  · refine ⟨_, rfl, _, _, rfl, rfl, true, congrArg V.bl (decide_eq_true (show (0 : Int) < (m : Int) / 2 by omega)), ?_⟩
    have h1 : c * c ≤ (c * c) ^ (m / 2) := Nat.le_self_pow (by omega) _
    have h2 : (c * c) ^ (m / 2) ≤ b ^ n := by rw [← hp]; exact Nat.le_mul_of_pos_left _ hy
    have h3 : ((c : Int)).natAbs < 2 ^ 100000 := Nat.lt_of_le_of_lt (by rw [Int.natAbs_natCast]; exact Nat.le_trans (Nat.le_mul_of_pos_right c hc) (Nat.le_trans h1 h2)) hB
    refine ⟨_, rfl, _, rfl, _, _, rfl, rfl, wide_mul h3 h3 (by decide) (by decide) (by decide), ?_⟩
    show D.nx _ _
    rw [hD]
    exact ⟨c * c, y, rfl, Nat.mul_pos hc hc, hy, hp, congrArg (fun z => [some (V.int ((c * c : Nat) : Int)), some (V.int z), some (V.int (y : Int))]) e⟩
  · refine ⟨_, rfl, _, _, rfl, rfl, false, congrArg V.bl (decide_eq_false (show ¬ (0 : Int) < (m : Int) / 2 by omega)), ?_⟩
    show D.nx _ _
    rw [hD]
    have z : m / 2 = 0 := by omega
    rw [z, Nat.pow_zero, Nat.mul_one] at hp
    refine ⟨c, y, rfl, hc, hy, by rw [z, Nat.pow_zero, Nat.mul_one, hp], congrArg (fun z => [some (V.int (c : Int)), some (V.int z), some (V.int (y : Int))]) e⟩
theorem ok_raised (T : Tx K mg) : FnOk P w K mg base CX0 1 T.f__raised T.d__raised ["base", "exponent"] spRaised := by
  refine T.F__raised.ok sc__raised (fun vs H Q E h => ?_) (fun cdv A outer s H vs Q E hr h => ?_)
  · obtain ⟨b, n, rfl, _⟩ := h
    rfl
  obtain ⟨b, n, rfl, hb, hB, q⟩ := h
  have nd := sc__raised.nd
  refine ⟨_, (pss_cons (ps_set (i := 2) nd rfl (Or.inl rfl) pe_int)
    (pss_cons (ps_while PassesOwn.never (pt_cmpR op_gt (pv 1) pe_int (nomark _)) (pss_cons (ps_if (pt_cmpR op_eq (pe_op op_mod (pv 1) pe_int) pe_int (nomark _)) (pss_one (ps_set (i := 2) nd rfl (Or.inl rfl) (pe_op op_mulW (pv 2) (pv 0)))) pss_nil)
    (pss_cons (ps_set (i := 1) nd rfl (Or.inl rfl) (pe_op op_fdivW (pv 1) pe_int))
    (pss_one (ps_if (pt_cmpR op_gt (pv 1) pe_int (nomark _)) (pss_one (ps_set (i := 0) nd rfl (Or.inl rfl) (pe_op op_mulW (pv 0) (pv 0)))) pss_nil)))))
    (pss_one (ps_ret (pv 2))))), ?_⟩
  refine ⟨fun m σ H' => ∃ c x y : Nat, m = x ∧ H' = H ∧ 0 < c ∧ 0 < y ∧ y * c ^ x = b ^ n ∧ σ = [some (.int (c : Int)), some (.int (x : Int)), some (.int (y : Int))], ⟨n, b, n, 1, rfl, rfl, hb, Nat.one_pos, Nat.one_mul _, rfl⟩, ?_⟩
  rintro m σ H2 ⟨c, x, y, rfl, rfl, hc, hy, hp, rfl⟩
  by_cases hx : 0 < m
  · refine ⟨_, rfl, _, _, rfl, rfl, true, congrArg V.bl (decide_eq_true (by omega)), ?_⟩
    refine ⟨fun σ' H' => ∃ c' y' : Nat, H' = H2 ∧ 0 < c' ∧ 0 < y' ∧ y' * c' ^ (m / 2) = b ^ n ∧ σ' = [some (.int (c' : Int)), some (.int ((m / 2 : Nat) : Int)), some (.int (y' : Int))], fun σ' H' ⟨c', y', a1, a2, a3, a4, a5⟩ => ⟨m / 2, by omega, c', m / 2, y', rfl, a1, a2, a3, a4, a5⟩, ?_⟩
    have hcx : c ≤ c ^ m := Nat.le_self_pow (by omega) c
    have hyb : y * c ≤ b ^ n := by rw [← hp]; exact Nat.mul_le_mul_left y hcx
    refine ⟨_, rfl, _, _, rfl, rfl, (by show (0 : Int) < 2; decide), rfl, _, rfl, ?_⟩
    have hb2 : ∀ z : Nat, z ≤ b ^ n → ((z : Int)).natAbs < 2 ^ 100000 := fun z hz => Nat.lt_of_le_of_lt (by rw [Int.natAbs_natCast]; exact hz) hB
    have hyn : y ≤ b ^ n := Nat.le_trans (Nat.le_mul_of_pos_right y hc) hyb
    have hcn : c ≤ b ^ n := Nat.le_trans (Nat.le_mul_of_pos_left c hy) hyb
    have hm2 : c ^ m = (c * c) ^ (m / 2) * c ^ (m % 2) := by
      rw [← Nat.pow_two, ← Nat.pow_mul, ← Nat.pow_add, Nat.div_add_mod]
    refine ite2 (fun o => ?_) (fun o => ?_)
    · have o' : m % 2 = 1 := by
        have := of_decide_eq_true o
        rw [V.int.injEq] at this
        omega
      rw [o', Nat.pow_one] at hm2
      have hp2 : (y * c) * (c * c) ^ (m / 2) = b ^ n := by
        rw [← hp, hm2, Nat.mul_assoc, Nat.mul_comm c]
      refine ⟨_, rfl, _, rfl, _, _, rfl, rfl, wide_mul (hb2 y hyn) (hb2 c hcn) (by decide) (by decide) (by decide), ?_⟩
      exact raised_rest (y := y * c) hc (Nat.mul_pos hy hc) hp2 (hB := hB) rfl rfl
    · have o' : m % 2 = 0 := by
        have := of_decide_eq_false (Bool.eq_false_iff.mpr (by simpa using o))
        have t2 : ¬ ((m : Int)) % 2 = 1 := by simpa using this
        omega
      rw [o', Nat.pow_zero, Nat.mul_one] at hm2
      rw [hm2] at hp
      exact raised_rest (y := y) hc hy hp (hB := hB) rfl rfl
  · obtain rfl : m = 0 := by omega
    refine ⟨_, rfl, _, _, rfl, rfl, false, congrArg V.bl (decide_eq_false (by omega)), ?_⟩
    refine ⟨_, rfl, ?_⟩
    rw [Nat.pow_zero, Nat.mul_one] at hp
    rw [hp]
    exact q _ (Same.refl _)
end
end TL
namespace TL
open PySem PySem.Spec PyProof.Rows L2 PySem.W
/-! ### zip of a tuple and a list -/
theorem at_tuple {prog : Program} {w : World} {A : Around} (hh : A.handled = none) {it t : Addr} {h : Heap} {its : Array Value} {i : Nat} (hi : h.IsTupleIter it t i) (hT : h.IsTuple t its) (ne : t ≠ it) :
    ∃ n P St, Draws prog w A it [it, t] n P St ∧ St i h ∧ i ≤ n ∧ (its.size ≤ i → n = i) := by
  by_cases c : i ≤ its.size
  · exact ⟨_, _, _, Draws.tuple hh it t ne its, ⟨hi, hT⟩, c, fun z => Nat.le_antisymm z c⟩
  · refine ⟨i, fun _ _ => True, fun j g => j = i ∧ g.IsTupleIter it t i ∧ g.IsTuple t its, ⟨fun _ _ st => let ⟨o, ho, _⟩ := st.2.1; ⟨o, ho⟩, fun _ _ _ st k => ⟨st.1, st.2.1.at fun o e => k it (by simp) o e, st.2.2.at fun o e => k t (by simp) o e⟩, fun j _ _ _ hj st _ => absurd st.1 (Nat.ne_of_lt hj),
      fun _ _ _ st hE => wpAny_nextOf_tuple_end hh st.2.1 st.2.2 (Array.getElem?_eq_none (by omega)) hE⟩, ⟨rfl, hi, hT⟩, Nat.le_refl _, fun _ => rfl⟩
theorem at_list {prog : Program} {w : World} {A : Around} (hh : A.handled = none) {it t : Addr} {h : Heap} {its : Array Value} {i : Nat} (hi : h.IsListIter it t i) (hT : h.IsList t its) (ne : t ≠ it) :
    ∃ n P St, Draws prog w A it [it, t] n P St ∧ St i h ∧ i ≤ n ∧ (its.size ≤ i → n = i) := by
  by_cases c : i ≤ its.size
  · exact ⟨_, _, _, Draws.list hh it t ne its, ⟨hi, hT⟩, c, fun z => Nat.le_antisymm z c⟩
  · refine ⟨i, fun _ _ => True, fun j g => j = i ∧ g.IsListIter it t i ∧ g.IsList t its, ⟨fun _ _ st => let ⟨o, ho, _⟩ := st.2.1; ⟨o, ho⟩, fun _ _ _ st k => ⟨st.1, st.2.1.at fun o e => k it (by simp) o e, st.2.2.at fun o e => k t (by simp) o e⟩, fun j _ _ _ hj st _ => absurd st.1 (Nat.ne_of_lt hj),
      fun _ _ _ st hE => wpAny_nextOf_list_end hh st.2.1 st.2.2 (Array.getElem?_eq_none (by omega)) hE⟩, ⟨rfl, hi, hT⟩, Nat.le_refl _, fun _ => rfl⟩
def ItzM (K : PySem.W.Frag) (a b : Addr) : It :=
  ⟨fun i H => ∃ xs ys x y, SqT K H a xs ∧ SqL K H b ys ∧ xs[i]? = some x ∧ ys[i]? = some y,
    fun i H v H' => ∃ T x y, v = .ref T ∧ H T = none ∧ H' = upd H T (.tup [x, y]) ∧ (∀ xs, SqT K H a xs → xs[i]? = some x) ∧ ∀ ys, SqL K H b ys → ys[i]? = some y,
    fun i H => ∃ xs ys, SqT K H a xs ∧ SqL K H b ys ∧ (xs.length ≤ i ∨ ys.length ≤ i)⟩
theorem turn_zipM {P : Program} {w : World} {K : PySem.W.Frag} {elts : List Expr} {kk : Nat} {tp : Pos} {a b z TI TO i1 i2 : Addr} (S : ZipSep2 z TI TO i1 i2 [i1, a] [i2, b]) :
    Turn P w K (.Tuple elts kk tp) (ItzM K a b) [z, TI, TO, i1, i2] z (fun i h => IsZip h z TI TO .none ∧ IsPair h TI (.ref i1) (.ref i2) ∧ (∃ x y, IsPair h TO x y) ∧ h.IsTupleIter i1 a i ∧ h.IsListIter i2 b i) where
  mem := List.mem_cons_self ..
  obj := fun i h st c hc => by
    obtain ⟨hz, hTI, ⟨x, y, hTO⟩, ⟨o1, e1, _, d1⟩, ⟨o2, e2, _, d2⟩⟩ := st
    simp only [List.mem_cons, List.not_mem_nil, or_false] at hc
    rcases hc with rfl | rfl | rfl | rfl | rfl
    · exact ⟨_, hz, fun v q => nomatch q⟩
    · exact ⟨_, hTI, fun v q => nomatch q⟩
    · exact ⟨_, hTO, fun v q => nomatch q⟩
    · exact ⟨o1, e1, fun v q => by rw [d1] at q; cases q⟩
    · exact ⟨o2, e2, fun v q => by rw [d2] at q; cases q⟩
  keep := fun i h h' st k => by
    obtain ⟨hz, hTI, ⟨x, y, hTO⟩, e1, e2⟩ := st
    exact ⟨k z (by simp) _ hz, k TI (by simp) _ hTI, ⟨x, y, k TO (by simp) _ hTO⟩, e1.at fun o q => k i1 (by simp) o q, e2.at fun o q => k i2 (by simp) o q⟩
  item := by
    intro X hP hw hK hc i pins s σ H E I hf st hg
    subst hP hw hK
    obtain ⟨hz, hTI, ⟨x0, y0, hTO⟩, e1, e2⟩ := st
    obtain ⟨xs, ys, x, y, qx, qy, hx, hy⟩ := hg
    obtain ⟨t1, r1, p1, _⟩ := I.tuple qx
    obtain ⟨t2, r2, p2, _⟩ := I.list qy
    obtain ⟨u1, hu1, ru1⟩ := r1.get hx
    obtain ⟨u2, hu2, ru2⟩ := r2.get hy
    have hT : s.heap.IsTuple a t1.toArray := p1
    have hL : s.heap.IsList b t2.toArray := p2.isList
    have n1 : a ≠ i1 := cls_ne (let ⟨o, q1, q2, _⟩ := hT; ⟨o, q1, q2⟩) (let ⟨o, q1, q2, _⟩ := e1; ⟨o, q1, q2⟩) (by decide)
    have n2 : b ≠ i2 := cls_ne (let ⟨o, q1, q2, _⟩ := hL; ⟨o, q1, q2⟩) (let ⟨o, q1, q2, _⟩ := e2; ⟨o, q1, q2⟩) (by decide)
    have hh : X.A.in1.handled = none := I.ok.hd hc
    have lz : z < s.heap.objs.size := Heap.lt_size hz
    have l1 : i < t1.toArray.size := by simpa using (List.getElem?_eq_some_iff.mp hu1).1
    have l2 : i < t2.toArray.size := by simpa using (List.getElem?_eq_some_iff.mp hu2).1
    refine wpAny_pyNext_zipD2_item S (Draws.tuple hh i1 a n1 t1.toArray) (Draws.list hh i2 b n2 t2.toArray) hz hTI hTO ⟨e1, hT⟩ ⟨e2, hL⟩ l1 l2 fun v1 v2 h' tk g1 g2 z' TO' s1 s2 hT2 hsz hk => ?_
    obtain rfl : u1 = v1 := Option.some.inj (hu1.symm.trans (by simpa using g1))
    obtain rfl : u2 = v2 := Option.some.inj (hu2.symm.trans (by simpa using g2))
    refine ⟨_, rfl, wpAny_letOwnedTupleGo_zip (s := { s with heap := h', toks := tk }) z' fun h2 z2 sb => ?_⟩
    have hT3 : h2.get? s.heap.objs.size = some { cls := .type "tuple", data := .seq #[u1, u2] } := (sb.2 _ (Nat.ne_of_gt lz)).trans hT2
    have new : ObjOk X.prog X.w (upd H s.heap.objs.size (.tup [x, y])) h2 s.heap.objs.size (.tup [x, y]) := ⟨(show 2 ≤ sizeLine by decide), [u1, u2], .cons ru1 (.cons ru2 .nil), ⟨_, hT3, rfl, _, rfl⟩⟩
    have I1 : Inv X pins σ (upd H s.heap.objs.size (.tup [x, y])) { s with heap := h2, toks := tk } :=
      I.turnedNew (ch := [z, TI, TO, i1, i2]) (fun c o hb q => (sb.2 c fun q' => hb (by simp [q'])).trans (hk c o (fun q' => hb (by simp [q'])) (fun q' => hb (by simp [q'])) (fun q' => hb (by simp [q'])) (fun q' => hb (by simp [q'])) q)) hf (Nat.le_refl _) new
    have z1 : z ≠ i1 := S.zi1
    have z3 : z ≠ i2 := S.zi2
    refine ⟨.ref s.heap.objs.size, _, I1, rfl, ⟨_, x, y, rfl, I.hok.fresh (Nat.le_refl _), rfl, fun l hl => by rw [I.tuple_inj hl qx]; exact hx, fun l hl => by rw [I.list_inj hl qy]; exact hy⟩, ⟨z2, ?_, ⟨u1, u2, ?_⟩, ?_, ?_⟩, fun c hcm => ?_⟩
    · exact (sb.2 _ S.TIz).trans (hk _ _ S.TIz S.TITO S.TIi1 S.TIi2 hTI)
    · exact (sb.2 _ S.TOz).trans TO'
    · exact s1.1.at fun o q => (sb.2 _ (Ne.symm z1)).trans q
    · exact s2.1.at fun o q => (sb.2 _ (Ne.symm z3)).trans q
    · have lc : c < s.heap.objs.size := by
        simp only [List.mem_cons, List.not_mem_nil, or_false] at hcm
        rcases hcm with rfl | rfl | rfl | rfl | rfl
        · exact lz
        · exact Heap.lt_size hTI
        · exact Heap.lt_size hTO
        · obtain ⟨_, q, _⟩ := e1
          exact Heap.lt_size q
        · obtain ⟨_, q, _⟩ := e2
          exact Heap.lt_size q
      rw [upd_ne (Nat.ne_of_lt lc)]
      exact (hf c hcm).1
  done := by
    intro X hP hw hK hc i pins s σ H E I hf st hg
    subst hP hw hK
    obtain ⟨hz, hTI, ⟨x0, y0, hTO⟩, e1, e2⟩ := st
    obtain ⟨xs, ys, qx, qy, hend⟩ := hg
    obtain ⟨t1, r1, p1, _⟩ := I.tuple qx
    obtain ⟨t2, r2, p2, _⟩ := I.list qy
    have hT : s.heap.IsTuple a t1.toArray := p1
    have hL : s.heap.IsList b t2.toArray := p2.isList
    have n1 : a ≠ i1 := cls_ne (let ⟨o, q1, q2, _⟩ := hT; ⟨o, q1, q2⟩) (let ⟨o, q1, q2, _⟩ := e1; ⟨o, q1, q2⟩) (by decide)
    have n2 : b ≠ i2 := cls_ne (let ⟨o, q1, q2, _⟩ := hL; ⟨o, q1, q2⟩) (let ⟨o, q1, q2, _⟩ := e2; ⟨o, q1, q2⟩) (by decide)
    have hh : X.A.in1.handled = none := I.ok.hd hc
    have l1 := r1.length
    have l2 := r2.length
    obtain ⟨m1, P1, S1, D1, g1, k1, f1⟩ := at_tuple (prog := X.prog) (w := X.w) hh e1 hT n1
    obtain ⟨m2, P2, S2, D2, g2, k2, f2⟩ := at_list (prog := X.prog) (w := X.w) hh e2 hL n2
    refine wpAny_pyNext_zipD2_end S D1 D2 hz hTI hTO g1 g2 k1 k2 ?_ fun h' tk hk => ⟨rfl, I.turnedL (t' := tk) (ch := [z, TI, TO, i1, i2]) (fun c o hb q => hk c o (fun q' => hb (by simp [q'])) (fun q' => hb (by simp [q'])) (fun q' => hb (by simp [q'])) (fun q' => hb (by simp [q'])) q) hf⟩
    rcases hend with q | q
    · exact .inl (f1 (by simp; omega)).symm
    · exact .inr (f2 (by simp; omega)).symm
  self := fun A i s Q E st h => wpAny_pyIter_zip st.1 h
/-- zip of a tuple and a list or a tuple -/
def ZipOf (K : PySem.W.Frag) (H : Hp) (a b : Addr) (ys : List V) (J : It) : Prop := (SqL K H b ys ∧ J = ItzM K a b) ∨ (SqT K H b ys ∧ J = RZ.ItzT K a b)
def iZipP (K : PySem.W.Frag) (ta : TA) : TI := fun σ H R => ta σ H fun vs H1 => ∃ a b xs ys, vs = [.ref a, .ref b] ∧ SqT K H1 a xs ∧ Sq K H1 b ys ∧ ∀ J, ZipOf K H1 a b ys J → R J H1
theorem pi_zipP {X : Cx} {e e2 : Expr} {ta : TA} {p pos tp : Pos} {elts : List Expr} {kk : Nat} (hg : Gl X "zip") (hm : X.mg "zip" = none) (ha : PA X [e, e2] ta)
    (hs : starEach [e, e2] X.env = (false, eval e X.env) :: starEach [e2] X.env := by rfl) (hpl : (backTo pos (starEach [e2] X.env)).any (·.1) = false := by rfl) :
    PI X (.Tuple elts kk tp) (.Call (.Name "zip" p) [e, e2] [] pos) (iZipP X.K ta) := by
  refine ⟨fun pins s σ H R I h => Call_ (ld_blt I hg hm PyProof.Rows.boot_zip (PyProof.Rows.callWith_type1 (thn (ha.run pos pins s σ H _ I h) fun us s1 ⟨vs, H1, I1, r1, q1⟩ => ?_) hs hpl))⟩
  obtain ⟨a, b, xs, ys, ex, hqx, hqB, q1⟩ := q1
  subst ex
  cases r1 with
  | cons r rr =>
    cases rr with
    | cons r' rr =>
      cases rr
      cases r
      cases r'
      have fresh5 : ∀ c, c ∈ [s1.heap.objs.size + 4, s1.heap.objs.size + 2, s1.heap.objs.size + 3, s1.heap.objs.size, s1.heap.objs.size + 1] → FpOk X pins H1 c := fun c hcm => by
        simp only [List.mem_cons, List.not_mem_nil, or_false] at hcm
        have lc : s1.heap.objs.size ≤ c := by
          rcases hcm with z | z | z | z | z
          · exact z ▸ Nat.le_add_right _ _
          · exact z ▸ Nat.le_add_right _ _
          · exact z ▸ Nat.le_add_right _ _
          · exact z ▸ Nat.le_refl _
          · exact z ▸ Nat.le_add_right _ _
        exact I1.fpOk lc (I1.hok.fresh lc)
      obtain ⟨its, rv, p1, _⟩ := I1.tuple hqx
      obtain ⟨o1, ho1, _⟩ := id p1
      have hT : s1.heap.IsTuple a its.toArray := p1
      rcases hqB with hqy | hqy
      · obtain ⟨its2, rv2, p2, _⟩ := I1.list hqy
        have hL : s1.heap.IsList b its2.toArray := p2.isList
        obtain ⟨o2, ho2, _⟩ := id hL
        refine zip_begins2 (begins_tuple a its.toArray) (begins_list b its2.toArray) hT hL fun h' hz hTI hTO h1 h2 hsz hk => wpAny_pyIter_zip hz ?_
        have I2 : Inv X pins σ H1 { s1 with heap := h' } := I1.kept (t' := s1.toks) hk
        exact ⟨s1.heap.objs.size + 4, [s1.heap.objs.size + 4, s1.heap.objs.size + 2, s1.heap.objs.size + 3, s1.heap.objs.size, s1.heap.objs.size + 1], _, _, H1, rfl, I2,
          turn_zipM (zip_sep2 (fp1 := [a]) (fp2 := [b]) (fun c hc => by rw [List.mem_singleton.mp hc]; exact Heap.lt_size ho1) (fun c hc => by rw [List.mem_singleton.mp hc]; exact Heap.lt_size ho2)), ⟨hz, hTI, ⟨_, _, hTO⟩, ⟨_, h1, rfl, rfl⟩, ⟨_, h2, rfl, rfl⟩⟩, fresh5, q1 _ (.inl ⟨hqy, rfl⟩)⟩
      · obtain ⟨its2, rv2, p2, _⟩ := I1.tuple hqy
        obtain ⟨o2, ho2, _⟩ := id p2
        refine RZ.call_zipT hT (show s1.heap.IsTuple b its2.toArray from p2) fun h' hz hTI hTO h1 h2 hsz hk => wpAny_pyIter_zip hz ?_
        have I2 : Inv X pins σ H1 { s1 with heap := h' } := I1.kept (t' := s1.toks) hk
        exact ⟨s1.heap.objs.size + 4, [s1.heap.objs.size + 4, s1.heap.objs.size + 2, s1.heap.objs.size + 3, s1.heap.objs.size, s1.heap.objs.size + 1], _, _, H1, rfl, I2, RZ.turn_zipT (PySem.W.ktu_apart s1.heap.objs.size a b (Heap.lt_size ho1) (Heap.lt_size ho2)), ⟨hz, hTI, ⟨_, _, hTO⟩, h1, h2⟩, fresh5, q1 _ (.inr ⟨hqy, rfl⟩)⟩
theorem walk_zipM {K : PySem.W.Frag} {a b : Addr} {xs ys : List V} (h : xs.length = ys.length) : Walk (ItzM K a b) xs.length (fun H => SqT K H a xs ∧ SqL K H b ys) (YPair (fun i => xs[i]?) (fun i => ys[i]?)) := by
  refine ⟨fun i _ hi q => ⟨xs, ys, xs[i], ys[i]'(h ▸ hi), q.1, q.2, List.getElem?_eq_getElem hi, List.getElem?_eq_getElem (h ▸ hi)⟩, fun _ q => ⟨xs, ys, q.1, q.2, .inl (Nat.le_refl _)⟩, fun i H v H' _ q y => ?_⟩
  obtain ⟨T, x, y, e1, e2, e3, e4, e5⟩ := y
  exact ⟨T, x, y, e1, e2, e3, e4 xs q.1, e5 ys q.2⟩
theorem ZipOf.walk {K : PySem.W.Frag} {H : Hp} {a b : Addr} {xs ys : List V} {J : It} (z : ZipOf K H a b ys J) (hx : SqT K H a xs) (h : xs.length = ys.length) :
    ∃ G : Hp → Prop, Walk J xs.length G (YPair (fun i => xs[i]?) (fun i => ys[i]?)) ∧ ∀ H', Same H H' → G H' := by
  rcases z with ⟨hy, rfl⟩ | ⟨hy, rfl⟩
  · exact ⟨_, walk_zipM h, fun H' s => ⟨seqT s hx, s.seq hy⟩⟩
  · exact ⟨_, walk_zipT (by omega), fun H' s => ⟨seqT s hx, seqT s hy⟩⟩
end TL
namespace TL
open PySem L2

/-! ### steps of a reading -/
local macro_rules | `(tactic| walk_at "hp") => `(tactic| first | assumption | exact upd_same | (refine (upd_ne (by first | assumption | (exact Ne.symm (by assumption)))).trans ?_; walk_at "hp"))
local macro_rules | `(tactic| walk_at "ok") => `(tactic| first | (exact Or.inr ⟨by decide, by decide⟩) | (exact ⟨by decide, by decide⟩) | (exact ⟨by decide, by decide, by decide⟩) | (show _ ≠ _; omega) | (show _ ≠ _; decide) | (exact Or.inl ⟨by omega, by omega⟩) | decide)
local macro_rules | `(tactic| walk_at "sq") => `(tactic| first | assumption | exact SqL.of (by walk_at "hp") | exact SqT.of (by walk_at "hp"))
local macro_rules | `(tactic| walk_at "ty") => `(tactic| first | refine ⟨_, _, Value.type "int", Value.type "list", false, rfl, ClsV.ty _, TyX.base (TyOf.int _), kt_int_list, ?_⟩ | refine ⟨_, _, Value.type "bool", Value.type "list", false, rfl, ClsV.ty _, TyX.base (TyOf.bl _), kt_bool_list, ?_⟩ | refine ⟨_, _, Value.type "str", Value.type "list", false, rfl, ClsV.ty _, TyX.base (TyOf.str _), kt_str_list, ?_⟩ | refine ⟨_, _, Value.type "NoneType", Value.type "list", false, rfl, ClsV.ty _, TyX.base TyOf.non, kt_NoneType_list, ?_⟩ | refine ⟨_, _, Value.type "list", Value.type "list", true, rfl, ClsV.ty _, tyx_L (by walk_at "sq"), kt_list_list, ?_⟩ | refine ⟨_, _, Value.type "tuple", Value.type "list", false, rfl, ClsV.ty _, tyx_T (by walk_at "sq"), kt_tuple_list, ?_⟩ | refine ⟨_, _, Value.type "int", Value.type "tuple", false, rfl, ClsV.ty _, TyX.base (TyOf.int _), kt_int_tuple, ?_⟩ | refine ⟨_, _, Value.type "bool", Value.type "tuple", false, rfl, ClsV.ty _, TyX.base (TyOf.bl _), kt_bool_tuple, ?_⟩ | refine ⟨_, _, Value.type "str", Value.type "tuple", false, rfl, ClsV.ty _, TyX.base (TyOf.str _), kt_str_tuple, ?_⟩ | refine ⟨_, _, Value.type "NoneType", Value.type "tuple", false, rfl, ClsV.ty _, TyX.base TyOf.non, kt_NoneType_tuple, ?_⟩ | refine ⟨_, _, Value.type "list", Value.type "tuple", false, rfl, ClsV.ty _, tyx_L (by walk_at "sq"), kt_list_tuple, ?_⟩ | refine ⟨_, _, Value.type "tuple", Value.type "tuple", true, rfl, ClsV.ty _, tyx_T (by walk_at "sq"), kt_tuple_tuple, ?_⟩ | refine ⟨_, _, Value.type "int", Value.type "bool", false, rfl, ClsV.ty _, TyX.base (TyOf.int _), kt_int_bool, ?_⟩ | refine ⟨_, _, Value.type "bool", Value.type "bool", true, rfl, ClsV.ty _, TyX.base (TyOf.bl _), kt_bool_bool, ?_⟩ | refine ⟨_, _, Value.type "str", Value.type "bool", false, rfl, ClsV.ty _, TyX.base (TyOf.str _), kt_str_bool, ?_⟩ | refine ⟨_, _, Value.type "NoneType", Value.type "bool", false, rfl, ClsV.ty _, TyX.base TyOf.non, kt_NoneType_bool, ?_⟩ | refine ⟨_, _, Value.type "list", Value.type "bool", false, rfl, ClsV.ty _, tyx_L (by walk_at "sq"), kt_list_bool, ?_⟩ | refine ⟨_, _, Value.type "tuple", Value.type "bool", false, rfl, ClsV.ty _, tyx_T (by walk_at "sq"), kt_tuple_bool, ?_⟩ | refine ⟨_, _, Value.type "int", Value.type "int", true, rfl, ClsV.ty _, TyX.base (TyOf.int _), kt_int_int, ?_⟩ | refine ⟨_, _, Value.type "bool", Value.type "int", true, rfl, ClsV.ty _, TyX.base (TyOf.bl _), kt_bool_int, ?_⟩ | refine ⟨_, _, Value.type "str", Value.type "int", false, rfl, ClsV.ty _, TyX.base (TyOf.str _), kt_str_int, ?_⟩ | refine ⟨_, _, Value.type "NoneType", Value.type "int", false, rfl, ClsV.ty _, TyX.base TyOf.non, kt_NoneType_int, ?_⟩ | refine ⟨_, _, Value.type "list", Value.type "int", false, rfl, ClsV.ty _, tyx_L (by walk_at "sq"), kt_list_int, ?_⟩ | refine ⟨_, _, Value.type "tuple", Value.type "int", false, rfl, ClsV.ty _, tyx_T (by walk_at "sq"), kt_tuple_int, ?_⟩ | refine ⟨_, _, Value.type "int", Value.type "str", false, rfl, ClsV.ty _, TyX.base (TyOf.int _), kt_int_str, ?_⟩ | refine ⟨_, _, Value.type "bool", Value.type "str", false, rfl, ClsV.ty _, TyX.base (TyOf.bl _), kt_bool_str, ?_⟩ | refine ⟨_, _, Value.type "str", Value.type "str", true, rfl, ClsV.ty _, TyX.base (TyOf.str _), kt_str_str, ?_⟩ | refine ⟨_, _, Value.type "NoneType", Value.type "str", false, rfl, ClsV.ty _, TyX.base TyOf.non, kt_NoneType_str, ?_⟩ | refine ⟨_, _, Value.type "list", Value.type "str", false, rfl, ClsV.ty _, tyx_L (by walk_at "sq"), kt_list_str, ?_⟩ | refine ⟨_, _, Value.type "tuple", Value.type "str", false, rfl, ClsV.ty _, tyx_T (by walk_at "sq"), kt_tuple_str, ?_⟩)
local macro_rules | `(tactic| walk_at "go1") => `(tactic| first
  | (refine ⟨_, rfl, ?_⟩)
  | (refine ⟨_, _, rfl, rfl, ?_⟩)
  | (refine ⟨_, _, _, _, rfl, rfl, SqL.of (by walk_at "hp"), rfl, ?_⟩)
  | (refine Or.inl ⟨_, rfl, ?_⟩)
  | (refine ⟨rfl, ?_⟩)
  | (refine ⟨_, _, rfl, .inl (SqL.of (by walk_at "hp")), ?_⟩)
  | (refine ⟨_, _, rfl, Or.inl (by assumption), ?_⟩)
  | (refine ⟨_, _, rfl, Or.inr (by assumption), ?_⟩)
  | (refine ⟨(by walk_at "ok"), ?_⟩)
  | (refine ⟨_, _, _, _, rfl, rfl, (by walk_at "hp"), rfl, ?_⟩))
local macro_rules | `(tactic| walk_at "go") => `(tactic| repeat (walk_at "go1"))
local macro_rules | `(tactic| walk_at "gt") => `(tactic| repeat (first | walk_at "go1" | walk_at "ty"))

section
variable {P : Program} {w : World} {K : PySem.W.Frag} {mg : Str → Option Value} {base : Heap}
-- [0=powers, 1=number, 2=at, 3=prime, 4=power] [0=powers, 1=over, 2=under, 3=prime, 4=power]
theorem bits_gt (m : Int) : m.natAbs < 2 ^ Builtin.Int.intBits m := by
  unfold Builtin.Int.intBits
  by_cases h : m = 0
  · subst h
    decide
  · rw [if_neg (by simpa using h)]
    exact Nat.lt_log2_self
theorem bits_small {m : Int} {k : Nat} (h : m.natAbs < 2 ^ k) : Builtin.Int.intBits m ≤ k := PyProof.Rows.intBits_le h
theorem bit_val (a k : Nat) : ((a : Int) / 2 ^ k).fmod 2 = ((a / 2 ^ k % 2 : Nat) : Int) := by
  rw [Int.fmod_eq_emod_of_nonneg _ (by decide)]
  norm_cast
theorem cut1 (x : V) (xs : List V) : cutV (x :: xs) (some 1) none = xs := by
  unfold cutV
  have e1 : HT.sIx (x :: xs).length 0 (some 1) = 1 := by
    unfold HT.sIx
    simp
  have e2 : HT.sIx (x :: xs).length (x :: xs).length none = (x :: xs).length := rfl
  rw [e1, e2]
  simp
def ps5 : List Nat := [3, 5, 7, 11, 13]
theorem ps5_two : ∀ p ∈ ps5, 2 ≤ p := by decide
def spMade (K : PySem.W.Frag) : Sp := fun vs H Q _ => ∃ (a : Addr) (as : List Nat), vs = [.ref a] ∧ SqL K H a (nL as) ∧ as.length = 6 ∧ pp prs as < 2 ^ 100000 ∧ ∀ H', Same H H' → Q (.int ((pp prs as : Nat) : Int)) H'
theorem ok_made_of (T : Tx K mg) : FnOk P w K mg base CX0 1 T.f__made_of T.d__made_of ["powers"] (spMade K) := by
  refine T.F__made_of.ok sc__made_of (fun vs H Q E h => ?_) (fun cdv A outer s H vs Q E hr h => ?_)
  · obtain ⟨a, as, rfl, _⟩ := h
    rfl
  obtain ⟨a, as, rfl, ha, hl, hu, q⟩ := h
  have nd := sc__made_of.nd
  refine ⟨_, (pss_cons (ps_set (i := 1) nd rfl (Or.inl rfl) pe_int)
    (pss_cons (ps_for PassesOwn.never rfl (pi_revR (by rfl) T.z_reversed (prg_1 (by rfl) T.z_range (pe_bits (pe_callB (show CallR _ _ (rMaxS K) from cr_maxS rfl) (by rfl) T.z_max (by decide +kernel) (pa_cons (pv 0) pa_nil))))) (pg_name (i := 2) nd rfl (Or.inl rfl)) (pss_cons (ps_set (i := 1) nd rfl (Or.inl rfl) (pe_op op_mulW (pv 1) (pv 1)))
    (pss_one (ps_for PassesOwn.never rfl (show PI _ _ _ (iZipP K _) from pi_zipP (by rfl) T.z_zip (pa_cons (pe_slice (show SlR _ (rSlT K) from sl_tup) (pe_glob (v := .ref T.e_PRIMES) (by rfl) T.m_PRIMES rfl) (po_some pe_int) po_none) (pa_cons (pe_slice (show SlR _ (rSlL K) from sl_list) (pv 0) (po_some pe_int) po_none) pa_nil))) (pg_tup rfl (pgs_cons (pg_name (i := 3) nd rfl (Or.inl rfl)) (pgs_cons (pg_name (i := 4) nd rfl (Or.inl rfl)) pgs_nil))) (pss_one (ps_if (pt_cmpR op_eq (pe_op op_modN (pe_op op_shrN (pv 4) (pv 2)) pe_int) pe_int (nomark _)) (pss_one (ps_set (i := 1) nd rfl (Or.inl rfl) (pe_op op_mulW (pv 1) (pv 3)))) pss_nil))))))
    (pss_one (ps_ret (pe_op op_shlN (pv 1) (pe_ix (show IxR _ (rIxL K) from ix_list) (pv 0) pe_int (fun _ _ => rfl))))))), ?_⟩
  obtain ⟨a0, as5, rfl, hl5⟩ : ∃ a0 as5, as = a0 :: as5 ∧ as5.length = 5 := by
    match as, hl with
    | a0 :: as5, h => exact ⟨a0, as5, rfl, Nat.succ.inj h⟩
  have pe : pp prs (a0 :: as5) = 2 ^ a0 * pp ps5 as5 := rfl
  have hu5 : pp ps5 as5 ≤ pp prs (a0 :: as5) := by rw [pe]; exact Nat.le_mul_of_pos_left _ (Nat.pow_pos (by decide))
  have hb : ∀ {b : Nat}, b ≤ pp ps5 as5 → ((b : Int)).natAbs < 2 ^ 100000 := fun h => Nat.lt_of_le_of_lt (by rw [Int.natAbs_natCast]; exact Nat.le_trans h hu5) hu
  have hlt : ∀ x ∈ (a0 :: as5), x < 100000 := fun x hx => (Nat.pow_lt_pow_iff_right (by decide : 1 < 2)).mp (Nat.lt_of_le_of_lt (pp_ge (ps := prs) (by decide) (by rw [hl]; decide) x hx) hu)
  have hsh : CShl ((pp ps5 as5 : Nat) : Int) (a0 : Int) := shl_ok (hb (Nat.le_refl _)) (by
    have := hlt a0 (List.mem_cons_self ..)
    clear hu hb hlt
    omega)
  clear hu
  refine ⟨_, rfl, a, (a0 :: as5).map (fun n : Nat => (n : Int)), rfl, .inl (by rw [← nL_int]; exact ha), by rw [List.length_map, hl]; decide, fun m hm hle => ?_⟩
  have hm0 : 0 ≤ m := by
    obtain ⟨x, _, rfl⟩ := List.mem_map.mp hm
    omega
  have hm1 : m.natAbs < 2 ^ 17 := by
    obtain ⟨x, hx, rfl⟩ := List.mem_map.mp hm
    have := hlt x hx
    rw [Int.natAbs_natCast]
    exact Nat.lt_trans this (by decide)
  have hn := bits_small hm1
  have hmb := bits_gt m
  obtain ⟨n, en⟩ : ∃ n, n = Builtin.Int.intBits m := ⟨_, rfl⟩
  rw [← en] at hn hmb
  have hall : ∀ x ∈ as5, x < 2 ^ n := fun x hx => by
    have := hle x (List.mem_map.mpr ⟨x, List.mem_cons_of_mem _ hx, rfl⟩)
    have : x ≤ m.natAbs := by omega
    omega
  have shr_le : ∀ k, pp ps5 (shrE k as5) ≤ pp ps5 as5 := fun k => pp_shr_le k ps5_two
  refine ⟨m, rfl, (n : Int), by rw [en], by decide, by decide, (by clear hb hlt; omega), (by clear hb hlt; omega), for_rangeC (fun i σ H' => Same H H' ∧ ∃ a2 a3 a4, σ = [some (.ref a), some (.int ((pp ps5 (shrE (n - i) as5) : Nat) : Int)), a2, a3, a4]) ⟨Same.refl _, none, none, none, ?_⟩ ?_ ?_⟩
  · rw [Nat.sub_zero, shr_top hall]
    rfl
  · rintro i σ H1 hi ⟨s1, a2, a3, a4, rfl⟩
    replace hi : i < n := by omega
    have ek : (0 + ((((n : Int) - 0).toNat : Nat) : Int) - 1) + ((i : Nat) : Int) * (-1) = ((n - 1 - i : Nat) : Int) := by omega
    rw [ek]
    obtain ⟨k, hk⟩ : ∃ k, k = n - 1 - i := ⟨_, rfl⟩
    rw [← hk]
    have hk1 : n - i = k + 1 := by omega
    rw [hk1]
    have st := pp_step k ps5 as5
    have bpos : 0 < pp ps5 (bitE k as5) := pp_pos2 _ ps5_two
    have sq_le : pp ps5 (shrE (k + 1) as5) * pp ps5 (shrE (k + 1) as5) ≤ pp ps5 as5 := Nat.le_trans (Nat.le_mul_of_pos_right _ bpos) (by rw [← st]; exact shr_le k)
    refine ⟨_, rfl, _, rfl, _, _, rfl, rfl, wide_mul (hb (shr_le _)) (hb (shr_le _)) (by decide) (by decide) (by decide), ?_⟩
    have c1 : cutV (nL prs) (some 1) none = nL ps5 := cut1 (.int ((2 : Nat) : Int)) (nL ps5)
    have c2 : cutV (nL (a0 :: as5)) (some 1) none = nL as5 := cut1 (.int (a0 : Int)) (nL as5)
    refine ⟨1, rfl, T.e_PRIMES, nL prs, rfl, T.q_PRIMES _, by decide, fun pA hpA => ?_⟩
    have sA := s1.trans (Same.new (o := .tup (cutV (nL prs) (some 1) none)) hpA)
    refine ⟨_, rfl, 1, rfl, a, nL (a0 :: as5), rfl, sA.seq ha, fun pB hpB => ?_⟩
    have sB := sA.trans (Same.new (o := .lst (cutV (nL (a0 :: as5)) (some 1) none)) hpB)
    have hT := Same.new (o := .lst (cutV (nL (a0 :: as5)) (some 1) none)) hpB _ _ (upd_same (H := H1) (a := pA) (o := .tup (cutV (nL prs) (some 1) none)))
    have hL := upd_same (H := upd H1 pA (.tup (cutV (nL prs) (some 1) none))) (a := pB) (o := .lst (cutV (nL (a0 :: as5)) (some 1) none))
    generalize upd (upd H1 pA (.tup (cutV (nL prs) (some 1) none))) pB (.lst (cutV (nL (a0 :: as5)) (some 1) none)) = H2 at *
    rw [c1] at hT
    rw [c2] at hL
    clear sA hpA hpB c1 c2
    have l5 : (nL ps5).length = (nL as5).length := by rw [List.length_map, List.length_map, hl5]; rfl
    refine ⟨pA, pB, nL ps5, nL as5, rfl, SqT.of hT, .inl (SqL.of hL), fun J z => ?_⟩
    obtain ⟨G, wz, wG⟩ := z.walk (xs := nL ps5) (SqT.of hT) l5
    refine for_it wz (fun j σ H' => Same H2 H' ∧ ∃ a3 a4, σ = [some (.ref a), some (.int ((pp ps5 (shrE (k + 1) as5) * pp ps5 (shrE (k + 1) as5) * pp (ps5.take j) ((bitE k as5).take j) : Nat) : Int)), some (.int (k : Int)), a3, a4]) ⟨Same.refl _, a3, a4, ?_⟩ (fun j σ H' _ h => wG H' h.1) ?_ ?_
    · rw [show pp (ps5.take 0) ((bitE k as5).take 0) = 1 from rfl, Nat.mul_one]
      rfl
    · rintro j v σ H3 H4 hj ⟨s3, b3, b4, rfl⟩ ⟨t, x, y, rfl, ht, rfl, hx, hy⟩
      replace hj : j < 5 := hj
      have hx' : (ps5.map fun n : Nat => V.int (n : Int))[j]? = some x := hx
      have hy' : (as5.map fun n : Nat => V.int (n : Int))[j]? = some y := hy
      rw [List.getElem?_map] at hx' hy'
      obtain ⟨p, hp, rfl⟩ := Option.map_eq_some_iff.mp hx'
      obtain ⟨b, hb', rfl⟩ := Option.map_eq_some_iff.mp hy'
      have hbit : (bitE k as5)[j]? = some (b / 2 ^ k % 2) := by rw [bitE, List.getElem?_map, hb']; rfl
      have pt := pp_take (ps := ps5) hp hbit
      have p13 : p < 2 ^ 5 := by
        have : ∀ q ∈ ps5, q < 2 ^ 5 := by decide
        exact this p (List.mem_of_getElem? hp)
      have s4 := Same.new (o := .tup [.int (p : Int), .int (b : Int)]) ht
      refine ⟨t, _, rfl, SqT.of upd_same, rfl, _, _, rfl, _, _, rfl, rfl, ?_⟩
      refine ⟨_, rfl, _, rfl, (b : Int), k, rfl, rfl, _, _, rfl, rfl, (by show (2 : Int) ≠ 0; decide), rfl, _, rfl, ?_⟩
      have bv := bit_val b k
      have tk : pp (ps5.take j) ((bitE k as5).take j) ≤ pp ps5 (bitE k as5) := by
        rw [pp_split j ps5 (bitE k as5) (by rw [bitE, List.length_map, hl5]; rfl)]
        exact Nat.le_mul_of_pos_right _ (pp_pos2 _ fun q hq => ps5_two q (List.mem_of_mem_drop hq))
      have le2 : pp ps5 (shrE (k + 1) as5) * pp ps5 (shrE (k + 1) as5) * pp (ps5.take j) ((bitE k as5).take j) ≤ pp ps5 as5 := Nat.le_trans (Nat.mul_le_mul_left _ tk) (by rw [← st]; exact shr_le k)
      refine ite2 (fun c => ?_) (fun c => ?_)
      · have c' : b / 2 ^ k % 2 = 1 := by
          have h1 : V.int (((b : Int) / 2 ^ k).fmod 2) = V.int 1 := of_decide_eq_true c
          rw [V.int.injEq, bv] at h1
          omega
        rw [c', Nat.pow_one] at pt
        refine ⟨_, rfl, _, rfl, _, _, rfl, rfl, wide_mul (hb le2) (show ((p : Int)).natAbs < 2 ^ 5 by rw [Int.natAbs_natCast]; exact p13) (by decide) (by decide) (by decide), s3.trans s4, some (.int (p : Int)), some (.int (b : Int)), ?_⟩
        rw [pt, ← Nat.mul_assoc]
        rfl
      · have c' : b / 2 ^ k % 2 = 0 := by
          have : ¬ b / 2 ^ k % 2 = 1 := fun e => c (decide_eq_true (show V.int (((b : Int) / 2 ^ k).fmod 2) = V.int 1 by rw [bv, e]; rfl))
          exact (Nat.mod_two_eq_zero_or_one _).resolve_right this
        rw [c', Nat.pow_zero, Nat.mul_one] at pt
        refine ⟨s3.trans s4, some (.int (p : Int)), some (.int (b : Int)), ?_⟩
        rw [pt]
        rfl
    · rintro σ H3 ⟨s3, b3, b4, rfl⟩
      refine ⟨sB.trans s3, some (.int (k : Int)), b3, b4, ?_⟩
      have t5 : (bitE k as5).take 5 = bitE k as5 := List.take_of_length_le (by rw [bitE, List.length_map, hl5]; decide)
      rw [show (nL ps5).length = 5 from rfl, t5, show ps5.take 5 = ps5 from rfl, ← st, show n - (i + 1) = k by omega]
  · rintro σ H1 ⟨s1, a2, a3, a4, rfl⟩
    dsimp only
    rw [show n - ((n : Int) - 0).toNat = 0 by omega, shr_zero]
    refine ⟨_, rfl, _, rfl, _, _, _, .int (a0 : Int), rfl, rfl, s1.seq ha, at_of (j := 0) rfl rfl, _, a0, rfl, rfl, hsh, ?_⟩
    have e := q H1 s1
    rw [pe, Nat.mul_comm] at e
    rw [show ((pp ps5 as5 : Nat) : Int) * 2 ^ a0 = ((pp ps5 as5 * 2 ^ a0 : Nat) : Int) by rw [Int.natCast_mul, Int.natCast_pow]; rfl]
    exact e
def WF (H : Hp) (a : Addr) (e : List Int) (i : Nat) (σ : L2.St) (H' : Hp) : Prop := Same H H' ∧ ∃ a3 a4, σ = [some (.ref a), some (.int ((pp (prs.take i) ((upE e).take i) : Nat) : Int)), some (.int ((pp (prs.take i) ((dnE e).take i) : Nat) : Int)), a3, a4]
theorem map_pos (e : List Int) : (e.map fun x => if x > 0 then x else 0).map V.int = nL (upE e) := by
  rw [nL, upE, List.map_map, List.map_map]
  refine List.map_congr_left fun x _ => ?_
  show V.int (if x > 0 then x else 0) = V.int ((x.toNat : Nat) : Int)
  rw [V.int.injEq]
  split <;> omega
theorem map_neg (e : List Int) : (e.map fun x => if -x > 0 then -x else 0).map V.int = nL (dnE e) := by
  rw [nL, dnE, List.map_map, List.map_map]
  refine List.map_congr_left fun x _ => ?_
  show V.int (if -x > 0 then -x else 0) = V.int (((-x).toNat : Nat) : Int)
  rw [V.int.injEq]
  split <;> omega
def spFrac (K : PySem.W.Frag) : Sp := fun vs H Q _ => ∃ (a : Addr) (e : List Int), vs = [.ref a] ∧ Sq K H a (e.map V.int) ∧ e.length = 6 ∧ up e < 2 ^ 100000 ∧ dn e < 2 ^ 100000 ∧ ∀ t H', Same H H' → SqT K H' t [.int ((up e : Nat) : Int), .int ((dn e : Nat) : Int)] → Q (.ref t) H'
theorem take_pos (i : Nat) (as : List Nat) : 0 < pp (prs.take i) (as.take i) := pp_pos _ (pc_take i pc_prs)
theorem ok_fraction_of (T : Tx K mg) : FnOk P w K mg base CX0 2 T.f__fraction_of T.d__fraction_of ["powers"] (spFrac K) := by
  have G__raised := ok_raised (P := P) (w := w) (base := base) T
  have G__made_of := ok_made_of (P := P) (w := w) (base := base) T
  refine T.F__fraction_of.ok sc__fraction_of (fun vs H Q E h => ?_) (fun cdv A outer s H vs Q E hr h => ?_)
  · obtain ⟨a, e, rfl, _⟩ := h
    rfl
  obtain ⟨a, e, rfl, ha, hl, hu, hd, q⟩ := h
  have nd := sc__fraction_of.nd
  rcases ha with ha | ha
  · refine ⟨_, (pss_cut (ps_if (PW.pt (pw_or (pt_cmpR op_gt (pe_callB (show CallR _ _ (rMaxS K) from cr_maxS rfl) (by rfl) T.z_max (by decide +kernel) (pa_cons (pv 0) pa_nil)) (pe_glob (v := .int 500) (by rfl) T.m_MANY ⟨_, rfl⟩) (nomark _)) (pw_or1 (pt_cmpR op_lt (pe_callB (show CallR _ _ (rMinS K) from cr_minS rfl) (by rfl) T.z_min (by decide +kernel) (pa_cons (pv 0) pa_nil)) (pe_un un_neg (pe_glob (v := .int 500) (by rfl) T.m_MANY ⟨_, rfl⟩)) (nomark _))))) (pss_one (ps_ret (pe_tup (pa_cons (pe_call G__made_of hr (by rfl) T.m__made_of T.F__made_of.kp T.b__made_of .nil pass0 (pa_cons (pe_lc (own := [("power", 4)]) (g := (gName 4)) rfl nd (show PI _ _ _ (iList K _) from pi_list (pv 0)) (blkOk_by (own := [("power", 4)]) (N := N__fraction_of) (sc := defScope s__fraction_of) (by decide +kernel)) (fun _ _ _ _ _ => by exact (pg_name (i := 4) nd rfl (Or.inl rfl))) (fun _ _ _ _ _ => by exact pts_nil) (fun _ _ _ _ _ => by exact (pe_callB (call_max2 rfl) (by rfl) T.z_max (by decide +kernel) (pa_cons pe_int (pa_cons (pv 4) pa_nil))))) pa_nil)) (pa_cons (pe_call G__made_of hr (by rfl) T.m__made_of T.F__made_of.kp T.b__made_of .nil pass0 (pa_cons (pe_lc (own := [("power", 4)]) (g := (gName 4)) rfl nd (show PI _ _ _ (iList K _) from pi_list (pv 0)) (blkOk_by (own := [("power", 4)]) (N := N__fraction_of) (sc := defScope s__fraction_of) (by decide +kernel)) (fun _ _ _ _ _ => by exact (pg_name (i := 4) nd rfl (Or.inl rfl))) (fun _ _ _ _ _ => by exact pts_nil) (fun _ _ _ _ _ => by exact (pe_callB (call_max2 rfl) (by rfl) T.z_max (by decide +kernel) (pa_cons pe_int (pa_cons (pe_un un_neg (pv 4)) pa_nil))))) pa_nil)) pa_nil))))) pss_nil)
    (pss_cons (ps_set (i := 1) nd rfl (Or.inl rfl) pe_int)
    (pss_cons (ps_set (i := 2) nd rfl (Or.inl rfl) pe_int)
    (pss_cons (ps_for PassesOwn.never rfl (show PI _ _ _ (iZipP K _) from pi_zipP (by rfl) T.z_zip (pa_cons (pe_glob (v := .ref T.e_PRIMES) (by rfl) T.m_PRIMES rfl) (pa_cons (pv 0) pa_nil))) (pg_tup rfl (pgs_cons (pg_name (i := 3) nd rfl (Or.inl rfl)) (pgs_cons (pg_name (i := 4) nd rfl (Or.inl rfl)) pgs_nil))) (pss_one (ps_if (pt_cmpR op_gt (pv 4) pe_int (nomark _)) (pss_one (ps_set (i := 1) nd rfl (Or.inl rfl) (pe_op op_mulW (pv 1) (pe_call G__raised hr (by rfl) T.m__raised T.F__raised.kp T.b__raised .nil pass0 (pa_cons (pv 3) (pa_cons (pv 4) pa_nil)))))) (pss_one (ps_if (pt_cmpR op_lt (pv 4) pe_int (nomark _)) (pss_one (ps_set (i := 2) nd rfl (Or.inl rfl) (pe_op op_mulW (pv 2) (pe_call G__raised hr (by rfl) T.m__raised T.F__raised.kp T.b__raised .nil pass0 (pa_cons (pv 3) (pa_cons (pe_un un_neg (pv 4)) pa_nil)))))) pss_nil)))))
    (pss_one (ps_ret (pe_tup (pa_cons (pv 1) (pa_cons (pv 2) pa_nil))))))))), ?_⟩
    refine ⟨fun σ' H' => σ' = L2.start N__fraction_of [.ref a] ∧ H = H', ?_, ?_⟩
    · refine ⟨_, rfl, a, e, rfl, .inl ha, by rw [hl]; decide, fun m hm hle => ⟨_, _, rfl, rfl, _, rfl, ?_⟩⟩
      refine ite2 (fun c => ?_) (fun c => ?_)
      · refine ⟨_, rfl, a, rfl, ⟨_, ha⟩, fun D hD => ?_⟩
        refine lc_mapL (f := fun x => if x > 0 then x else 0) ha (by rw [hl]; decide) hD (fun u => rfl) (fun u H1 k hu hk => ⟨_, rfl, _, _, rfl, hk⟩) fun H1 s1 hD1 => ?_
        rw [map_pos] at hD1
        refine ⟨D, upE e, rfl, SqL.of hD1, by rw [upE, List.length_map, hl], hu, fun H2 s2 => ?_⟩
        have s12 := s1.trans s2
        refine ⟨_, rfl, a, rfl, ⟨_, s12.seq ha⟩, fun D2 hD2 => ?_⟩
        refine lc_mapL (f := fun x => if -x > 0 then -x else 0) (s12.seq ha) (by rw [hl]; decide) hD2 (fun u => rfl) (fun u H1 k hu hk => ⟨_, rfl, _, rfl, _, _, rfl, hk⟩) fun H3 s3 hD3 => ?_
        rw [map_neg] at hD3
        refine ⟨D2, dnE e, rfl, SqL.of hD3, by rw [dnE, List.length_map, hl], hd, fun H4 s4 => ?_⟩
        exact ⟨(by show 2 ≤ sizeLine; decide), fun t ht => q t _ (((s12.trans s3).trans s4).trans (Same.new ht)) (SqT.of upd_same)⟩
      · refine ⟨_, rfl, a, e, rfl, .inl ha, by rw [hl]; decide, fun m2 hm2 hle2 => ⟨500, rfl, m2, -500, rfl, rfl, _, rfl, ?_⟩⟩
        refine ite2 (fun c2 => ?_) (fun c2 => ⟨rfl, rfl⟩)
        refine ⟨_, rfl, a, rfl, ⟨_, ha⟩, fun D hD => ?_⟩
        refine lc_mapL (f := fun x => if x > 0 then x else 0) ha (by rw [hl]; decide) hD (fun u => rfl) (fun u H1 k hu hk => ⟨_, rfl, _, _, rfl, hk⟩) fun H1 s1 hD1 => ?_
        rw [map_pos] at hD1
        refine ⟨D, upE e, rfl, SqL.of hD1, by rw [upE, List.length_map, hl], hu, fun H2 s2 => ?_⟩
        have s12 := s1.trans s2
        refine ⟨_, rfl, a, rfl, ⟨_, s12.seq ha⟩, fun D2 hD2 => ?_⟩
        refine lc_mapL (f := fun x => if -x > 0 then -x else 0) (s12.seq ha) (by rw [hl]; decide) hD2 (fun u => rfl) (fun u H1 k hu hk => ⟨_, rfl, _, rfl, _, _, rfl, hk⟩) fun H3 s3 hD3 => ?_
        rw [map_neg] at hD3
        refine ⟨D2, dnE e, rfl, SqL.of hD3, by rw [dnE, List.length_map, hl], hd, fun H4 s4 => ?_⟩
        exact ⟨(by show 2 ≤ sizeLine; decide), fun t ht => q t _ (((s12.trans s3).trans s4).trans (Same.new ht)) (SqT.of upd_same)⟩
    · rintro σ' H' ⟨rfl, rfl⟩
      refine ⟨_, rfl, T.e_PRIMES, a, nL prs, e.map V.int, rfl, T.q_PRIMES _, .inl ha, fun J z => ?_⟩
      have hu6 : (upE e).length = 6 := by simpa [upE] using hl
      have hd6 : (dnE e).length = 6 := by simpa [dnE] using hl
      obtain ⟨G, wz, wG⟩ := z.walk (xs := nL prs) (T.q_PRIMES _) (by show 6 = _; rw [List.length_map, hl])
      refine for_it wz (WF H a e) ⟨Same.refl _, _, _, rfl⟩ (fun i σ H' _ h => wG H' h.1) ?_ ?_
      · rintro i v σ H1 H2 hi ⟨s1, a3, a4, rfl⟩ ⟨t, x, y, rfl, ht, rfl, hx, hy⟩
        replace hi : i < 6 := hi
        obtain ⟨pr, a, e1, e2, g1, g2, g3, g4, g5⟩ := pp_drop hi hu6
        obtain rfl : x = .int (pr : Nat) := by
          have hx' : (nL prs)[i]? = some x := hx
          rw [List.getElem?_map, e1] at hx'
          exact (Option.some.inj hx').symm
        have hy' : (e.map V.int)[i]? = some y := hy
        rw [List.getElem?_map] at hy'
        obtain ⟨k, hk, rfl⟩ := Option.map_eq_some_iff.mp hy'
        obtain rfl : k.toNat = a := by
          rw [upE, List.getElem?_map, hk] at e2
          exact Option.some.inj e2
        have e3 : (dnE e)[i]? = some (-k).toNat := by rw [dnE, List.getElem?_map, hk]; rfl
        have pu := pp_take (ps := prs) e1 e2
        have pd := pp_take (ps := prs) e1 e3
        have bu := pp_take_le (i := i + 1) hu6
        have bd := pp_take_le (i := i + 1) hd6
        rw [pu] at bu
        rw [pd] at bd
        have st := Same.new (o := .tup [.int (pr : Nat), .int k]) ht
        refine ⟨t, _, rfl, SqT.of upd_same, rfl, _, _, rfl, _, _, rfl, rfl, ?_⟩
        have pos1 : 0 < pp (prs.take i) ((upE e).take i) := Nat.pos_of_mul_pos_right (by rw [← pu]; exact take_pos _ _)
        have pos2 : 0 < pp (prs.take i) ((dnE e).take i) := Nat.pos_of_mul_pos_right (by rw [← pd]; exact take_pos _ _)
        have hpr : 0 < pr := by omega
        have nb : ∀ {u v : Nat}, u ≤ v → v < 2 ^ 100000 → ((u : Int)).natAbs < 2 ^ 100000 := fun h1 h2 => Nat.lt_of_le_of_lt (by rw [Int.natAbs_natCast]; exact h1) h2
        have u1 : pp (prs.take i) ((upE e).take i) ≤ up e := Nat.le_trans (Nat.le_mul_of_pos_right _ (Nat.pow_pos hpr)) bu
        have u2 : pr ^ k.toNat ≤ up e := Nat.le_trans (Nat.le_mul_of_pos_left _ pos1) bu
        have d1 : pp (prs.take i) ((dnE e).take i) ≤ dn e := Nat.le_trans (Nat.le_mul_of_pos_right _ (Nat.pow_pos hpr)) bd
        have d2 : pr ^ (-k).toNat ≤ dn e := Nat.le_trans (Nat.le_mul_of_pos_left _ pos2) bd
        by_cases c1 : 0 < k
        · refine ⟨_, rfl, _, _, rfl, rfl, true, congrArg V.bl (decide_eq_true c1), ?_⟩
          refine ⟨_, rfl, _, rfl, _, rfl, pr, k.toNat, by rw [Int.toNat_of_nonneg (by omega)]; rfl, hpr, Nat.lt_of_le_of_lt u2 hu, fun H3 s3 => ?_⟩
          refine ⟨_, _, rfl, rfl, wide_mul (nb u1 hu) (nb u2 hu) (by decide) (by decide) (by decide), ?_⟩
          refine ⟨(s1.trans st).trans s3, some (.int (pr : Nat)), some (.int k), ?_⟩
          rw [pu, pd, show (-k).toNat = 0 by omega, Nat.pow_zero, Nat.mul_one]
          rfl
        · refine ⟨_, rfl, _, _, rfl, rfl, false, congrArg V.bl (decide_eq_false c1), ?_⟩
          by_cases c2 : k < 0
          · refine ⟨_, rfl, _, _, rfl, rfl, true, congrArg V.bl (decide_eq_true c2), ?_⟩
            refine ⟨_, rfl, _, rfl, _, rfl, _, rfl, pr, (-k).toNat, by rw [Int.toNat_of_nonneg (by omega)]; rfl, hpr, Nat.lt_of_le_of_lt d2 hd, fun H3 s3 => ?_⟩
            refine ⟨_, _, rfl, rfl, wide_mul (nb d1 hd) (nb d2 hd) (by decide) (by decide) (by decide), ?_⟩
            refine ⟨(s1.trans st).trans s3, some (.int (pr : Nat)), some (.int k), ?_⟩
            rw [pu, pd, show k.toNat = 0 by omega, Nat.pow_zero, Nat.mul_one]
            rfl
          · refine ⟨_, rfl, _, _, rfl, rfl, false, congrArg V.bl (decide_eq_false c2), ?_⟩
            refine ⟨s1.trans st, some (.int (pr : Nat)), some (.int k), ?_⟩
            rw [pu, pd, show k.toNat = 0 by omega, show (-k).toNat = 0 by omega, Nat.pow_zero, Nat.mul_one, Nat.mul_one]
            rfl
      · rintro σ H1 ⟨s1, a3, a4, rfl⟩
        have tu : pp (prs.take (nL prs).length) ((upE e).take (nL prs).length) = up e := by
          rw [show (nL prs).length = 6 from rfl, List.take_of_length_le (Nat.le_of_eq hu6)]
          rfl
        have td : pp (prs.take (nL prs).length) ((dnE e).take (nL prs).length) = dn e := by
          rw [show (nL prs).length = 6 from rfl, List.take_of_length_le (Nat.le_of_eq hd6)]
          rfl
        rw [tu, td]
        exact ⟨_, rfl, _, rfl, (by show 2 ≤ sizeLine; decide), fun t ht => q t _ (s1.trans (Same.new ht)) (SqT.of upd_same)⟩
  · refine ⟨_, (pss_cut (ps_if (PW.pt (pw_or (pt_cmpR op_gt (pe_callB (show CallR _ _ (rMaxS K) from cr_maxS rfl) (by rfl) T.z_max (by decide +kernel) (pa_cons (pv 0) pa_nil)) (pe_glob (v := .int 500) (by rfl) T.m_MANY ⟨_, rfl⟩) (nomark _)) (pw_or1 (pt_cmpR op_lt (pe_callB (show CallR _ _ (rMinS K) from cr_minS rfl) (by rfl) T.z_min (by decide +kernel) (pa_cons (pv 0) pa_nil)) (pe_un un_neg (pe_glob (v := .int 500) (by rfl) T.m_MANY ⟨_, rfl⟩)) (nomark _))))) (pss_one (ps_ret (pe_tup (pa_cons (pe_call G__made_of hr (by rfl) T.m__made_of T.F__made_of.kp T.b__made_of .nil pass0 (pa_cons (pe_lc (own := [("power", 4)]) (g := (gName 4)) rfl nd (show PI _ _ _ (iTup K _) from pi_tup (pv 0)) (blkOk_by (own := [("power", 4)]) (N := N__fraction_of) (sc := defScope s__fraction_of) (by decide +kernel)) (fun _ _ _ _ _ => by exact (pg_name (i := 4) nd rfl (Or.inl rfl))) (fun _ _ _ _ _ => by exact pts_nil) (fun _ _ _ _ _ => by exact (pe_callB (call_max2 rfl) (by rfl) T.z_max (by decide +kernel) (pa_cons pe_int (pa_cons (pv 4) pa_nil))))) pa_nil)) (pa_cons (pe_call G__made_of hr (by rfl) T.m__made_of T.F__made_of.kp T.b__made_of .nil pass0 (pa_cons (pe_lc (own := [("power", 4)]) (g := (gName 4)) rfl nd (show PI _ _ _ (iTup K _) from pi_tup (pv 0)) (blkOk_by (own := [("power", 4)]) (N := N__fraction_of) (sc := defScope s__fraction_of) (by decide +kernel)) (fun _ _ _ _ _ => by exact (pg_name (i := 4) nd rfl (Or.inl rfl))) (fun _ _ _ _ _ => by exact pts_nil) (fun _ _ _ _ _ => by exact (pe_callB (call_max2 rfl) (by rfl) T.z_max (by decide +kernel) (pa_cons pe_int (pa_cons (pe_un un_neg (pv 4)) pa_nil))))) pa_nil)) pa_nil))))) pss_nil)
    (pss_cons (ps_set (i := 1) nd rfl (Or.inl rfl) pe_int)
    (pss_cons (ps_set (i := 2) nd rfl (Or.inl rfl) pe_int)
    (pss_cons (ps_for PassesOwn.never rfl (show PI _ _ _ (iZipP K _) from pi_zipP (by rfl) T.z_zip (pa_cons (pe_glob (v := .ref T.e_PRIMES) (by rfl) T.m_PRIMES rfl) (pa_cons (pv 0) pa_nil))) (pg_tup rfl (pgs_cons (pg_name (i := 3) nd rfl (Or.inl rfl)) (pgs_cons (pg_name (i := 4) nd rfl (Or.inl rfl)) pgs_nil))) (pss_one (ps_if (pt_cmpR op_gt (pv 4) pe_int (nomark _)) (pss_one (ps_set (i := 1) nd rfl (Or.inl rfl) (pe_op op_mulW (pv 1) (pe_call G__raised hr (by rfl) T.m__raised T.F__raised.kp T.b__raised .nil pass0 (pa_cons (pv 3) (pa_cons (pv 4) pa_nil)))))) (pss_one (ps_if (pt_cmpR op_lt (pv 4) pe_int (nomark _)) (pss_one (ps_set (i := 2) nd rfl (Or.inl rfl) (pe_op op_mulW (pv 2) (pe_call G__raised hr (by rfl) T.m__raised T.F__raised.kp T.b__raised .nil pass0 (pa_cons (pv 3) (pa_cons (pe_un un_neg (pv 4)) pa_nil)))))) pss_nil)))))
    (pss_one (ps_ret (pe_tup (pa_cons (pv 1) (pa_cons (pv 2) pa_nil))))))))), ?_⟩
    refine ⟨fun σ' H' => σ' = L2.start N__fraction_of [.ref a] ∧ H = H', ?_, ?_⟩
    · refine ⟨_, rfl, a, e, rfl, .inr ha, by rw [hl]; decide, fun m hm hle => ⟨_, _, rfl, rfl, _, rfl, ?_⟩⟩
      refine ite2 (fun c => ?_) (fun c => ?_)
      · refine ⟨_, rfl, a, rfl, ⟨_, ha⟩, fun D hD => ?_⟩
        refine lc_mapT (f := fun x => if x > 0 then x else 0) ha (by rw [hl]; decide) hD (fun u => rfl) (fun u H1 k hu hk => ⟨_, rfl, _, _, rfl, hk⟩) fun H1 s1 hD1 => ?_
        rw [map_pos] at hD1
        refine ⟨D, upE e, rfl, SqL.of hD1, by rw [upE, List.length_map, hl], hu, fun H2 s2 => ?_⟩
        have s12 := s1.trans s2
        refine ⟨_, rfl, a, rfl, ⟨_, seqT s12 ha⟩, fun D2 hD2 => ?_⟩
        refine lc_mapT (f := fun x => if -x > 0 then -x else 0) (seqT s12 ha) (by rw [hl]; decide) hD2 (fun u => rfl) (fun u H1 k hu hk => ⟨_, rfl, _, rfl, _, _, rfl, hk⟩) fun H3 s3 hD3 => ?_
        rw [map_neg] at hD3
        refine ⟨D2, dnE e, rfl, SqL.of hD3, by rw [dnE, List.length_map, hl], hd, fun H4 s4 => ?_⟩
        exact ⟨(by show 2 ≤ sizeLine; decide), fun t ht => q t _ (((s12.trans s3).trans s4).trans (Same.new ht)) (SqT.of upd_same)⟩
      · refine ⟨_, rfl, a, e, rfl, .inr ha, by rw [hl]; decide, fun m2 hm2 hle2 => ⟨500, rfl, m2, -500, rfl, rfl, _, rfl, ?_⟩⟩
        refine ite2 (fun c2 => ?_) (fun c2 => ⟨rfl, rfl⟩)
        refine ⟨_, rfl, a, rfl, ⟨_, ha⟩, fun D hD => ?_⟩
        refine lc_mapT (f := fun x => if x > 0 then x else 0) ha (by rw [hl]; decide) hD (fun u => rfl) (fun u H1 k hu hk => ⟨_, rfl, _, _, rfl, hk⟩) fun H1 s1 hD1 => ?_
        rw [map_pos] at hD1
        refine ⟨D, upE e, rfl, SqL.of hD1, by rw [upE, List.length_map, hl], hu, fun H2 s2 => ?_⟩
        have s12 := s1.trans s2
        refine ⟨_, rfl, a, rfl, ⟨_, seqT s12 ha⟩, fun D2 hD2 => ?_⟩
        refine lc_mapT (f := fun x => if -x > 0 then -x else 0) (seqT s12 ha) (by rw [hl]; decide) hD2 (fun u => rfl) (fun u H1 k hu hk => ⟨_, rfl, _, rfl, _, _, rfl, hk⟩) fun H3 s3 hD3 => ?_
        rw [map_neg] at hD3
        refine ⟨D2, dnE e, rfl, SqL.of hD3, by rw [dnE, List.length_map, hl], hd, fun H4 s4 => ?_⟩
        exact ⟨(by show 2 ≤ sizeLine; decide), fun t ht => q t _ (((s12.trans s3).trans s4).trans (Same.new ht)) (SqT.of upd_same)⟩
    · rintro σ' H' ⟨rfl, rfl⟩
      refine ⟨_, rfl, T.e_PRIMES, a, nL prs, e.map V.int, rfl, T.q_PRIMES _, .inr ha, fun J z => ?_⟩
      have hu6 : (upE e).length = 6 := by simpa [upE] using hl
      have hd6 : (dnE e).length = 6 := by simpa [dnE] using hl
      obtain ⟨G, wz, wG⟩ := z.walk (xs := nL prs) (T.q_PRIMES _) (by show 6 = _; rw [List.length_map, hl])
      refine for_it wz (WF H a e) ⟨Same.refl _, _, _, rfl⟩ (fun i σ H' _ h => wG H' h.1) ?_ ?_
      · rintro i v σ H1 H2 hi ⟨s1, a3, a4, rfl⟩ ⟨t, x, y, rfl, ht, rfl, hx, hy⟩
        replace hi : i < 6 := hi
        obtain ⟨pr, a, e1, e2, g1, g2, g3, g4, g5⟩ := pp_drop hi hu6
        obtain rfl : x = .int (pr : Nat) := by
          have hx' : (nL prs)[i]? = some x := hx
          rw [List.getElem?_map, e1] at hx'
          exact (Option.some.inj hx').symm
        have hy' : (e.map V.int)[i]? = some y := hy
        rw [List.getElem?_map] at hy'
        obtain ⟨k, hk, rfl⟩ := Option.map_eq_some_iff.mp hy'
        obtain rfl : k.toNat = a := by
          rw [upE, List.getElem?_map, hk] at e2
          exact Option.some.inj e2
        have e3 : (dnE e)[i]? = some (-k).toNat := by rw [dnE, List.getElem?_map, hk]; rfl
        have pu := pp_take (ps := prs) e1 e2
        have pd := pp_take (ps := prs) e1 e3
        have bu := pp_take_le (i := i + 1) hu6
        have bd := pp_take_le (i := i + 1) hd6
        rw [pu] at bu
        rw [pd] at bd
        have st := Same.new (o := .tup [.int (pr : Nat), .int k]) ht
        refine ⟨t, _, rfl, SqT.of upd_same, rfl, _, _, rfl, _, _, rfl, rfl, ?_⟩
        have pos1 : 0 < pp (prs.take i) ((upE e).take i) := Nat.pos_of_mul_pos_right (by rw [← pu]; exact take_pos _ _)
        have pos2 : 0 < pp (prs.take i) ((dnE e).take i) := Nat.pos_of_mul_pos_right (by rw [← pd]; exact take_pos _ _)
        have hpr : 0 < pr := by omega
        have nb : ∀ {u v : Nat}, u ≤ v → v < 2 ^ 100000 → ((u : Int)).natAbs < 2 ^ 100000 := fun h1 h2 => Nat.lt_of_le_of_lt (by rw [Int.natAbs_natCast]; exact h1) h2
        have u1 : pp (prs.take i) ((upE e).take i) ≤ up e := Nat.le_trans (Nat.le_mul_of_pos_right _ (Nat.pow_pos hpr)) bu
        have u2 : pr ^ k.toNat ≤ up e := Nat.le_trans (Nat.le_mul_of_pos_left _ pos1) bu
        have d1 : pp (prs.take i) ((dnE e).take i) ≤ dn e := Nat.le_trans (Nat.le_mul_of_pos_right _ (Nat.pow_pos hpr)) bd
        have d2 : pr ^ (-k).toNat ≤ dn e := Nat.le_trans (Nat.le_mul_of_pos_left _ pos2) bd
        by_cases c1 : 0 < k
        · refine ⟨_, rfl, _, _, rfl, rfl, true, congrArg V.bl (decide_eq_true c1), ?_⟩
          refine ⟨_, rfl, _, rfl, _, rfl, pr, k.toNat, by rw [Int.toNat_of_nonneg (by omega)]; rfl, hpr, Nat.lt_of_le_of_lt u2 hu, fun H3 s3 => ?_⟩
          refine ⟨_, _, rfl, rfl, wide_mul (nb u1 hu) (nb u2 hu) (by decide) (by decide) (by decide), ?_⟩
          refine ⟨(s1.trans st).trans s3, some (.int (pr : Nat)), some (.int k), ?_⟩
          rw [pu, pd, show (-k).toNat = 0 by omega, Nat.pow_zero, Nat.mul_one]
          rfl
        · refine ⟨_, rfl, _, _, rfl, rfl, false, congrArg V.bl (decide_eq_false c1), ?_⟩
          by_cases c2 : k < 0
          · refine ⟨_, rfl, _, _, rfl, rfl, true, congrArg V.bl (decide_eq_true c2), ?_⟩
            refine ⟨_, rfl, _, rfl, _, rfl, _, rfl, pr, (-k).toNat, by rw [Int.toNat_of_nonneg (by omega)]; rfl, hpr, Nat.lt_of_le_of_lt d2 hd, fun H3 s3 => ?_⟩
            refine ⟨_, _, rfl, rfl, wide_mul (nb d1 hd) (nb d2 hd) (by decide) (by decide) (by decide), ?_⟩
            refine ⟨(s1.trans st).trans s3, some (.int (pr : Nat)), some (.int k), ?_⟩
            rw [pu, pd, show k.toNat = 0 by omega, Nat.pow_zero, Nat.mul_one]
            rfl
          · refine ⟨_, rfl, _, _, rfl, rfl, false, congrArg V.bl (decide_eq_false c2), ?_⟩
            refine ⟨s1.trans st, some (.int (pr : Nat)), some (.int k), ?_⟩
            rw [pu, pd, show k.toNat = 0 by omega, show (-k).toNat = 0 by omega, Nat.pow_zero, Nat.mul_one, Nat.mul_one]
            rfl
      · rintro σ H1 ⟨s1, a3, a4, rfl⟩
        have tu : pp (prs.take (nL prs).length) ((upE e).take (nL prs).length) = up e := by
          rw [show (nL prs).length = 6 from rfl, List.take_of_length_le (Nat.le_of_eq hu6)]
          rfl
        have td : pp (prs.take (nL prs).length) ((dnE e).take (nL prs).length) = dn e := by
          rw [show (nL prs).length = 6 from rfl, List.take_of_length_le (Nat.le_of_eq hd6)]
          rfl
        rw [tu, td]
        exact ⟨_, rfl, _, rfl, (by show 2 ≤ sizeLine; decide), fun t ht => q t _ (s1.trans (Same.new ht)) (SqT.of upd_same)⟩
def spWith (K : PySem.W.Frag) (C : Addr) : Sp := fun vs H Q _ => ∃ (a : Addr) (e : List Int), vs = [.ref a] ∧ Sq K H a (e.map V.int) ∧ e.length = 6 ∧ up e < 2 ^ 100000 ∧ dn e < 2 ^ 100000 ∧ ∀ t H', Same H H' → RAt K C H' t e → Q (.ref t) H'
theorem rf3 (a b u d : Nat) (s t : Addr) : putF "_powers" (V.ref t) (putF "under" (V.int (d : Int)) (putF "over" (V.int (u : Int)) (rf a b s))) = rf u d t := by
  show putF "_powers" (V.ref t) (putF "under" (V.int (d : Int)) (if ("over" : Str) = "over" then (("over" : Str), V.int (u : Int)) :: [("under", V.int (b : Int)), ("_powers", V.ref s)] else _)) = _
  rw [if_pos rfl]
  show putF "_powers" (V.ref t) (if ("over" : Str) = "under" then _ else (("over" : Str), V.int (u : Int)) :: (if ("under" : Str) = "under" then (("under" : Str), V.int (d : Int)) :: [("_powers", V.ref s)] else _)) = _
  rw [if_neg nov, if_pos rfl]
  show (if ("over" : Str) = "_powers" then _ else (("over" : Str), V.int (u : Int)) :: (if ("under" : Str) = "_powers" then _ else (("under" : Str), V.int (d : Int)) :: (if ("_powers" : Str) = "_powers" then [(("_powers" : Str), V.ref t)] else _))) = _
  rw [if_neg nop, if_neg nup, if_pos rfl]
  rfl
theorem ok_with (T : Tx K mg) : FnOk P w K mg base CX0 6 T.f_ratio_with T.d_ratio_with ["powers"] (spWith K T.C_Ratio) := by
  have G__fraction_of := ok_fraction_of (P := P) (w := w) (base := base) T
  have G_Ratio_init := ok_rinit (P := P) (w := w) (base := base) T
  refine T.F_ratio_with.ok sc_ratio_with (fun vs H Q E h => ?_) (fun cdv A outer s H vs Q E hr h => ?_)
  · obtain ⟨a, e, rfl, _⟩ := h
    rfl
  obtain ⟨a, e, rfl, ha, hl, hu, hd, q⟩ := h
  have nd := sc_ratio_with.nd
  refine ⟨_, (pss_cons (ps_asg (pe_call G__fraction_of (hr.mono (by decide)) (by rfl) T.m__fraction_of T.F__fraction_of.kp T.b__fraction_of .nil pass0 (pa_cons (pv 0) pa_nil)) (pg_tup rfl (pgs_cons (pg_name (i := 1) nd rfl (Or.inl rfl)) (pgs_cons (pg_name (i := 2) nd rfl (Or.inl rfl)) pgs_nil))))
    (pss_cons (ps_set (i := 3) nd rfl (Or.inl rfl) (pe_make T.k_Ratio G_Ratio_init hr (by rfl) T.g_Ratio T.b1_Ratio_init T.v_Ratio_init pass0 (pa_cons pe_int pa_nil)))
    (pss_cons (ps_fld (pv 3) (pv 1) rfl)
    (pss_cons (ps_fld (pv 3) (pv 2) rfl)
    (pss_cons (ps_fld (pv 3) (pe_callTy (show CallR _ _ (rTup1 K) from call_tup1) (by rfl) T.z_tuple (by decide +kernel) (pa_cons (pv 0) pa_nil)) rfl)
    (pss_one (ps_ret (pv 3)))))))), ?_⟩
  refine ⟨_, rfl, a, e, rfl, ha, hl, hu, hd, fun tf H1 s1 htf => ⟨tf, _, rfl, htf, rfl, _, _, rfl, _, _, rfl, rfl, ?_⟩⟩
  refine fun x dx nx ndx nex => ⟨x, dx, 1, List.replicate 6 0, rfl, upd_same, by decide, by decide, rfl, fun H2 r2 kp => ⟨rfl, ?_⟩⟩
  have s0 : Same H1 (upd (upd H1 dx (.own x)) x (.ins T.C_Ratio dx [])) := fun b o e => by
    rw [upd_ne (ne_of_none e nx), upd_ne (ne_of_none e ndx)]
    exact e
  have s2 : Same H1 H2 := fun b o e => kp b o (s0 b o e) (ne_of_none e nx)
  obtain ⟨dy, t, h1, h2⟩ := r2.ex
  refine ⟨_, rfl, _, rfl, x, T.C_Ratio, dy, _, rfl, h1, T.c_Ratio, T.n_Ratio_over, (by show 3 < 1000; decide), ?_⟩
  refine ⟨_, rfl, _, rfl, x, T.C_Ratio, dy, _, rfl, upd_same, T.c_Ratio, T.n_Ratio_under, (by show 3 < 1000; decide), ?_⟩
  refine ⟨_, rfl, a, e.map V.int, rfl, ((ha.same (s1.trans s2)).ins h1).ins upd_same, fun t2 H3 s3 ht2 => ?_⟩
  have hx3 := s3 _ _ (upd_same (H := upd H2 x _) (a := x))
  refine ⟨_, rfl, x, T.C_Ratio, dy, _, rfl, hx3, T.c_Ratio, T.n_Ratio_powers, (by show 3 < 1000; decide), ?_⟩
  rw [rf3]
  refine ⟨_, rfl, q x _ (fun b o e => ?_) ⟨⟨dy, t2, upd_same, seqT_ins hx3 ht2⟩, hl⟩⟩
  have nb := ne_of_none (s1 _ _ e) nx
  rw [upd_ne nb]
  refine s3 _ _ ?_
  rw [upd_ne nb, upd_ne nb]
  exact s2 _ _ (s1 _ _ e)
end
end TL
namespace TL
open PySem L2

/-! ### steps of a reading -/
local macro_rules | `(tactic| walk_at "hp") => `(tactic| first | assumption | exact upd_same | (refine (upd_ne (by first | assumption | (exact Ne.symm (by assumption)))).trans ?_; walk_at "hp"))
local macro_rules | `(tactic| walk_at "ok") => `(tactic| first | (exact Or.inr ⟨by decide, by decide⟩) | (exact ⟨by decide, by decide⟩) | (exact ⟨by decide, by decide, by decide⟩) | (show _ ≠ _; omega) | (show _ ≠ _; decide) | (exact Or.inl ⟨by omega, by omega⟩) | decide)
local macro_rules | `(tactic| walk_at "sq") => `(tactic| first | assumption | exact SqL.of (by walk_at "hp") | exact SqT.of (by walk_at "hp"))
local macro_rules | `(tactic| walk_at "ty") => `(tactic| first | refine ⟨_, _, Value.type "int", Value.type "list", false, rfl, ClsV.ty _, TyX.base (TyOf.int _), kt_int_list, ?_⟩ | refine ⟨_, _, Value.type "bool", Value.type "list", false, rfl, ClsV.ty _, TyX.base (TyOf.bl _), kt_bool_list, ?_⟩ | refine ⟨_, _, Value.type "str", Value.type "list", false, rfl, ClsV.ty _, TyX.base (TyOf.str _), kt_str_list, ?_⟩ | refine ⟨_, _, Value.type "NoneType", Value.type "list", false, rfl, ClsV.ty _, TyX.base TyOf.non, kt_NoneType_list, ?_⟩ | refine ⟨_, _, Value.type "list", Value.type "list", true, rfl, ClsV.ty _, tyx_L (by walk_at "sq"), kt_list_list, ?_⟩ | refine ⟨_, _, Value.type "tuple", Value.type "list", false, rfl, ClsV.ty _, tyx_T (by walk_at "sq"), kt_tuple_list, ?_⟩ | refine ⟨_, _, Value.type "int", Value.type "tuple", false, rfl, ClsV.ty _, TyX.base (TyOf.int _), kt_int_tuple, ?_⟩ | refine ⟨_, _, Value.type "bool", Value.type "tuple", false, rfl, ClsV.ty _, TyX.base (TyOf.bl _), kt_bool_tuple, ?_⟩ | refine ⟨_, _, Value.type "str", Value.type "tuple", false, rfl, ClsV.ty _, TyX.base (TyOf.str _), kt_str_tuple, ?_⟩ | refine ⟨_, _, Value.type "NoneType", Value.type "tuple", false, rfl, ClsV.ty _, TyX.base TyOf.non, kt_NoneType_tuple, ?_⟩ | refine ⟨_, _, Value.type "list", Value.type "tuple", false, rfl, ClsV.ty _, tyx_L (by walk_at "sq"), kt_list_tuple, ?_⟩ | refine ⟨_, _, Value.type "tuple", Value.type "tuple", true, rfl, ClsV.ty _, tyx_T (by walk_at "sq"), kt_tuple_tuple, ?_⟩ | refine ⟨_, _, Value.type "int", Value.type "bool", false, rfl, ClsV.ty _, TyX.base (TyOf.int _), kt_int_bool, ?_⟩ | refine ⟨_, _, Value.type "bool", Value.type "bool", true, rfl, ClsV.ty _, TyX.base (TyOf.bl _), kt_bool_bool, ?_⟩ | refine ⟨_, _, Value.type "str", Value.type "bool", false, rfl, ClsV.ty _, TyX.base (TyOf.str _), kt_str_bool, ?_⟩ | refine ⟨_, _, Value.type "NoneType", Value.type "bool", false, rfl, ClsV.ty _, TyX.base TyOf.non, kt_NoneType_bool, ?_⟩ | refine ⟨_, _, Value.type "list", Value.type "bool", false, rfl, ClsV.ty _, tyx_L (by walk_at "sq"), kt_list_bool, ?_⟩ | refine ⟨_, _, Value.type "tuple", Value.type "bool", false, rfl, ClsV.ty _, tyx_T (by walk_at "sq"), kt_tuple_bool, ?_⟩ | refine ⟨_, _, Value.type "int", Value.type "int", true, rfl, ClsV.ty _, TyX.base (TyOf.int _), kt_int_int, ?_⟩ | refine ⟨_, _, Value.type "bool", Value.type "int", true, rfl, ClsV.ty _, TyX.base (TyOf.bl _), kt_bool_int, ?_⟩ | refine ⟨_, _, Value.type "str", Value.type "int", false, rfl, ClsV.ty _, TyX.base (TyOf.str _), kt_str_int, ?_⟩ | refine ⟨_, _, Value.type "NoneType", Value.type "int", false, rfl, ClsV.ty _, TyX.base TyOf.non, kt_NoneType_int, ?_⟩ | refine ⟨_, _, Value.type "list", Value.type "int", false, rfl, ClsV.ty _, tyx_L (by walk_at "sq"), kt_list_int, ?_⟩ | refine ⟨_, _, Value.type "tuple", Value.type "int", false, rfl, ClsV.ty _, tyx_T (by walk_at "sq"), kt_tuple_int, ?_⟩ | refine ⟨_, _, Value.type "int", Value.type "str", false, rfl, ClsV.ty _, TyX.base (TyOf.int _), kt_int_str, ?_⟩ | refine ⟨_, _, Value.type "bool", Value.type "str", false, rfl, ClsV.ty _, TyX.base (TyOf.bl _), kt_bool_str, ?_⟩ | refine ⟨_, _, Value.type "str", Value.type "str", true, rfl, ClsV.ty _, TyX.base (TyOf.str _), kt_str_str, ?_⟩ | refine ⟨_, _, Value.type "NoneType", Value.type "str", false, rfl, ClsV.ty _, TyX.base TyOf.non, kt_NoneType_str, ?_⟩ | refine ⟨_, _, Value.type "list", Value.type "str", false, rfl, ClsV.ty _, tyx_L (by walk_at "sq"), kt_list_str, ?_⟩ | refine ⟨_, _, Value.type "tuple", Value.type "str", false, rfl, ClsV.ty _, tyx_T (by walk_at "sq"), kt_tuple_str, ?_⟩)
local macro_rules | `(tactic| walk_at "go1") => `(tactic| first
  | (refine ⟨_, rfl, ?_⟩)
  | (refine ⟨_, _, rfl, rfl, ?_⟩)
  | (refine ⟨_, _, _, _, rfl, rfl, SqL.of (by walk_at "hp"), rfl, ?_⟩)
  | (refine Or.inl ⟨_, rfl, ?_⟩)
  | (refine ⟨rfl, ?_⟩)
  | (refine ⟨_, _, rfl, .inl (SqL.of (by walk_at "hp")), ?_⟩)
  | (refine ⟨_, _, rfl, Or.inl (by assumption), ?_⟩)
  | (refine ⟨_, _, rfl, Or.inr (by assumption), ?_⟩)
  | (refine ⟨(by walk_at "ok"), ?_⟩)
  | (refine ⟨_, _, _, _, rfl, rfl, (by walk_at "hp"), rfl, ?_⟩))
local macro_rules | `(tactic| walk_at "go") => `(tactic| repeat (walk_at "go1"))
local macro_rules | `(tactic| walk_at "gt") => `(tactic| repeat (first | walk_at "go1" | walk_at "ty"))

section
variable {P : Program} {w : World} {K : PySem.W.Frag} {mg : Str → Option Value} {base : Heap}
theorem rf_o (u d : Nat) (t : Addr) : (rf u d t).lookup ("over" : Str) = some (.int (u : Int)) := rfl
theorem rf_u (u d : Nat) (t : Addr) : (rf u d t).lookup ("under" : Str) = some (.int (d : Int)) := rfl
theorem rf_p (u d : Nat) (t : Addr) : (rf u d t).lookup ("_powers" : Str) = some (.ref t) := rfl
theorem rf_no {u d : Nat} {t : Addr} {m : Str} (h1 : ¬ m = "over") (h2 : ¬ m = "under") (h3 : ¬ m = "_powers") : (rf u d t).lookup m = none := by
  have e1 : (m == ("over" : Str)) = false := by simpa using h1
  have e2 : (m == ("under" : Str)) = false := by simpa using h2
  have e3 : (m == ("_powers" : Str)) = false := by simpa using h3
  simp [rf, List.lookup, e1, e2, e3]
def spPows (K : PySem.W.Frag) (C : Addr) : Sp := fun vs H Q _ => ∃ (p : Addr) (e : List Int), vs = [.ref p] ∧ RAt K C H p e ∧ ∀ t, SqT K H t (e.map V.int) → Q (.ref t) H
theorem ok_powers (T : Tx K mg) : FnOk P w K mg base CX0 1 T.f_Ratio_powers T.d_Ratio_powers ["self"] (spPows K T.C_Ratio) := by
  refine T.F_Ratio_powers.ok sc_Ratio_powers (fun vs H Q E h => ?_) (fun cdv A outer s H vs Q E hr h => ?_)
  · obtain ⟨p, e, rfl, _⟩ := h
    rfl
  obtain ⟨p, e, rfl, he, q⟩ := h
  obtain ⟨dx, t, h1, h2⟩ := he.ex
  refine ⟨_, (pss_one (ps_ret (show PE _ _ (tFld K _ _) from pe_fld (pv 0) rfl))), ?_⟩
  exact ⟨_, rfl, p, _, _, _, _, rfl, h1, T.c_Ratio, T.n_Ratio_powers, rf_p _ _ _, q t h2⟩
def bitsE (e : List Int) : List Int := e.map (·.fmod 2)
def spBitsE (K : PySem.W.Frag) (C : Addr) : Sp := fun vs H Q _ => ∃ (p : Addr) (e : List Int), vs = [.ref p] ∧ RAt K C H p e ∧ ∀ t H', Same H H' → SqT K H' t ((bitsE e).map V.int) → Q (.ref t) H'
def spPower (K : PySem.W.Frag) (C : Addr) : Sp := fun vs H Q _ => ∃ (p : Addr) (k : Int) (e : List Int), vs = [.ref p, .int k] ∧ RAt K C H p e ∧ (∀ x ∈ e, CMulW k x) ∧ up (mulE k e) < 2 ^ 100000 ∧ dn (mulE k e) < 2 ^ 100000 ∧ ∀ t H', Same H H' → RAt K C H' t (mulE k e) → Q (.ref t) H'
theorem ok_power (T : Tx K mg) : FnOk P w K mg base CX0 7 T.f_Ratio_power T.d_Ratio_power ["self", "k"] (spPower K T.C_Ratio) := by
  have G_ratio_with := ok_with (P := P) (w := w) (base := base) T
  refine T.F_Ratio_power.ok sc_Ratio_power (fun vs H Q E h => ?_) (fun cdv A outer s H vs Q E hr h => ?_)
  · obtain ⟨p, k, e, rfl, _⟩ := h
    rfl
  obtain ⟨p, k, e, rfl, he, hk, hu, hd, q⟩ := h
  obtain ⟨dx, t, h1, h2⟩ := he.ex
  have nd := sc_Ratio_power.nd
  refine ⟨_, (pss_one (ps_ret (pe_call G_ratio_with hr (by rfl) T.m_ratio_with T.F_ratio_with.kp T.b_ratio_with .nil pass0 (pa_cons (pe_lc (own := [("power", 2)]) (g := (gName 2)) rfl nd (show PI _ _ _ (iTup K _) from pi_tup (show PE _ _ (tFld K _ _) from pe_fld (pv 0) rfl)) (blkOk_by (own := [("power", 2)]) (N := N_Ratio_power) (sc := defScope s_Ratio_power) (by decide +kernel)) (fun _ _ _ _ _ => by exact (pg_name (i := 2) nd rfl (Or.inl rfl))) (fun _ _ _ _ _ => by exact pts_nil) (fun _ _ _ _ _ => by exact (pe_op op_mulW (pv 1) (pv 2)))) pa_nil)))), ?_⟩
  refine ⟨_, rfl, p, _, _, _, _, rfl, h1, T.c_Ratio, T.n_Ratio_powers, rf_p _ _ _, t, rfl, ⟨_, h2⟩, fun D hD => ?_⟩
  refine lc_mapT (f := fun a => k * a) h2 (by rw [he.len]; decide) hD (fun u => rfl) (fun u H1 kk hu hk' => ⟨_, rfl, _, rfl, k, u, rfl, rfl, hk u hu, hk'⟩) fun H1 s1 hD1 => ?_
  exact ⟨D, mulE k e, rfl, .inl (SqL.of hD1), by simpa [mulE] using he.len, hu, hd, fun t' H' s' r => q t' H' (s1.trans s') r⟩
def spR2 (K : PySem.W.Frag) (C : Addr) (f : List Int → List Int → List Int) : Sp := fun vs H Q _ => ∃ (p r : Addr) (x y : List Int), vs = [.ref p, .ref r] ∧ RAt K C H p x ∧ RAt K C H r y ∧ up (f x y) < 2 ^ 100000 ∧ dn (f x y) < 2 ^ 100000 ∧ ∀ t H', Same H H' → RAt K C H' t (f x y) → Q (.ref t) H'
theorem ok_rmul (T : Tx K mg) : FnOk P w K mg base CX0 7 T.f_Ratio_mul T.d_Ratio_mul ["self", "other"] (spR2 K T.C_Ratio addE) := by
  have G_ratio_with := ok_with (P := P) (w := w) (base := base) T
  refine T.F_Ratio_mul.ok sc_Ratio_mul (fun vs H Q E h => ?_) (fun cdv A outer s H vs Q E hr h => ?_)
  · obtain ⟨p, r, x, y, rfl, _⟩ := h
    rfl
  obtain ⟨p, r, x, y, rfl, hx, hy, hu, hd, q⟩ := h
  obtain ⟨dx, t, e1, e2⟩ := hx.ex
  obtain ⟨dy, t', g1, g2⟩ := hy.ex
  have nd := sc_Ratio_mul.nd
  refine ⟨_, (pss_one (ps_ret (pe_call G_ratio_with hr (by rfl) T.m_ratio_with T.F_ratio_with.kp T.b_ratio_with .nil pass0 (pa_cons (pe_lc (own := [("one", 2), ("two", 3)]) (g := (gTup K 2 (gCons (gName 2) (gCons (gName 3) gNil)))) rfl nd (show PI _ _ _ (RZ.iZipA K _) from RZ.pi_zipA (by rfl) T.z_zip (pa_cons (show PE _ _ (tFld K _ _) from pe_fld (pv 0) rfl) (pa_cons (show PE _ _ (tFld K _ _) from pe_fld (pv 1) rfl) pa_nil))) (blkOk_by (own := [("one", 2), ("two", 3)]) (N := N_Ratio_mul) (sc := defScope s_Ratio_mul) (by decide +kernel)) (fun _ _ _ _ _ => by exact (pg_tup rfl (pgs_cons (pg_name (i := 2) nd rfl (Or.inl rfl)) (pgs_cons (pg_name (i := 3) nd rfl (Or.inl rfl)) pgs_nil)))) (fun _ _ _ _ _ => by exact pts_nil) (fun _ _ _ _ _ => by exact (pe_op op_add (pv 2) (pv 3)))) pa_nil)))), ?_⟩
  refine ⟨_, rfl, p, _, _, _, _, rfl, e1, T.c_Ratio, T.n_Ratio_powers, rf_p _ _ _, _, rfl, r, _, _, _, _, rfl, g1, T.c_Ratio, T.n_Ratio_powers, rf_p _ _ _, t, t', _, _, rfl, .inr ⟨e2, g2, fun D hD => ?_⟩⟩
  refine lc_zipT (f := fun a b => a + b) e2 g2 (by rw [hx.len, hy.len]) (by rw [hx.len]; decide) hD (fun u v => rfl) (fun u v H1 k _ _ hk => ⟨_, rfl, _, rfl, u, v, rfl, rfl, hk⟩) fun H1 s1 hD1 => ?_
  exact ⟨D, addE x y, rfl, .inl (SqL.of hD1), by simp [addE, hx.len, hy.len], hu, hd, fun z H' s' r' => q z H' (s1.trans s') r'⟩
theorem ok_rdiv (T : Tx K mg) : FnOk P w K mg base CX0 7 T.f_Ratio_floordiv T.d_Ratio_floordiv ["self", "other"] (spR2 K T.C_Ratio subE) := by
  have G_ratio_with := ok_with (P := P) (w := w) (base := base) T
  refine T.F_Ratio_floordiv.ok sc_Ratio_floordiv (fun vs H Q E h => ?_) (fun cdv A outer s H vs Q E hr h => ?_)
  · obtain ⟨p, r, x, y, rfl, _⟩ := h
    rfl
  obtain ⟨p, r, x, y, rfl, hx, hy, hu, hd, q⟩ := h
  obtain ⟨dx, t, e1, e2⟩ := hx.ex
  obtain ⟨dy, t', g1, g2⟩ := hy.ex
  have nd := sc_Ratio_floordiv.nd
  refine ⟨_, (pss_one (ps_ret (pe_call G_ratio_with hr (by rfl) T.m_ratio_with T.F_ratio_with.kp T.b_ratio_with .nil pass0 (pa_cons (pe_lc (own := [("one", 2), ("two", 3)]) (g := (gTup K 2 (gCons (gName 2) (gCons (gName 3) gNil)))) rfl nd (show PI _ _ _ (RZ.iZipA K _) from RZ.pi_zipA (by rfl) T.z_zip (pa_cons (show PE _ _ (tFld K _ _) from pe_fld (pv 0) rfl) (pa_cons (show PE _ _ (tFld K _ _) from pe_fld (pv 1) rfl) pa_nil))) (blkOk_by (own := [("one", 2), ("two", 3)]) (N := N_Ratio_floordiv) (sc := defScope s_Ratio_floordiv) (by decide +kernel)) (fun _ _ _ _ _ => by exact (pg_tup rfl (pgs_cons (pg_name (i := 2) nd rfl (Or.inl rfl)) (pgs_cons (pg_name (i := 3) nd rfl (Or.inl rfl)) pgs_nil)))) (fun _ _ _ _ _ => by exact pts_nil) (fun _ _ _ _ _ => by exact (pe_op op_sub (pv 2) (pv 3)))) pa_nil)))), ?_⟩
  refine ⟨_, rfl, p, _, _, _, _, rfl, e1, T.c_Ratio, T.n_Ratio_powers, rf_p _ _ _, _, rfl, r, _, _, _, _, rfl, g1, T.c_Ratio, T.n_Ratio_powers, rf_p _ _ _, t, t', _, _, rfl, .inr ⟨e2, g2, fun D hD => ?_⟩⟩
  refine lc_zipT (f := fun a b => a - b) e2 g2 (by rw [hx.len, hy.len]) (by rw [hx.len]; decide) hD (fun u v => rfl) (fun u v H1 k _ _ hk => ⟨_, rfl, _, rfl, u, v, rfl, rfl, hk⟩) fun H1 s1 hD1 => ?_
  exact ⟨D, subE x y, rfl, .inl (SqL.of hD1), by simp [subE, hx.len, hy.len], hu, hd, fun z H' s' r' => q z H' (s1.trans s') r'⟩
def Fits (x : List Int) : Prop := up x < 2 ^ 100000 ∧ dn x < 2 ^ 100000
def spAsTone (K : PySem.W.Frag) (C : Addr) : Sp := fun vs H Q _ => ∃ (p : Addr) (e : List Int), vs = [.ref p] ∧ RAt K C H p e ∧ ∀ t H', Same H H' → H' t = some (.tup [.int ((up e : Nat) : Int), .int ((dn e : Nat) : Int)]) → Q (.ref t) H'
/-- the text of a tone -/
def numS (n : Int) : Str := Str.ofString (toString n)
def told (u d : Nat) : Str := if d = 1 then numS u else numS u ++ Str.ofString "/" ++ numS d
def Short (u : Nat) : Prop := u.log2 < 1920
def spToneText (K : PySem.W.Frag) : Sp := fun vs H Q _ => ∃ (t : Addr) (u d : Nat), vs = [.ref t] ∧ SqT K H t [.int (u : Int), .int (d : Int)] ∧ Short u ∧ Short d ∧ Q (.str (told u d)) H
theorem told_len {u d : Nat} (hu : Short u) (hd : Short d) : (told u d).length ≤ 4000 := by
  have lu : (numS u).length ≤ 1921 := PyProof.Rows.int_text_len_1921 (by rw [Int.natAbs_natCast]; exact hu)
  have ld : (numS d).length ≤ 1921 := PyProof.Rows.int_text_len_1921 (by rw [Int.natAbs_natCast]; exact hd)
  unfold told
  split
  · omega
  · rw [Str.length_append, Str.length_append, show (Str.ofString "/").length = 1 from rfl]
    omega
def toldE (e : List Int) : Str := told (up e) (dn e)
def ShortE (e : List Int) : Prop := Short (up e) ∧ Short (dn e)
def spText (K : PySem.W.Frag) (C : Addr) (f : Str → Str) : Sp := fun vs H Q _ => ∃ (p : Addr) (e : List Int), vs = [.ref p] ∧ RAt K C H p e ∧ ShortE e ∧ ∀ H', Same H H' → Q (.str (f (toldE e))) H'
def spREq (K : PySem.W.Frag) (C : Addr) : Sp := fun vs H Q _ => ∃ (p r : Addr) (x y : List Int), vs = [.ref p, .ref r] ∧ RAt K C H p x ∧ RAt K C H r y ∧ Q (.bl (decide (x = y))) H
-- [0=self, 1=other]
end
end TL
namespace TL
open PySem L2

/-! ### steps of a reading -/
local macro_rules | `(tactic| walk_at "hp") => `(tactic| first | assumption | exact upd_same | (refine (upd_ne (by first | assumption | (exact Ne.symm (by assumption)))).trans ?_; walk_at "hp"))
local macro_rules | `(tactic| walk_at "ok") => `(tactic| first | (exact Or.inr ⟨by decide, by decide⟩) | (exact ⟨by decide, by decide⟩) | (exact ⟨by decide, by decide, by decide⟩) | (show _ ≠ _; omega) | (show _ ≠ _; decide) | (exact Or.inl ⟨by omega, by omega⟩) | decide)
local macro_rules | `(tactic| walk_at "sq") => `(tactic| first | assumption | exact SqL.of (by walk_at "hp") | exact SqT.of (by walk_at "hp"))
local macro_rules | `(tactic| walk_at "ty") => `(tactic| first | refine ⟨_, _, Value.type "int", Value.type "list", false, rfl, ClsV.ty _, TyX.base (TyOf.int _), kt_int_list, ?_⟩ | refine ⟨_, _, Value.type "bool", Value.type "list", false, rfl, ClsV.ty _, TyX.base (TyOf.bl _), kt_bool_list, ?_⟩ | refine ⟨_, _, Value.type "str", Value.type "list", false, rfl, ClsV.ty _, TyX.base (TyOf.str _), kt_str_list, ?_⟩ | refine ⟨_, _, Value.type "NoneType", Value.type "list", false, rfl, ClsV.ty _, TyX.base TyOf.non, kt_NoneType_list, ?_⟩ | refine ⟨_, _, Value.type "list", Value.type "list", true, rfl, ClsV.ty _, tyx_L (by walk_at "sq"), kt_list_list, ?_⟩ | refine ⟨_, _, Value.type "tuple", Value.type "list", false, rfl, ClsV.ty _, tyx_T (by walk_at "sq"), kt_tuple_list, ?_⟩ | refine ⟨_, _, Value.type "int", Value.type "tuple", false, rfl, ClsV.ty _, TyX.base (TyOf.int _), kt_int_tuple, ?_⟩ | refine ⟨_, _, Value.type "bool", Value.type "tuple", false, rfl, ClsV.ty _, TyX.base (TyOf.bl _), kt_bool_tuple, ?_⟩ | refine ⟨_, _, Value.type "str", Value.type "tuple", false, rfl, ClsV.ty _, TyX.base (TyOf.str _), kt_str_tuple, ?_⟩ | refine ⟨_, _, Value.type "NoneType", Value.type "tuple", false, rfl, ClsV.ty _, TyX.base TyOf.non, kt_NoneType_tuple, ?_⟩ | refine ⟨_, _, Value.type "list", Value.type "tuple", false, rfl, ClsV.ty _, tyx_L (by walk_at "sq"), kt_list_tuple, ?_⟩ | refine ⟨_, _, Value.type "tuple", Value.type "tuple", true, rfl, ClsV.ty _, tyx_T (by walk_at "sq"), kt_tuple_tuple, ?_⟩ | refine ⟨_, _, Value.type "int", Value.type "bool", false, rfl, ClsV.ty _, TyX.base (TyOf.int _), kt_int_bool, ?_⟩ | refine ⟨_, _, Value.type "bool", Value.type "bool", true, rfl, ClsV.ty _, TyX.base (TyOf.bl _), kt_bool_bool, ?_⟩ | refine ⟨_, _, Value.type "str", Value.type "bool", false, rfl, ClsV.ty _, TyX.base (TyOf.str _), kt_str_bool, ?_⟩ | refine ⟨_, _, Value.type "NoneType", Value.type "bool", false, rfl, ClsV.ty _, TyX.base TyOf.non, kt_NoneType_bool, ?_⟩ | refine ⟨_, _, Value.type "list", Value.type "bool", false, rfl, ClsV.ty _, tyx_L (by walk_at "sq"), kt_list_bool, ?_⟩ | refine ⟨_, _, Value.type "tuple", Value.type "bool", false, rfl, ClsV.ty _, tyx_T (by walk_at "sq"), kt_tuple_bool, ?_⟩ | refine ⟨_, _, Value.type "int", Value.type "int", true, rfl, ClsV.ty _, TyX.base (TyOf.int _), kt_int_int, ?_⟩ | refine ⟨_, _, Value.type "bool", Value.type "int", true, rfl, ClsV.ty _, TyX.base (TyOf.bl _), kt_bool_int, ?_⟩ | refine ⟨_, _, Value.type "str", Value.type "int", false, rfl, ClsV.ty _, TyX.base (TyOf.str _), kt_str_int, ?_⟩ | refine ⟨_, _, Value.type "NoneType", Value.type "int", false, rfl, ClsV.ty _, TyX.base TyOf.non, kt_NoneType_int, ?_⟩ | refine ⟨_, _, Value.type "list", Value.type "int", false, rfl, ClsV.ty _, tyx_L (by walk_at "sq"), kt_list_int, ?_⟩ | refine ⟨_, _, Value.type "tuple", Value.type "int", false, rfl, ClsV.ty _, tyx_T (by walk_at "sq"), kt_tuple_int, ?_⟩ | refine ⟨_, _, Value.type "int", Value.type "str", false, rfl, ClsV.ty _, TyX.base (TyOf.int _), kt_int_str, ?_⟩ | refine ⟨_, _, Value.type "bool", Value.type "str", false, rfl, ClsV.ty _, TyX.base (TyOf.bl _), kt_bool_str, ?_⟩ | refine ⟨_, _, Value.type "str", Value.type "str", true, rfl, ClsV.ty _, TyX.base (TyOf.str _), kt_str_str, ?_⟩ | refine ⟨_, _, Value.type "NoneType", Value.type "str", false, rfl, ClsV.ty _, TyX.base TyOf.non, kt_NoneType_str, ?_⟩ | refine ⟨_, _, Value.type "list", Value.type "str", false, rfl, ClsV.ty _, tyx_L (by walk_at "sq"), kt_list_str, ?_⟩ | refine ⟨_, _, Value.type "tuple", Value.type "str", false, rfl, ClsV.ty _, tyx_T (by walk_at "sq"), kt_tuple_str, ?_⟩)
local macro_rules | `(tactic| walk_at "go1") => `(tactic| first
  | (refine ⟨_, rfl, ?_⟩)
  | (refine ⟨_, _, rfl, rfl, ?_⟩)
  | (refine ⟨_, _, _, _, rfl, rfl, SqL.of (by walk_at "hp"), rfl, ?_⟩)
  | (refine Or.inl ⟨_, rfl, ?_⟩)
  | (refine ⟨rfl, ?_⟩)
  | (refine ⟨_, _, rfl, .inl (SqL.of (by walk_at "hp")), ?_⟩)
  | (refine ⟨_, _, rfl, Or.inl (by assumption), ?_⟩)
  | (refine ⟨_, _, rfl, Or.inr (by assumption), ?_⟩)
  | (refine ⟨(by walk_at "ok"), ?_⟩)
  | (refine ⟨_, _, _, _, rfl, rfl, (by walk_at "hp"), rfl, ?_⟩))
local macro_rules | `(tactic| walk_at "go") => `(tactic| repeat (walk_at "go1"))
local macro_rules | `(tactic| walk_at "gt") => `(tactic| repeat (first | walk_at "go1" | walk_at "ty"))

section
variable {P : Program} {w : World} {K : PySem.W.Frag} {mg : Str → Option Value} {base : Heap}
def spGcd : Sp := fun vs H Q _ => ∃ (x y : Nat), vs = [.int (x : Int), .int (y : Int)] ∧ ∀ H', Same H H' → Q (.int ((Nat.gcd x y : Nat) : Int)) H'
theorem ok_l_gcd (T : Tx K mg) : FnOk P w K mg base CX0 1 T.f_l_gcd T.d_l_gcd ["_law_x", "_law_y"] spGcd := by
  refine T.F_l_gcd.ok sc_l_gcd (fun vs H Q E h => ?_) (fun cdv A outer s H vs Q E hr h => ?_)
  · obtain ⟨x, y, rfl, _⟩ := h
    rfl
  obtain ⟨x, y, rfl, q⟩ := h
  have nd := sc_l_gcd.nd
  refine ⟨_, (pss_cons (ps_while PassesOwn.never (pt_cmpR op_gt (pv 1) pe_int (nomark _)) (pss_one (ps_par (i := 0) (j := 1) rfl nd rfl rfl (by decide) rfl rfl (pa_cons (pv 1) (pa_cons (pe_op op_mod (pe_callTy call_int1 (by rfl) T.z_int (by decide +kernel) (pa_cons (pv 0) pa_nil)) (pv 1)) pa_nil)) rfl)))
    (pss_one (ps_ret (pv 0)))), ?_⟩
  refine ⟨fun m σ H' => ∃ u v : Nat, m = v ∧ H' = H ∧ Nat.gcd u v = Nat.gcd x y ∧ σ = [some (.int (u : Int)), some (.int (v : Int))], ⟨y, x, y, rfl, rfl, rfl, rfl⟩, ?_⟩
  rintro m σ H2 ⟨u, v, rfl, rfl, hg, rfl⟩
  by_cases hv : 0 < m
  · refine ⟨_, rfl, _, _, rfl, rfl, true, congrArg V.bl (decide_eq_true (by omega)), ?_⟩
    refine ⟨fun σ' H' => H' = H2 ∧ σ' = [some (.int (m : Int)), some (.int ((u % m : Nat) : Int))], fun σ' H' ⟨a1, a2⟩ => ⟨u % m, Nat.mod_lt _ hv, m, u % m, rfl, a1, by rw [← hg, Nat.gcd_comm u m, Nat.gcd_rec m u, Nat.gcd_comm], a2⟩, ?_⟩
    refine ⟨_, rfl, _, rfl, .inl ⟨_, rfl, _, rfl, _, _, rfl, rfl, (by show (0 : Int) < (m : Int); omega), _, _, rfl, rfl, rfl⟩⟩
  · obtain rfl : m = 0 := by omega
    refine ⟨_, rfl, _, _, rfl, rfl, false, congrArg V.bl (decide_eq_false (by omega)), ?_⟩
    refine ⟨_, rfl, ?_⟩
    rw [Nat.gcd_zero_right] at hg
    rw [hg]
    exact q _ (Same.refl _)
/-- a pair of numbers as the law tells a ratio -/
structure TAt (K : PySem.W.Frag) (H : Hp) (t : Addr) (e : List Int) : Prop where
  ex : SqT K H t [.int ((up e : Nat) : Int), .int ((dn e : Nat) : Int)]
  len : e.length = 6
theorem TAt.same {H H' : Hp} {t : Addr} {e : List Int} (h : TAt K H t e) (s : Same H H') : TAt K H' t e := ⟨seqT s h.ex, h.len⟩
def spLow (K : PySem.W.Frag) : Sp := fun vs H Q _ => ∃ (m : Nat) (e : List Int), vs = [.int ((m * up e : Nat) : Int), .int ((m * dn e : Nat) : Int)] ∧ 0 < m ∧ m < 2 ^ 8001 ∧ e.length = 6 ∧ ∀ t H', Same H H' → TAt K H' t e → Q (.ref t) H'
theorem ok_l_low (T : Tx K mg) : FnOk P w K mg base CX0 2 T.f_l_low T.d_l_low ["_law_num", "_law_den"] (spLow K) := by
  have G_l_gcd := ok_l_gcd (P := P) (w := w) (base := base) T
  refine T.F_l_low.ok sc_l_low (fun vs H Q E h => ?_) (fun cdv A outer s H vs Q E hr h => ?_)
  · obtain ⟨m, e, rfl, _⟩ := h
    rfl
  obtain ⟨m, e, rfl, hm, hm3, hl, q⟩ := h
  have nd := sc_l_low.nd
  refine ⟨_, (pss_cons (ps_set (i := 2) nd rfl (Or.inl rfl) (pe_call G_l_gcd hr (by rfl) T.m_l_gcd T.F_l_gcd.kp T.b_l_gcd .nil pass0 (pa_cons (pv 0) (pa_cons (pv 1) pa_nil))))
    (pss_one (ps_ret (pe_tup (pa_cons (pe_op op_fdivW (pv 0) (pv 2)) (pa_cons (pe_op op_fdivW (pv 1) (pv 2)) pa_nil)))))), ?_⟩
  refine ⟨_, rfl, _, rfl, _, _, rfl, fun H1 s1 => ?_⟩
  rw [gcd_of (e := 0) (cop_e e)]
  have hm0 : (0 : Int) < (m : Int) := by omega
  have hW : ∀ i : Int, CDivW i (m : Int) := fun i => wide_div hm0 (by rw [Int.natAbs_natCast]; exact hm3) (by decide) (by decide)
  have q1 : ((m * up e : Nat) : Int) / (m : Int) = ((up e : Nat) : Int) := by rw [← Int.natCast_ediv, Nat.mul_div_cancel_left _ hm]
  have q2 : ((m * dn e : Nat) : Int) / (m : Int) = ((dn e : Nat) : Int) := by rw [← Int.natCast_ediv, Nat.mul_div_cancel_left _ hm]
  refine ⟨_, rfl, _, rfl, _, _, rfl, rfl, hW _, _, rfl, _, rfl, _, _, rfl, rfl, hW _, (by show 2 ≤ sizeLine; decide), fun t ht => q t _ (s1.trans (Same.new ht)) ⟨SqT.of ?_, hl⟩⟩
  rw [upd_same, ← q1, ← q2]
def Fit (x : List Int) : Prop := up x < 2 ^ 4000 ∧ dn x < 2 ^ 4000
def spL2 (K : PySem.W.Frag) (f : List Int → List Int → List Int) : Sp := fun vs H Q _ => ∃ (p r : Addr) (x y : List Int), vs = [.ref p, .ref r] ∧ TAt K H p x ∧ TAt K H r y ∧ Fit x ∧ Fit y ∧ ∀ t H', Same H H' → TAt K H' t (f x y) → Q (.ref t) H'
theorem both_lt {x y : List Int} (hl : x.length = y.length) (hx : up x < 2 ^ 4000) (hy : up y < 2 ^ 4000) : pp prs (both x y) < 2 ^ 8001 := by
  have h := up_mul x y hl
  have h1 : pp prs (both x y) ≤ up x * up y := by rw [h]; exact Nat.le_mul_of_pos_right _ (up_pos _)
  have h2 : up x * up y < 2 ^ 4000 * 2 ^ 4000 := Nat.mul_lt_mul'' hx hy
  rw [← Nat.pow_add] at h2
  exact Nat.lt_of_le_of_lt h1 (Nat.lt_trans h2 (Nat.pow_lt_pow_right (by decide) (by decide)))
theorem sub_addE (x y : List Int) : subE x y = addE x (negE y) := by
  apply List.ext_getElem
  · simp [subE, addE, negE]
  · intro i h1 h2
    simp [subE, addE, negE]
    omega
theorem nb4 {u : Nat} (h : u < 2 ^ 4000) : ((u : Int)).natAbs < 2 ^ 4000 := by rw [Int.natAbs_natCast]; exact h
theorem ok_l_mul (T : Tx K mg) : FnOk P w K mg base CX0 3 T.f_l_mul T.d_l_mul ["_law_x", "_law_y"] (spL2 K addE) := by
  have G_l_low := ok_l_low (P := P) (w := w) (base := base) T
  refine T.F_l_mul.ok sc_l_mul (fun vs H Q E h => ?_) (fun cdv A outer s H vs Q E hr h => ?_)
  · obtain ⟨p, r, x, y, rfl, _⟩ := h
    rfl
  obtain ⟨p, r, x, y, rfl, hx, hy, fx, fy, q⟩ := h
  refine ⟨_, (pss_one (ps_ret (pe_call G_l_low hr (by rfl) T.m_l_low T.F_l_low.kp T.b_l_low .nil pass0 (pa_cons (pe_op op_mulW (pe_ix (show IxR _ (rIxT K) from ix_tup) (pv 0) pe_int (fun _ _ => rfl)) (pe_ix (show IxR _ (rIxT K) from ix_tup) (pv 1) pe_int (fun _ _ => rfl))) (pa_cons (pe_op op_mulW (pe_ix (show IxR _ (rIxT K) from ix_tup) (pv 0) pe_int (fun _ _ => rfl)) (pe_ix (show IxR _ (rIxT K) from ix_tup) (pv 1) pe_int (fun _ _ => rfl))) pa_nil))))), ?_⟩
  have hl : x.length = y.length := by rw [hx.len, hy.len]
  refine ⟨_, rfl, _, _, _, _, rfl, rfl, hx.ex, rfl, _, rfl, _, _, _, _, rfl, rfl, hy.ex, rfl, _, _, rfl, rfl, wide_mul (nb4 fx.1) (nb4 fy.1) (by decide) (by decide) (by decide), ?_⟩
  refine ⟨_, rfl, _, _, _, _, rfl, rfl, hx.ex, rfl, _, rfl, _, _, _, _, rfl, rfl, hy.ex, rfl, _, _, rfl, rfl, wide_mul (nb4 fx.2) (nb4 fy.2) (by decide) (by decide) (by decide), ?_⟩
  refine ⟨pp prs (both x y), addE x y, ?_, pp_pos _ pc_prs, both_lt hl fx.1 fy.1, by simp [addE, hx.len, hy.len], q⟩
  rw [← up_mul x y hl, ← dn_mul x y hl]
  rfl
theorem ok_l_quo (T : Tx K mg) : FnOk P w K mg base CX0 3 T.f_l_quo T.d_l_quo ["_law_x", "_law_y"] (spL2 K subE) := by
  have G_l_low := ok_l_low (P := P) (w := w) (base := base) T
  refine T.F_l_quo.ok sc_l_quo (fun vs H Q E h => ?_) (fun cdv A outer s H vs Q E hr h => ?_)
  · obtain ⟨p, r, x, y, rfl, _⟩ := h
    rfl
  obtain ⟨p, r, x, y, rfl, hx, hy, fx, fy, q⟩ := h
  refine ⟨_, (pss_one (ps_ret (pe_call G_l_low hr (by rfl) T.m_l_low T.F_l_low.kp T.b_l_low .nil pass0 (pa_cons (pe_op op_mulW (pe_ix (show IxR _ (rIxT K) from ix_tup) (pv 0) pe_int (fun _ _ => rfl)) (pe_ix (show IxR _ (rIxT K) from ix_tup) (pv 1) pe_int (fun _ _ => rfl))) (pa_cons (pe_op op_mulW (pe_ix (show IxR _ (rIxT K) from ix_tup) (pv 0) pe_int (fun _ _ => rfl)) (pe_ix (show IxR _ (rIxT K) from ix_tup) (pv 1) pe_int (fun _ _ => rfl))) pa_nil))))), ?_⟩
  have hl : x.length = (negE y).length := by rw [hx.len]; simp [negE, hy.len]
  refine ⟨_, rfl, _, _, _, _, rfl, rfl, hx.ex, rfl, _, rfl, _, _, _, _, rfl, rfl, hy.ex, rfl, _, _, rfl, rfl, wide_mul (nb4 fx.1) (nb4 fy.2) (by decide) (by decide) (by decide), ?_⟩
  refine ⟨_, rfl, _, _, _, _, rfl, rfl, hx.ex, rfl, _, rfl, _, _, _, _, rfl, rfl, hy.ex, rfl, _, _, rfl, rfl, wide_mul (nb4 fx.2) (nb4 fy.1) (by decide) (by decide) (by decide), ?_⟩
  refine ⟨pp prs (both x (negE y)), subE x y, ?_, pp_pos _ pc_prs, both_lt hl fx.1 (by rw [up_neg]; exact fy.2), by simp [subE, hx.len, hy.len], q⟩
  rw [sub_addE, ← up_mul x _ hl, ← dn_mul x _ hl, up_neg, dn_neg]
  rfl
def spLess (K : PySem.W.Frag) : Sp := fun vs H Q _ => ∃ (p r : Addr) (x y : List Int), vs = [.ref p, .ref r] ∧ TAt K H p x ∧ TAt K H r y ∧ Fit x ∧ Fit y ∧ Q (.bl (decide (up x * dn y < up y * dn x))) H
end
end TL
namespace TL
open PySem L2

/-! ### steps of a reading -/
local macro_rules | `(tactic| walk_at "hp") => `(tactic| first | assumption | exact upd_same | (refine (upd_ne (by first | assumption | (exact Ne.symm (by assumption)))).trans ?_; walk_at "hp"))
local macro_rules | `(tactic| walk_at "ok") => `(tactic| first | (exact Or.inr ⟨by decide, by decide⟩) | (exact ⟨by decide, by decide⟩) | (exact ⟨by decide, by decide, by decide⟩) | (show _ ≠ _; omega) | (show _ ≠ _; decide) | (exact Or.inl ⟨by omega, by omega⟩) | decide)
local macro_rules | `(tactic| walk_at "sq") => `(tactic| first | assumption | exact SqL.of (by walk_at "hp") | exact SqT.of (by walk_at "hp"))
local macro_rules | `(tactic| walk_at "ty") => `(tactic| first | refine ⟨_, _, Value.type "int", Value.type "list", false, rfl, ClsV.ty _, TyX.base (TyOf.int _), kt_int_list, ?_⟩ | refine ⟨_, _, Value.type "bool", Value.type "list", false, rfl, ClsV.ty _, TyX.base (TyOf.bl _), kt_bool_list, ?_⟩ | refine ⟨_, _, Value.type "str", Value.type "list", false, rfl, ClsV.ty _, TyX.base (TyOf.str _), kt_str_list, ?_⟩ | refine ⟨_, _, Value.type "NoneType", Value.type "list", false, rfl, ClsV.ty _, TyX.base TyOf.non, kt_NoneType_list, ?_⟩ | refine ⟨_, _, Value.type "list", Value.type "list", true, rfl, ClsV.ty _, tyx_L (by walk_at "sq"), kt_list_list, ?_⟩ | refine ⟨_, _, Value.type "tuple", Value.type "list", false, rfl, ClsV.ty _, tyx_T (by walk_at "sq"), kt_tuple_list, ?_⟩ | refine ⟨_, _, Value.type "int", Value.type "tuple", false, rfl, ClsV.ty _, TyX.base (TyOf.int _), kt_int_tuple, ?_⟩ | refine ⟨_, _, Value.type "bool", Value.type "tuple", false, rfl, ClsV.ty _, TyX.base (TyOf.bl _), kt_bool_tuple, ?_⟩ | refine ⟨_, _, Value.type "str", Value.type "tuple", false, rfl, ClsV.ty _, TyX.base (TyOf.str _), kt_str_tuple, ?_⟩ | refine ⟨_, _, Value.type "NoneType", Value.type "tuple", false, rfl, ClsV.ty _, TyX.base TyOf.non, kt_NoneType_tuple, ?_⟩ | refine ⟨_, _, Value.type "list", Value.type "tuple", false, rfl, ClsV.ty _, tyx_L (by walk_at "sq"), kt_list_tuple, ?_⟩ | refine ⟨_, _, Value.type "tuple", Value.type "tuple", true, rfl, ClsV.ty _, tyx_T (by walk_at "sq"), kt_tuple_tuple, ?_⟩ | refine ⟨_, _, Value.type "int", Value.type "bool", false, rfl, ClsV.ty _, TyX.base (TyOf.int _), kt_int_bool, ?_⟩ | refine ⟨_, _, Value.type "bool", Value.type "bool", true, rfl, ClsV.ty _, TyX.base (TyOf.bl _), kt_bool_bool, ?_⟩ | refine ⟨_, _, Value.type "str", Value.type "bool", false, rfl, ClsV.ty _, TyX.base (TyOf.str _), kt_str_bool, ?_⟩ | refine ⟨_, _, Value.type "NoneType", Value.type "bool", false, rfl, ClsV.ty _, TyX.base TyOf.non, kt_NoneType_bool, ?_⟩ | refine ⟨_, _, Value.type "list", Value.type "bool", false, rfl, ClsV.ty _, tyx_L (by walk_at "sq"), kt_list_bool, ?_⟩ | refine ⟨_, _, Value.type "tuple", Value.type "bool", false, rfl, ClsV.ty _, tyx_T (by walk_at "sq"), kt_tuple_bool, ?_⟩ | refine ⟨_, _, Value.type "int", Value.type "int", true, rfl, ClsV.ty _, TyX.base (TyOf.int _), kt_int_int, ?_⟩ | refine ⟨_, _, Value.type "bool", Value.type "int", true, rfl, ClsV.ty _, TyX.base (TyOf.bl _), kt_bool_int, ?_⟩ | refine ⟨_, _, Value.type "str", Value.type "int", false, rfl, ClsV.ty _, TyX.base (TyOf.str _), kt_str_int, ?_⟩ | refine ⟨_, _, Value.type "NoneType", Value.type "int", false, rfl, ClsV.ty _, TyX.base TyOf.non, kt_NoneType_int, ?_⟩ | refine ⟨_, _, Value.type "list", Value.type "int", false, rfl, ClsV.ty _, tyx_L (by walk_at "sq"), kt_list_int, ?_⟩ | refine ⟨_, _, Value.type "tuple", Value.type "int", false, rfl, ClsV.ty _, tyx_T (by walk_at "sq"), kt_tuple_int, ?_⟩ | refine ⟨_, _, Value.type "int", Value.type "str", false, rfl, ClsV.ty _, TyX.base (TyOf.int _), kt_int_str, ?_⟩ | refine ⟨_, _, Value.type "bool", Value.type "str", false, rfl, ClsV.ty _, TyX.base (TyOf.bl _), kt_bool_str, ?_⟩ | refine ⟨_, _, Value.type "str", Value.type "str", true, rfl, ClsV.ty _, TyX.base (TyOf.str _), kt_str_str, ?_⟩ | refine ⟨_, _, Value.type "NoneType", Value.type "str", false, rfl, ClsV.ty _, TyX.base TyOf.non, kt_NoneType_str, ?_⟩ | refine ⟨_, _, Value.type "list", Value.type "str", false, rfl, ClsV.ty _, tyx_L (by walk_at "sq"), kt_list_str, ?_⟩ | refine ⟨_, _, Value.type "tuple", Value.type "str", false, rfl, ClsV.ty _, tyx_T (by walk_at "sq"), kt_tuple_str, ?_⟩)
local macro_rules | `(tactic| walk_at "go1") => `(tactic| first
  | (refine ⟨_, rfl, ?_⟩)
  | (refine ⟨_, _, rfl, rfl, ?_⟩)
  | (refine ⟨_, _, _, _, rfl, rfl, SqL.of (by walk_at "hp"), rfl, ?_⟩)
  | (refine Or.inl ⟨_, rfl, ?_⟩)
  | (refine ⟨rfl, ?_⟩)
  | (refine ⟨_, _, rfl, .inl (SqL.of (by walk_at "hp")), ?_⟩)
  | (refine ⟨_, _, rfl, Or.inl (by assumption), ?_⟩)
  | (refine ⟨_, _, rfl, Or.inr (by assumption), ?_⟩)
  | (refine ⟨(by walk_at "ok"), ?_⟩)
  | (refine ⟨_, _, _, _, rfl, rfl, (by walk_at "hp"), rfl, ?_⟩))
local macro_rules | `(tactic| walk_at "go") => `(tactic| repeat (walk_at "go1"))
local macro_rules | `(tactic| walk_at "gt") => `(tactic| repeat (first | walk_at "go1" | walk_at "ty"))

section
variable {P : Program} {w : World} {K : PySem.W.Frag} {mg : Str → Option Value} {base : Heap}
-- [0=_law_x, 1=_law_n, 2=_law_num, 3=_law_den, 4=_law_turn] [0=_law_n, 1=_law_prime, 2=_law_found] [0=_law_x*, 1=_law_prime] [0=_law_x, 1=_law_n]
theorem nbk {u k : Nat} (h : u < 2 ^ k) : ((u : Int)).natAbs < 2 ^ k := by rw [Int.natAbs_natCast]; exact h
def spLRaised (K : PySem.W.Frag) : Sp := fun vs H Q _ => ∃ (p : Addr) (n : Int) (e : List Int), vs = [.ref p, .int n] ∧ TAt K H p e ∧ n.natAbs ≤ 1000 ∧ up e ^ n.natAbs < 2 ^ 50000 ∧ dn e ^ n.natAbs < 2 ^ 50000 ∧ ∀ t H', Same H H' → TAt K H' t (mulE n e) → Q (.ref t) H'
theorem ok_l_raised (T : Tx K mg) : FnOk P w K mg base CX0 1 T.f_l_raised T.d_l_raised ["_law_x", "_law_n"] (spLRaised K) := by
  refine T.F_l_raised.ok sc_l_raised (fun vs H Q E h => ?_) (fun cdv A outer s H vs Q E hr h => ?_)
  · obtain ⟨p, n, e, rfl, _⟩ := h
    rfl
  obtain ⟨p, n, e, rfl, he, hn, hu, hd, q⟩ := h
  have nd := sc_l_raised.nd
  refine ⟨_, (pss_cons (ps_asg (pe_tup (pa_cons pe_int (pa_cons pe_int pa_nil))) (pg_tup rfl (pgs_cons (pg_name (i := 2) nd rfl (Or.inl rfl)) (pgs_cons (pg_name (i := 3) nd rfl (Or.inl rfl)) pgs_nil))))
    (pss_cons (ps_for PassesOwn.never rfl (pi_range1 (by rfl) T.z_range (pa_cons (pe_callB call_abs (by rfl) T.z_abs (by decide +kernel) (pa_cons (pv 1) pa_nil)) pa_nil)) (pg_name (i := 4) nd rfl (Or.inl rfl)) (pss_one (ps_par (i := 2) (j := 3) rfl nd rfl rfl (by decide) rfl rfl (pa_cons (pe_op op_mulW (pv 2) (pe_ix (show IxR _ (rIxT K) from ix_tup) (pv 0) pe_int (fun _ _ => rfl))) (pa_cons (pe_op op_mulW (pv 3) (pe_ix (show IxR _ (rIxT K) from ix_tup) (pv 0) pe_int (fun _ _ => rfl))) pa_nil)) rfl)))
    (pss_one (ps_ret (pe_ifExp (pt_cmpR op_ge (pv 1) pe_int (nomark _)) (pe_tup (pa_cons (pv 2) (pa_cons (pv 3) pa_nil))) (pe_tup (pa_cons (pv 3) (pa_cons (pv 2) pa_nil)))))))), ?_⟩
  have hab : (if n < 0 then -n else n) = ((n.natAbs : Nat) : Int) := by split <;> omega
  refine ⟨(by show 2 ≤ sizeLine; decide), fun t0 h0 => ⟨t0, _, rfl, SqT.of upd_same, rfl, _, _, rfl, _, _, rfl, rfl, ?_⟩⟩
  have s0 := Same.new (o := .tup [.int 1, .int 1]) h0
  have le1 : ∀ {b i : Nat}, 0 < b → i ≤ n.natAbs → b ^ i ≤ b ^ n.natAbs := fun hb hi => Nat.pow_le_pow_right hb hi
  refine ⟨_, rfl, _, rfl, ((n.natAbs : Nat) : Int), by rw [hab], by omega, by omega, for_range (lo := 0) (n := n.natAbs) (fun i σ H' => Same H H' ∧ ∃ a4, σ = [some (.ref p), some (.int n), some (.int ((up e ^ i : Nat) : Int)), some (.int ((dn e ^ i : Nat) : Int)), a4]) ⟨s0, _, rfl⟩ ?_ ?_⟩
  · rintro i σ H1 hi ⟨s1, a4, rfl⟩
    have he1 := he.same s1
    have hu1 : up e ^ i < 2 ^ 50000 := Nat.lt_of_le_of_lt (le1 (up_pos e) (by omega)) hu
    have hd1 : dn e ^ i < 2 ^ 50000 := Nat.lt_of_le_of_lt (le1 (dn_pos e) (by omega)) hd
    have hu2 : up e < 2 ^ 50000 := Nat.lt_of_le_of_lt (Nat.le_self_pow (by omega) _) hu
    have hd2 : dn e < 2 ^ 50000 := Nat.lt_of_le_of_lt (Nat.le_self_pow (by omega) _) hd
    refine ⟨_, rfl, _, rfl, _, _, _, _, rfl, rfl, he1.ex, rfl, _, _, rfl, rfl, wide_mul (nbk hu1) (nbk hu2) (by decide) (by decide) (by decide), ?_⟩
    refine ⟨_, rfl, _, rfl, _, _, _, _, rfl, rfl, he1.ex, rfl, _, _, rfl, rfl, wide_mul (nbk hd1) (nbk hd2) (by decide) (by decide) (by decide), ?_⟩
    refine ⟨_, _, rfl, s1, some (.int (0 + (i : Nat))), ?_⟩
    rw [Nat.pow_succ, Nat.pow_succ]
    rfl
  · rintro σ H1 ⟨s1, a4, rfl⟩
    refine ⟨_, rfl, _, _, rfl, rfl, _, rfl, ?_⟩
    refine ite2 (fun c => ?_) (fun c => ?_)
    · have c' : 0 ≤ n := of_decide_eq_true c
      have en : ((n.natAbs : Nat) : Int) = n := by omega
      refine ⟨_, rfl, _, rfl, (by show 2 ≤ sizeLine; decide), fun t ht => q t _ (s1.trans (Same.new ht)) ⟨SqT.of ?_, by simpa [mulE] using he.len⟩⟩
      rw [upd_same, up_pow, dn_pow, en]
    · have c' : ¬ 0 ≤ n := fun z => c (decide_eq_true z)
      have en : -((n.natAbs : Nat) : Int) = n := by omega
      refine ⟨_, rfl, _, rfl, (by show 2 ≤ sizeLine; decide), fun t ht => q t _ (s1.trans (Same.new ht)) ⟨SqT.of ?_, by simpa [mulE] using he.len⟩⟩
      rw [upd_same, up_pow, dn_pow, ← en, ← neg_mulE, up_neg, dn_neg]
      simp only [Int.natAbs_neg, Int.natAbs_natCast]
def spCount : Sp := fun vs H Q _ => ∃ (d k r : Nat), vs = [.int ((d ^ k * r : Nat) : Int), .int (d : Int)] ∧ 1 < d ∧ 0 < r ∧ ¬ d ∣ r ∧ d < 2 ^ 300 ∧ Q (.int (k : Int)) H
theorem ok_l_count (T : Tx K mg) : FnOk P w K mg base CX0 1 T.f_l_count T.d_l_count ["_law_n", "_law_prime"] spCount := by
  refine T.F_l_count.ok sc_l_count (fun vs H Q E h => ?_) (fun cdv A outer s H vs Q E hr h => ?_)
  · obtain ⟨d, k, r, rfl, _⟩ := h
    rfl
  obtain ⟨d, k, r, rfl, h1, hr0, hd, hb, q⟩ := h
  have nd := sc_l_count.nd
  refine ⟨_, (pss_cons (ps_set (i := 2) nd rfl (Or.inl rfl) pe_int)
    (pss_cons (ps_while PassesOwn.never (pt_cmpR op_eq (pe_op op_mod (pe_callTy call_int1 (by rfl) T.z_int (by decide +kernel) (pa_cons (pv 0) pa_nil)) (pv 1)) pe_int (nomark _)) (pss_one (ps_par (i := 0) (j := 2) rfl nd rfl rfl (by decide) rfl rfl (pa_cons (pe_op op_fdivW (pv 0) (pv 1)) (pa_cons (pe_op op_add (pv 2) pe_int) pa_nil)) rfl)))
    (pss_one (ps_ret (pv 2))))), ?_⟩
  refine ⟨fun m σ H' => ∃ i : Nat, i + m = k ∧ H' = H ∧ σ = [some (.int ((d ^ m * r : Nat) : Int)), some (.int (d : Int)), some (.int (i : Int))], ⟨k, 0, by omega, rfl, rfl⟩, ?_⟩
  rintro m σ H2 ⟨i, hi, rfl, rfl⟩
  have hd0 : (0 : Int) < (d : Int) := by omega
  cases m with
  | zero =>
    obtain rfl : i = k := by omega
    refine ⟨_, rfl, .inl ⟨_, rfl, _, rfl, _, _, rfl, rfl, hd0, rfl, false, congrArg V.bl (by rw [dec_int]; exact beq_false_of_ne (spl0 hd)), ?_⟩⟩
    exact ⟨_, rfl, q⟩
  | succ m =>
    refine ⟨_, rfl, .inl ⟨_, rfl, _, rfl, _, _, rfl, rfl, hd0, rfl, true, congrArg V.bl (by rw [dec_int, spl1 (by omega)]; rfl), ?_⟩⟩
    refine ⟨fun σ' H' => ∃ i : Nat, i + m = k ∧ H' = H2 ∧ σ' = [some (.int ((d ^ m * r : Nat) : Int)), some (.int (d : Int)), some (.int (i : Int))], fun σ' H' h => ⟨m, Nat.lt_succ_self _, h⟩, ?_⟩
    refine ⟨_, rfl, _, rfl, _, _, rfl, rfl, wide_div hd0 (by rw [Int.natAbs_natCast]; exact hb) (by decide) (by decide), _, rfl, _, _, rfl, rfl, _, _, rfl, i + 1, by omega, rfl, ?_⟩
    rw [← spl2 (r := r) (m := m) (show 0 < d by omega)]
    rfl
theorem ok_l_primes (T : Tx K mg) : FnOk P w K mg base CX0 1 T.f_l_primes T.d_l_primes [] (fun vs H Q _ => vs = [] ∧ ∀ t, H t = none → Q (.ref t) (upd H t (.lst (nL prs)))) := by
  refine T.F_l_primes.ok sc_l_primes (fun vs H Q E h => ?_) (fun cdv A outer s H vs Q E hr h => ?_)
  · obtain ⟨rfl, _⟩ := h
    rfl
  obtain ⟨rfl, q⟩ := h
  refine ⟨_, (pss_one (ps_ret (pe_lst (pa_cons pe_int (pa_cons pe_int (pa_cons pe_int (pa_cons pe_int (pa_cons pe_int (pa_cons pe_int pa_nil))))))))), ?_⟩
  exact ⟨(by show 6 ≤ sizeLine; decide), q⟩
def spSaid (K : PySem.W.Frag) : Sp := fun vs H Q _ => ∃ (p : Addr) (e : List Int), vs = [.ref p] ∧ TAt K H p e ∧ ShortE e ∧ Q (.str (toldE e)) H
def spExps (K : PySem.W.Frag) : Sp := fun vs H Q _ => ∃ (p : Addr) (e : List Int), vs = [.ref p] ∧ TAt K H p e ∧ ∀ t H', Same H H' → H' t = some (.lst (e.map V.int)) → Q (.ref t) H'
theorem ok_l_exponents (T : Tx K mg) : FnOk P w K mg base CX0 2 T.f_l_exponents T.d_l_exponents ["_law_x"] (spExps K) := by
  have G_l_primes := ok_l_primes (P := P) (w := w) (base := base) T
  have G_l_count := ok_l_count (P := P) (w := w) (base := base) T
  refine T.F_l_exponents.ok sc_l_exponents (fun vs H Q E h => ?_) (fun cdv A outer s H vs Q E hr h => ?_)
  · obtain ⟨p, e, rfl, _⟩ := h
    rfl
  obtain ⟨p, e, rfl, he, q⟩ := h
  have nd := sc_l_exponents.nd
  refine ⟨_, (pss_one (ps_ret (pe_lc (own := [("_law_prime", 1)]) (g := (gName 1)) rfl nd (show PI _ _ _ (iList K _) from pi_list (pe_call0 G_l_primes hr (by rfl) T.m_l_primes T.F_l_primes.kp T.b_l_primes .nil pass0)) (blkOk_by (own := [("_law_prime", 1)]) (N := N_l_exponents) (sc := defScope s_l_exponents) (by decide +kernel)) (fun _ _ _ _ _ => by exact (pg_name (i := 1) nd rfl (Or.inl rfl))) (fun _ _ _ _ _ => by exact pts_nil) (fun _ _ _ _ _ => by exact (pe_op op_sub (pe_call G_l_count hr (by rfl) T.m_l_count T.F_l_count.kp T.b_l_count .nil pass0 (pa_cons (pe_ix (show IxR _ (rIxT K) from ix_tup) (pv 0) pe_int (fun _ _ => rfl)) (pa_cons (pv 1) pa_nil))) (pe_call G_l_count hr (by rfl) T.m_l_count T.F_l_count.kp T.b_l_count .nil pass0 (pa_cons (pe_ix (show IxR _ (rIxT K) from ix_tup) (pv 0) pe_int (fun _ _ => rfl)) (pa_cons (pv 1) pa_nil)))))))), ?_⟩
  refine ⟨rfl, fun t0 h0 => ?_⟩
  have s0 := Same.new (o := .lst (nL prs)) h0
  have hu6 : (upE e).length = 6 := by simpa [upE] using he.len
  have hd6 : (dnE e).length = 6 := by simpa [dnE] using he.len
  refine ⟨t0, rfl, ⟨_, SqL.of upd_same⟩, fun D hD => ?_⟩
  refine lcm (walk_list (K := K) (a := t0) (xs := nL prs)) (e.map V.int) (by rw [List.length_map, he.len]; rfl) (by decide) hD (fun H' s' => SqL.of (s' _ _ upd_same)) ?_ fun H1 s1 hD1 => q D H1 (s0.trans s1) hD1
  rintro t y x H1 H2 hi hy s1 ⟨rfl, hx⟩ k hk
  replace hi : t < 6 := hi
  obtain ⟨p1, a1, r1, e1, e2, g1, g2, g3, g4, g5⟩ := pp_at hi hu6
  obtain ⟨p2, a2, r2, f1, f2, _, _, f3, f4, f5⟩ := pp_at hi hd6
  obtain rfl : p1 = p2 := Option.some.inj (e1.symm.trans f1)
  rw [List.getElem?_map, e1] at hx
  obtain rfl : V.int (p1 : Nat) = x := Option.some.inj hx
  rw [List.getElem?_map] at hy
  obtain ⟨n, hn, rfl⟩ := Option.map_eq_some_iff.mp hy
  obtain rfl : n.toNat = a1 := by
    rw [upE, List.getElem?_map, hn] at e2
    exact Option.some.inj e2
  obtain rfl : (-n).toNat = a2 := by
    rw [dnE, List.getElem?_map, hn] at f2
    exact Option.some.inj f2
  have he1 := he.same (s0.trans s1)
  have b3 : p1 < 2 ^ 300 := by omega
  refine ⟨rfl, ?_⟩
  refine ⟨_, rfl, _, _, _, _, rfl, rfl, he1.ex, rfl, _, rfl, p1, n.toNat, r1, by rw [← g3]; rfl, g1, g4, g5, b3, ?_⟩
  refine ⟨_, rfl, _, _, _, _, rfl, rfl, he1.ex, rfl, _, rfl, p1, (-n).toNat, r2, by rw [← f3]; rfl, g1, f4, f5, b3, ?_⟩
  refine ⟨_, _, rfl, rfl, ?_⟩
  have z : ((n.toNat : Nat) : Int) - (((-n).toNat : Nat) : Int) = n := by omega
  show k (V.int (((n.toNat : Nat) : Int) - (((-n).toNat : Nat) : Int))) _
  rw [z]
  exact hk _ (Same.refl _)
end
end TL
namespace TL
open PySem L2

/-! ### steps of a reading -/
local macro_rules | `(tactic| walk_at "hp") => `(tactic| first | assumption | exact upd_same | (refine (upd_ne (by first | assumption | (exact Ne.symm (by assumption)))).trans ?_; walk_at "hp"))
local macro_rules | `(tactic| walk_at "ok") => `(tactic| first | (exact Or.inr ⟨by decide, by decide⟩) | (exact ⟨by decide, by decide⟩) | (exact ⟨by decide, by decide, by decide⟩) | (show _ ≠ _; omega) | (show _ ≠ _; decide) | (exact Or.inl ⟨by omega, by omega⟩) | decide)
local macro_rules | `(tactic| walk_at "sq") => `(tactic| first | assumption | exact SqL.of (by walk_at "hp") | exact SqT.of (by walk_at "hp"))
local macro_rules | `(tactic| walk_at "ty") => `(tactic| first | refine ⟨_, _, Value.type "int", Value.type "list", false, rfl, ClsV.ty _, TyX.base (TyOf.int _), kt_int_list, ?_⟩ | refine ⟨_, _, Value.type "bool", Value.type "list", false, rfl, ClsV.ty _, TyX.base (TyOf.bl _), kt_bool_list, ?_⟩ | refine ⟨_, _, Value.type "str", Value.type "list", false, rfl, ClsV.ty _, TyX.base (TyOf.str _), kt_str_list, ?_⟩ | refine ⟨_, _, Value.type "NoneType", Value.type "list", false, rfl, ClsV.ty _, TyX.base TyOf.non, kt_NoneType_list, ?_⟩ | refine ⟨_, _, Value.type "list", Value.type "list", true, rfl, ClsV.ty _, tyx_L (by walk_at "sq"), kt_list_list, ?_⟩ | refine ⟨_, _, Value.type "tuple", Value.type "list", false, rfl, ClsV.ty _, tyx_T (by walk_at "sq"), kt_tuple_list, ?_⟩ | refine ⟨_, _, Value.type "int", Value.type "tuple", false, rfl, ClsV.ty _, TyX.base (TyOf.int _), kt_int_tuple, ?_⟩ | refine ⟨_, _, Value.type "bool", Value.type "tuple", false, rfl, ClsV.ty _, TyX.base (TyOf.bl _), kt_bool_tuple, ?_⟩ | refine ⟨_, _, Value.type "str", Value.type "tuple", false, rfl, ClsV.ty _, TyX.base (TyOf.str _), kt_str_tuple, ?_⟩ | refine ⟨_, _, Value.type "NoneType", Value.type "tuple", false, rfl, ClsV.ty _, TyX.base TyOf.non, kt_NoneType_tuple, ?_⟩ | refine ⟨_, _, Value.type "list", Value.type "tuple", false, rfl, ClsV.ty _, tyx_L (by walk_at "sq"), kt_list_tuple, ?_⟩ | refine ⟨_, _, Value.type "tuple", Value.type "tuple", true, rfl, ClsV.ty _, tyx_T (by walk_at "sq"), kt_tuple_tuple, ?_⟩ | refine ⟨_, _, Value.type "int", Value.type "bool", false, rfl, ClsV.ty _, TyX.base (TyOf.int _), kt_int_bool, ?_⟩ | refine ⟨_, _, Value.type "bool", Value.type "bool", true, rfl, ClsV.ty _, TyX.base (TyOf.bl _), kt_bool_bool, ?_⟩ | refine ⟨_, _, Value.type "str", Value.type "bool", false, rfl, ClsV.ty _, TyX.base (TyOf.str _), kt_str_bool, ?_⟩ | refine ⟨_, _, Value.type "NoneType", Value.type "bool", false, rfl, ClsV.ty _, TyX.base TyOf.non, kt_NoneType_bool, ?_⟩ | refine ⟨_, _, Value.type "list", Value.type "bool", false, rfl, ClsV.ty _, tyx_L (by walk_at "sq"), kt_list_bool, ?_⟩ | refine ⟨_, _, Value.type "tuple", Value.type "bool", false, rfl, ClsV.ty _, tyx_T (by walk_at "sq"), kt_tuple_bool, ?_⟩ | refine ⟨_, _, Value.type "int", Value.type "int", true, rfl, ClsV.ty _, TyX.base (TyOf.int _), kt_int_int, ?_⟩ | refine ⟨_, _, Value.type "bool", Value.type "int", true, rfl, ClsV.ty _, TyX.base (TyOf.bl _), kt_bool_int, ?_⟩ | refine ⟨_, _, Value.type "str", Value.type "int", false, rfl, ClsV.ty _, TyX.base (TyOf.str _), kt_str_int, ?_⟩ | refine ⟨_, _, Value.type "NoneType", Value.type "int", false, rfl, ClsV.ty _, TyX.base TyOf.non, kt_NoneType_int, ?_⟩ | refine ⟨_, _, Value.type "list", Value.type "int", false, rfl, ClsV.ty _, tyx_L (by walk_at "sq"), kt_list_int, ?_⟩ | refine ⟨_, _, Value.type "tuple", Value.type "int", false, rfl, ClsV.ty _, tyx_T (by walk_at "sq"), kt_tuple_int, ?_⟩ | refine ⟨_, _, Value.type "int", Value.type "str", false, rfl, ClsV.ty _, TyX.base (TyOf.int _), kt_int_str, ?_⟩ | refine ⟨_, _, Value.type "bool", Value.type "str", false, rfl, ClsV.ty _, TyX.base (TyOf.bl _), kt_bool_str, ?_⟩ | refine ⟨_, _, Value.type "str", Value.type "str", true, rfl, ClsV.ty _, TyX.base (TyOf.str _), kt_str_str, ?_⟩ | refine ⟨_, _, Value.type "NoneType", Value.type "str", false, rfl, ClsV.ty _, TyX.base TyOf.non, kt_NoneType_str, ?_⟩ | refine ⟨_, _, Value.type "list", Value.type "str", false, rfl, ClsV.ty _, tyx_L (by walk_at "sq"), kt_list_str, ?_⟩ | refine ⟨_, _, Value.type "tuple", Value.type "str", false, rfl, ClsV.ty _, tyx_T (by walk_at "sq"), kt_tuple_str, ?_⟩)
local macro_rules | `(tactic| walk_at "go1") => `(tactic| first
  | (refine ⟨_, rfl, ?_⟩)
  | (refine ⟨_, _, rfl, rfl, ?_⟩)
  | (refine ⟨_, _, _, _, rfl, rfl, SqL.of (by walk_at "hp"), rfl, ?_⟩)
  | (refine Or.inl ⟨_, rfl, ?_⟩)
  | (refine ⟨rfl, ?_⟩)
  | (refine ⟨_, _, rfl, .inl (SqL.of (by walk_at "hp")), ?_⟩)
  | (refine ⟨_, _, rfl, Or.inl (by assumption), ?_⟩)
  | (refine ⟨_, _, rfl, Or.inr (by assumption), ?_⟩)
  | (refine ⟨(by walk_at "ok"), ?_⟩)
  | (refine ⟨_, _, _, _, rfl, rfl, (by walk_at "hp"), rfl, ?_⟩))
local macro_rules | `(tactic| walk_at "go") => `(tactic| repeat (walk_at "go1"))
local macro_rules | `(tactic| walk_at "gt") => `(tactic| repeat (first | walk_at "go1" | walk_at "ty"))

section
variable {P : Program} {w : World} {K : PySem.W.Frag} {mg : Str → Option Value} {base : Heap}
-- [0=_law_bag_here, 1=_law_small] [0=_law_bag_here, 1=_law_x] [0=_law_bag_here, 1=_law_x, 2=_law_m]
def spLBits (K : PySem.W.Frag) : Sp := fun vs H Q _ => ∃ (p : Addr) (e : List Int), vs = [.ref p] ∧ TAt K H p e ∧ ∀ t H', Same H H' → SqT K H' t ((bitsE e).map V.int) → Q (.ref t) H'
theorem ok_l_bits (T : Tx K mg) : FnOk P w K mg base CX0 3 T.f_l_bits T.d_l_bits ["_law_x"] (spLBits K) := by
  have G_l_exponents := ok_l_exponents (P := P) (w := w) (base := base) T
  refine T.F_l_bits.ok sc_l_bits (fun vs H Q E h => ?_) (fun cdv A outer s H vs Q E hr h => ?_)
  · obtain ⟨p, e, rfl, _⟩ := h
    rfl
  obtain ⟨p, e, rfl, he, q⟩ := h
  have nd := sc_l_bits.nd
  refine ⟨_, (pss_one (ps_ret (pe_callTy (show CallR _ _ (rTup1 K) from call_tup1) (by rfl) T.z_tuple (by decide +kernel) (pa_cons (pe_lc (own := [("_law_n", 1)]) (g := (gName 1)) rfl nd (show PI _ _ _ (iList K _) from pi_list (pe_call G_l_exponents hr (by rfl) T.m_l_exponents T.F_l_exponents.kp T.b_l_exponents .nil pass0 (pa_cons (pv 0) pa_nil))) (blkOk_by (own := [("_law_n", 1)]) (N := N_l_bits) (sc := defScope s_l_bits) (by decide +kernel)) (fun _ _ _ _ _ => by exact (pg_name (i := 1) nd rfl (Or.inl rfl))) (fun _ _ _ _ _ => by exact pts_nil) (fun _ _ _ _ _ => by exact (pe_op op_and (pv 1) pe_int))) pa_nil)))), ?_⟩
  refine ⟨_, rfl, p, e, rfl, he, fun t H1 s1 ht => ⟨t, rfl, ⟨_, SqL.of ht⟩, fun D hD => ?_⟩⟩
  refine lc_mapL (f := fun a => a.fmod 2) (SqL.of ht) (by rw [he.len]; decide) hD (fun u => rfl) (fun u H1 k _ hk => ⟨_, rfl, u, _, rfl, rfl, ?_⟩) fun H2 s2 hD2 => ?_
  · show k (V.int (Builtin.bitAnd u 1)) H1
    rw [and1]
    exact hk
  exact ⟨D, _, rfl, .inl (SqL.of hD2), fun t4 H4 s4 ht4 => q t4 H4 ((s1.trans s2).trans s4) ht4⟩
/-! ### drawn ratios -/
theorem TAt.kb {B : Bg} {H H' : Hp} {t : Addr} {e : List Int} (h : TAt K H t e) (hB : Bag B H) (k : Kb B.b H H') : TAt K H' t e := by
  obtain ⟨i, r, s, c, hb, _⟩ := hB.ex
  exact ⟨seqT_kb hb k h.ex, h.len⟩
theorem RAt.kb {C : Addr} {B : Bg} {H H' : Hp} {t : Addr} {e : List Int} (h : RAt K C H t e) (hB : Bag B H) (k : Kb B.b H H') : RAt K C H' t e := by
  obtain ⟨i, r, s, c, hb, _⟩ := hB.ex
  obtain ⟨dx, t', h1, h2⟩ := h.ex
  exact ⟨⟨dx, t', k _ _ h1 (ne_of h1 hb (by intro z; cases z)), seqT_kb hb k h2⟩, h.len⟩
def Tas (K : PySem.W.Frag) (H : Hp) (ps : List V) (es : List (List Int)) : Prop := ps.length = es.length ∧ ∀ (i : Nat) p, ps[i]? = some p → ∃ t e, p = .ref t ∧ e ∈ es ∧ TAt K H t e
theorem Tas.same {H H' : Hp} {ps : List V} {es : List (List Int)} (h : Tas K H ps es) (s : Same H H') : Tas K H' ps es := ⟨h.1, fun i p hp => by
  obtain ⟨t, e, e1, e2, e3⟩ := h.2 i p hp
  exact ⟨t, e, e1, e2, e3.same s⟩⟩
def EvTs (K : PySem.W.Frag) (ta : TA) (σ : L2.St) (H : Hp) (es : List (List Int)) : Prop := ∀ H1, Same H H1 → ∀ Q : List V → Hp → Prop, (∀ ps H2, Same H1 H2 → Tas K H2 ps es → Q ps H2) → ta σ H1 Q
theorem ets_nil {σ : L2.St} {H : Hp} : EvTs K tNil σ H [] := fun H1 s Q q => q [] H1 (Same.refl _) ⟨rfl, fun i p h => by cases h⟩
theorem ets_cons {σ : L2.St} {H : Hp} {a b : Int} {tr : TA} {e : List Int} {es : List (List Int)} (h1 : a = ((up e : Nat) : Int)) (h2 : b = ((dn e : Nat) : Int)) (hl : e.length = 6) (hr : EvTs K tr σ H es) :
    EvTs K (tCons (tTup (tCons (tC (.int a)) (tCons (tC (.int b)) tNil))) tr) σ H (e :: es) := fun H1 s1 Q q =>
  ⟨(by show 2 ≤ sizeLine; decide), fun p hp => by
    have s2 := Same.new (o := .tup [.int a, .int b]) hp
    refine hr _ (s1.trans s2) _ fun ps H3 s3 hps => q (.ref p :: ps) H3 (s2.trans s3) ⟨by simp [hps.1], fun i r hr' => ?_⟩
    match i, hr' with
    | 0, hr' =>
      cases hr'
      exact ⟨p, e, rfl, List.mem_cons_self .., ⟨SqT.of (by rw [← h1, ← h2]; exact s3 _ _ upd_same), hl⟩⟩
    | i + 1, hr' =>
      obtain ⟨t, f, e1, e2, e3⟩ := hps.2 i r hr'
      exact ⟨t, f, e1, List.mem_cons_of_mem _ e2, e3⟩⟩
theorem tas_set {σ : L2.St} {H : Hp} {ta : TA} {rest : TS} {D : Ends} {i : Nat} {es : List (List Int)} (h : EvTs K ta σ H es) (hz : es.length ≤ 1000) (k : ∀ ps p H', Same H H' → Tas K H' ps es → H' p = some (.lst ps) → rest D (σ.set i (some (.ref p))) H') : tSeq (tAsg (tLst ta) (gName i)) rest D σ H :=
  h H (Same.refl _) _ fun ps H1 s1 hw => ⟨by rw [hw.1]; exact Nat.le_of_lt (Nat.lt_of_le_of_lt hz (by decide)), fun p hp =>
    have s2 := Same.new (o := .lst ps) hp
    k ps p _ (s1.trans s2) (hw.same s2) upd_same⟩
theorem of_tas {σ : L2.St} {H : Hp} {i j : Nat} {tb : TA} {es fs : List (List Int)} {B : Bg} {d : Addr} {ps : List V} {E : XK} {Q : VK} (hi : σ[i]? = some (some (.ref B.b))) (hj : σ[j]? = some (some (.ref d))) (hd : H d = some (.lst ps)) (hps : Tas K H ps es) (hB : Bag B H) (h : EvTs K tb σ H fs)
    (hz : es.length + fs.length ≤ 1000) (h0 : 0 < es.length) (q : ∀ t e H', Bag B H' → Kb B.b H H' → TAt K H' t e → e ∈ es ++ fs → Q (.ref t) H') : tRet (tCall (spOf K) [] E (tCons (tVar i) (tCons (tOp rCat (tVar j) (tLst tb)) tNil))) { nx := fun _ H' => Q .non H', rt := Q } σ H := by
  refine ⟨_, hi, _, hj, h H (Same.refl _) _ fun ps2 H1 s1 h2 => ⟨by rw [h2.1]; exact Nat.le_of_lt (Nat.lt_of_le_of_lt (by omega : fs.length ≤ 1000) (by decide)), fun p hp => ?_⟩⟩
  have s2 := Same.new (o := .lst ps2) hp
  refine ⟨d, p, ps, ps2, rfl, rfl, s2 _ _ (s1 _ _ hd), upd_same, by rw [hps.1, h2.1]; exact Nat.le_of_lt (Nat.lt_of_le_of_lt hz (by decide)), fun r hr => ?_⟩
  have s3 := Same.new (o := .lst (ps ++ ps2)) hr
  have sA := (s1.trans s2).trans s3
  have hB2 := hB.same (s1.trans s2)
  refine ⟨B, r, ps ++ ps2, rfl, SqL.of upd_same, hB2.nb hr, by rw [List.length_append, hps.1]; omega, by rw [List.length_append, hps.1, h2.1]; exact hz, hB.same sA, fun m v H' hv hB' kb => ?_⟩
  have kA := (Kb.same (g := B.b) sA).trans kb
  rcases Nat.lt_or_ge m ps.length with c | c
  · rw [List.getElem?_append_left c] at hv
    obtain ⟨t, e, rfl, he, ht⟩ := (hps.same sA).2 m v hv
    exact q t e H' hB' kA (ht.kb (hB.same sA) kb) (List.mem_append_left _ he)
  · rw [List.getElem?_append_right c] at hv
    obtain ⟨t, e, rfl, he, ht⟩ := (h2.same (s2.trans s3)).2 _ v hv
    exact q t e H' hB' kA (ht.kb (hB.same sA) kb) (List.mem_append_right _ he)
def steps : List (List Int) := [[-3, 2, 0, 0, 0, 0], [1, -2, 1, 0, 0, 0], [4, -1, -1, 0, 0, 0], [-3, -1, 2, 0, 0, 0], [1, 1, -1, 0, 0, 0], [-1, -1, 0, 1, 0, 0], [3, 0, 0, -1, 0, 0], [-2, 0, 1, 0, 0, 0], [2, -1, 0, 0, 0, 0], [-1, 1, 0, 0, 0, 0], [1, 0, 0, 0, 0, 0]]
def steps2 : List (List Int) := [[-3, 2, 0, 0, 0, 0], [4, -1, -1, 0, 0, 0], [-1, 0, -1, 0, 1, 0], [1, 0, 0, 1, 0, -1], [-2, -1, 0, 0, 0, 1]]
def Sm (b : Nat) (e : List Int) : Prop := up e ≤ b ∧ dn e ≤ b
theorem steps_sm : ∀ e ∈ steps ++ steps2, up e ≤ 25 ∧ dn e ≤ 25 := by decide
def spStep (K : PySem.W.Frag) (b : Nat) : Sp := fun vs H Q _ => ∃ (B : Bg), vs = [.ref B.b] ∧ Bag B H ∧ ∀ t e H', Bag B H' → Kb B.b H H' → TAt K H' t e → Sm b e → Q (.ref t) H'
theorem ok_l_step (T : Tx K mg) : FnOk P w K mg base CX0 3 T.f_l_step T.d_l_step ["_law_bag_here"] (spStep K 25) := by
  have G_l_of := ok_of (P := P) (w := w) (base := base) T
  refine T.F_l_step.ok sc_l_step (fun vs H Q E h => ?_) (fun cdv A outer s H vs Q E hr h => ?_)
  · obtain ⟨B, rfl, _⟩ := h
    rfl
  obtain ⟨B, rfl, hB, q⟩ := h
  have nd := sc_l_step.nd
  refine ⟨_, (pss_cons (ps_set (i := 1) nd rfl (Or.inl rfl) (pe_lst (pa_cons (pe_tup (pa_cons pe_int (pa_cons pe_int pa_nil))) (pa_cons (pe_tup (pa_cons pe_int (pa_cons pe_int pa_nil))) (pa_cons (pe_tup (pa_cons pe_int (pa_cons pe_int pa_nil))) (pa_cons (pe_tup (pa_cons pe_int (pa_cons pe_int pa_nil))) (pa_cons (pe_tup (pa_cons pe_int (pa_cons pe_int pa_nil))) (pa_cons (pe_tup (pa_cons pe_int (pa_cons pe_int pa_nil))) (pa_cons (pe_tup (pa_cons pe_int (pa_cons pe_int pa_nil))) (pa_cons (pe_tup (pa_cons pe_int (pa_cons pe_int pa_nil))) (pa_cons (pe_tup (pa_cons pe_int (pa_cons pe_int pa_nil))) (pa_cons (pe_tup (pa_cons pe_int (pa_cons pe_int pa_nil))) (pa_cons (pe_tup (pa_cons pe_int (pa_cons pe_int pa_nil))) pa_nil)))))))))))))
    (pss_one (ps_ret (pe_call G_l_of hr (by rfl) T.m_l_of T.F_l_of.kp T.b_l_of .nil pass0 (pa_cons (pv 0) (pa_cons (pe_op op_cat (pv 1) (pe_lst (pa_cons (pe_tup (pa_cons pe_int (pa_cons pe_int pa_nil))) (pa_cons (pe_tup (pa_cons pe_int (pa_cons pe_int pa_nil))) (pa_cons (pe_tup (pa_cons pe_int (pa_cons pe_int pa_nil))) (pa_cons (pe_tup (pa_cons pe_int (pa_cons pe_int pa_nil))) (pa_cons (pe_tup (pa_cons pe_int (pa_cons pe_int pa_nil))) pa_nil))))))) pa_nil)))))), ?_⟩
  refine tas_set (K := K) (es := steps) ?_ (by decide) fun ps d H1 s1 hps hd => ?_
  · repeat (first | exact ets_nil | refine ets_cons (by decide) (by decide) rfl ?_)
  refine of_tas (K := K) (B := B) (es := steps) (fs := steps2) rfl rfl hd hps (hB.same s1) ?_ (by decide) (by decide) fun t e H' hB' kb' ht he => ?_
  · repeat (first | exact ets_nil | refine ets_cons (by decide) (by decide) rfl ?_)
  exact q t e H' hB' ((Kb.same s1).trans kb') ht (steps_sm e he)
def spLength (K : PySem.W.Frag) : Sp := spStep K 625
theorem sm_add {a b : Nat} {x y : List Int} (hl : x.length = y.length) (hx : Sm a x) (hy : Sm b y) : Sm (a * b) (addE x y) := by
  have h1 := up_mul x y hl
  have h2 := dn_mul x y hl
  have p0 : 0 < pp prs (both x y) := pp_pos _ pc_prs
  refine ⟨Nat.le_trans (Nat.le_mul_of_pos_left _ p0) ?_, Nat.le_trans (Nat.le_mul_of_pos_left _ p0) ?_⟩
  · rw [← h1]
    exact Nat.mul_le_mul hx.1 hy.1
  · rw [← h2]
    exact Nat.mul_le_mul hx.2 hy.2
theorem Sm.fit {a : Nat} {x : List Int} (h : Sm a x) (ha : a < 2 ^ 4000) : Fit x := ⟨Nat.lt_of_le_of_lt h.1 ha, Nat.lt_of_le_of_lt h.2 ha⟩
theorem ok_l_length (T : Tx K mg) : FnOk P w K mg base CX0 4 T.f_l_length T.d_l_length ["_law_bag_here"] (spStep K 625) := by
  have G_l_step := ok_l_step (P := P) (w := w) (base := base) T
  have G_l_draw := ok_draw (P := P) (w := w) (base := base) T
  have G_l_mul := ok_l_mul (P := P) (w := w) (base := base) T
  refine T.F_l_length.ok sc_l_length (fun vs H Q E h => ?_) (fun cdv A outer s H vs Q E hr h => ?_)
  · obtain ⟨B, rfl, _⟩ := h
    rfl
  obtain ⟨B, rfl, hB, q⟩ := h
  have nd := sc_l_length.nd
  refine ⟨_, (pss_cons (ps_set (i := 1) nd rfl (Or.inl rfl) (pe_call G_l_step hr (by rfl) T.m_l_step T.F_l_step.kp T.b_l_step .nil pass0 (pa_cons (pv 0) pa_nil)))
    (pss_one (ps_ret (pe_ifExp (pt_cmpR op_eq (pe_call G_l_draw (hr.mono (by decide)) (by rfl) T.m_l_draw T.F_l_draw.kp T.b_l_draw .nil pass0 (pa_cons (pv 0) (pa_cons pe_int pa_nil))) pe_int (nomark _)) (pe_call G_l_mul hr (by rfl) T.m_l_mul T.F_l_mul.kp T.b_l_mul .nil pass0 (pa_cons (pv 1) (pa_cons (pe_call G_l_step hr (by rfl) T.m_l_step T.F_l_step.kp T.b_l_step .nil pass0 (pa_cons (pv 0) pa_nil)) pa_nil))) (pv 1))))), ?_⟩
  refine ⟨_, rfl, B, rfl, hB, fun t e H1 hB1 kb1 ht he => ?_⟩
  refine ⟨_, rfl, B, 3, rfl, by decide, by decide, hB1, fun d H2 d0 d1 hB2 kb2 => ?_⟩
  refine ⟨rfl, _, rfl, ?_⟩
  have ht2 := ht.kb hB1 kb2
  have f25 : (25 : Nat) < 2 ^ 4000 := Nat.lt_trans (by decide : 25 < 2 ^ 5) (Nat.pow_lt_pow_right (by decide) (by decide))
  refine ite2 (fun c => ?_) (fun c => ?_)
  · refine ⟨_, rfl, _, rfl, B, rfl, hB2, fun t' e' H3 hB3 kb3 ht' he' => ?_⟩
    refine ⟨t, t', e, e', rfl, ht2.kb hB2 kb3, ht', he.fit f25, he'.fit f25, fun r H4 s4 hr' => ?_⟩
    have hl : e.length = e'.length := by rw [ht.len, ht'.len]
    exact q r _ H4 (hB3.same s4) (((kb1.trans kb2).trans kb3).trans (Kb.same s4)) hr' (sm_add hl he he')
  · exact ⟨_, rfl, q t e H2 hB2 (kb1.trans kb2) ht2 ⟨Nat.le_trans he.1 (by decide), Nat.le_trans he.2 (by decide)⟩⟩
end
end TL
namespace TL
open PySem L2

/-! ### steps of a reading -/
local macro_rules | `(tactic| walk_at "hp") => `(tactic| first | assumption | exact upd_same | (refine (upd_ne (by first | assumption | (exact Ne.symm (by assumption)))).trans ?_; walk_at "hp"))
local macro_rules | `(tactic| walk_at "ok") => `(tactic| first | (exact Or.inr ⟨by decide, by decide⟩) | (exact ⟨by decide, by decide⟩) | (exact ⟨by decide, by decide, by decide⟩) | (show _ ≠ _; omega) | (show _ ≠ _; decide) | (exact Or.inl ⟨by omega, by omega⟩) | decide)
local macro_rules | `(tactic| walk_at "sq") => `(tactic| first | assumption | exact SqL.of (by walk_at "hp") | exact SqT.of (by walk_at "hp"))
local macro_rules | `(tactic| walk_at "ty") => `(tactic| first | refine ⟨_, _, Value.type "int", Value.type "list", false, rfl, ClsV.ty _, TyX.base (TyOf.int _), kt_int_list, ?_⟩ | refine ⟨_, _, Value.type "bool", Value.type "list", false, rfl, ClsV.ty _, TyX.base (TyOf.bl _), kt_bool_list, ?_⟩ | refine ⟨_, _, Value.type "str", Value.type "list", false, rfl, ClsV.ty _, TyX.base (TyOf.str _), kt_str_list, ?_⟩ | refine ⟨_, _, Value.type "NoneType", Value.type "list", false, rfl, ClsV.ty _, TyX.base TyOf.non, kt_NoneType_list, ?_⟩ | refine ⟨_, _, Value.type "list", Value.type "list", true, rfl, ClsV.ty _, tyx_L (by walk_at "sq"), kt_list_list, ?_⟩ | refine ⟨_, _, Value.type "tuple", Value.type "list", false, rfl, ClsV.ty _, tyx_T (by walk_at "sq"), kt_tuple_list, ?_⟩ | refine ⟨_, _, Value.type "int", Value.type "tuple", false, rfl, ClsV.ty _, TyX.base (TyOf.int _), kt_int_tuple, ?_⟩ | refine ⟨_, _, Value.type "bool", Value.type "tuple", false, rfl, ClsV.ty _, TyX.base (TyOf.bl _), kt_bool_tuple, ?_⟩ | refine ⟨_, _, Value.type "str", Value.type "tuple", false, rfl, ClsV.ty _, TyX.base (TyOf.str _), kt_str_tuple, ?_⟩ | refine ⟨_, _, Value.type "NoneType", Value.type "tuple", false, rfl, ClsV.ty _, TyX.base TyOf.non, kt_NoneType_tuple, ?_⟩ | refine ⟨_, _, Value.type "list", Value.type "tuple", false, rfl, ClsV.ty _, tyx_L (by walk_at "sq"), kt_list_tuple, ?_⟩ | refine ⟨_, _, Value.type "tuple", Value.type "tuple", true, rfl, ClsV.ty _, tyx_T (by walk_at "sq"), kt_tuple_tuple, ?_⟩ | refine ⟨_, _, Value.type "int", Value.type "bool", false, rfl, ClsV.ty _, TyX.base (TyOf.int _), kt_int_bool, ?_⟩ | refine ⟨_, _, Value.type "bool", Value.type "bool", true, rfl, ClsV.ty _, TyX.base (TyOf.bl _), kt_bool_bool, ?_⟩ | refine ⟨_, _, Value.type "str", Value.type "bool", false, rfl, ClsV.ty _, TyX.base (TyOf.str _), kt_str_bool, ?_⟩ | refine ⟨_, _, Value.type "NoneType", Value.type "bool", false, rfl, ClsV.ty _, TyX.base TyOf.non, kt_NoneType_bool, ?_⟩ | refine ⟨_, _, Value.type "list", Value.type "bool", false, rfl, ClsV.ty _, tyx_L (by walk_at "sq"), kt_list_bool, ?_⟩ | refine ⟨_, _, Value.type "tuple", Value.type "bool", false, rfl, ClsV.ty _, tyx_T (by walk_at "sq"), kt_tuple_bool, ?_⟩ | refine ⟨_, _, Value.type "int", Value.type "int", true, rfl, ClsV.ty _, TyX.base (TyOf.int _), kt_int_int, ?_⟩ | refine ⟨_, _, Value.type "bool", Value.type "int", true, rfl, ClsV.ty _, TyX.base (TyOf.bl _), kt_bool_int, ?_⟩ | refine ⟨_, _, Value.type "str", Value.type "int", false, rfl, ClsV.ty _, TyX.base (TyOf.str _), kt_str_int, ?_⟩ | refine ⟨_, _, Value.type "NoneType", Value.type "int", false, rfl, ClsV.ty _, TyX.base TyOf.non, kt_NoneType_int, ?_⟩ | refine ⟨_, _, Value.type "list", Value.type "int", false, rfl, ClsV.ty _, tyx_L (by walk_at "sq"), kt_list_int, ?_⟩ | refine ⟨_, _, Value.type "tuple", Value.type "int", false, rfl, ClsV.ty _, tyx_T (by walk_at "sq"), kt_tuple_int, ?_⟩ | refine ⟨_, _, Value.type "int", Value.type "str", false, rfl, ClsV.ty _, TyX.base (TyOf.int _), kt_int_str, ?_⟩ | refine ⟨_, _, Value.type "bool", Value.type "str", false, rfl, ClsV.ty _, TyX.base (TyOf.bl _), kt_bool_str, ?_⟩ | refine ⟨_, _, Value.type "str", Value.type "str", true, rfl, ClsV.ty _, TyX.base (TyOf.str _), kt_str_str, ?_⟩ | refine ⟨_, _, Value.type "NoneType", Value.type "str", false, rfl, ClsV.ty _, TyX.base TyOf.non, kt_NoneType_str, ?_⟩ | refine ⟨_, _, Value.type "list", Value.type "str", false, rfl, ClsV.ty _, tyx_L (by walk_at "sq"), kt_list_str, ?_⟩ | refine ⟨_, _, Value.type "tuple", Value.type "str", false, rfl, ClsV.ty _, tyx_T (by walk_at "sq"), kt_tuple_str, ?_⟩)
local macro_rules | `(tactic| walk_at "go1") => `(tactic| first
  | (refine ⟨_, rfl, ?_⟩)
  | (refine ⟨_, _, rfl, rfl, ?_⟩)
  | (refine ⟨_, _, _, _, rfl, rfl, SqL.of (by walk_at "hp"), rfl, ?_⟩)
  | (refine Or.inl ⟨_, rfl, ?_⟩)
  | (refine ⟨rfl, ?_⟩)
  | (refine ⟨_, _, rfl, .inl (SqL.of (by walk_at "hp")), ?_⟩)
  | (refine ⟨_, _, rfl, Or.inl (by assumption), ?_⟩)
  | (refine ⟨_, _, rfl, Or.inr (by assumption), ?_⟩)
  | (refine ⟨(by walk_at "ok"), ?_⟩)
  | (refine ⟨_, _, _, _, rfl, rfl, (by walk_at "hp"), rfl, ?_⟩))
local macro_rules | `(tactic| walk_at "go") => `(tactic| repeat (walk_at "go1"))
local macro_rules | `(tactic| walk_at "gt") => `(tactic| repeat (first | walk_at "go1" | walk_at "ty"))

section
variable {P : Program} {w : World} {K : PySem.W.Frag} {mg : Str → Option Value} {base : Heap}
theorem among2 {n : Int} (h : n ∈ ([1, 1, 1, 1, 2, 17, 30, 10 ^ 9 + 7] : List Int)) : ∃ m : Nat, n = (m : Int) ∧ 0 < m ∧ m < 2 ^ 30 := by
  have : 0 < n ∧ n < 2 ^ 30 := by
    revert n
    decide
  exact ⟨n.toNat, by omega, by omega, by omega⟩
def spLRatio (K : PySem.W.Frag) (C : Addr) : Sp := fun vs H Q _ => ∃ (B : Bg) (p : Addr) (e : List Int), vs = [.ref B.b, .ref p] ∧ Bag B H ∧ TAt K H p e ∧ Fit e ∧ ∀ t H', Bag B H' → Kb B.b H H' → RAt K C H' t e → Q (.ref t) H'
theorem ok_l_ratio (T : Tx K mg) : FnOk P w K mg base CX0 6 T.f_l_ratio T.d_l_ratio ["_law_bag_here", "_law_x"] (spLRatio K T.C_Ratio) := by
  have G_l_of := ok_of (P := P) (w := w) (base := base) T
  have G_Ratio_init := ok_rinit (P := P) (w := w) (base := base) T
  refine T.F_l_ratio.ok sc_l_ratio (fun vs H Q E h => ?_) (fun cdv A outer s H vs Q E hr h => ?_)
  · obtain ⟨B, p, e, rfl, _⟩ := h
    rfl
  obtain ⟨B, p, e, rfl, hB, he, hf, q⟩ := h
  have nd := sc_l_ratio.nd
  refine ⟨_, (pss_cons (ps_set (i := 2) nd rfl (Or.inl rfl) (pe_call G_l_of (hr.mono (by decide)) (by rfl) T.m_l_of T.F_l_of.kp T.b_l_of .nil pass0 (pa_cons (pv 0) (pa_cons (pe_lst (pa_cons pe_int (pa_cons pe_int (pa_cons pe_int (pa_cons pe_int (pa_cons pe_int (pa_cons pe_int (pa_cons pe_int (pa_cons (pe_op op_add (pe_op op_pow pe_int pe_int) pe_int) pa_nil))))))))) pa_nil))))
    (pss_one (ps_ret (pe_make T.k_Ratio G_Ratio_init hr (by rfl) T.g_Ratio T.b_Ratio_init .nil pass0 (pa_cons (pe_op op_mulW (pe_ix (show IxR _ (rIxT K) from ix_tup) (pv 1) pe_int (fun _ _ => rfl)) (pv 2)) (pa_cons (pe_op op_mulW (pe_ix (show IxR _ (rIxT K) from ix_tup) (pv 1) pe_int (fun _ _ => rfl)) (pv 2)) pa_nil)))))), ?_⟩
  refine ⟨_, rfl, 10, 9, rfl, rfl, ⟨by decide, by decide, by decide⟩, _, _, rfl, rfl, ?_⟩
  refine ⟨(by show 8 ≤ sizeLine; decide), fun pl hpl => ?_⟩
  have s1 := Same.new (o := .lst (([1, 1, 1, 1, 2, 17, 30, 10 ^ 9 + 7] : List Int).map V.int)) hpl
  refine ⟨B, pl, ([1, 1, 1, 1, 2, 17, 30, 10 ^ 9 + 7] : List Int).map V.int, rfl, SqL.of upd_same, hB.nb hpl, by decide, by decide, hB.same s1, fun i v H1 hv hB1 kb1 => ?_⟩
  obtain ⟨n, hn, rfl⟩ := List.mem_map.mp (List.mem_of_getElem? hv)
  obtain ⟨m, rfl, m0, m1⟩ := among2 hn
  have he1 := (he.same s1).kb (hB.same s1) kb1
  have mb : ((m : Int)).natAbs < 2 ^ 30 := by rw [Int.natAbs_natCast]; exact m1
  refine ⟨_, rfl, _, _, _, _, rfl, rfl, he1.ex, rfl, _, rfl, _, _, rfl, rfl, wide_mul (nb4 hf.1) mb (by decide) (by decide) (by decide), ?_⟩
  refine ⟨_, rfl, _, _, _, _, rfl, rfl, he1.ex, rfl, _, rfl, _, _, rfl, rfl, wide_mul (nb4 hf.2) mb (by decide) (by decide) (by decide), ?_⟩
  intro x dx nx ndx nex
  refine ⟨x, dx, m, e, ?_, upd_same, m0, Nat.lt_trans m1 (Nat.pow_lt_pow_right (by decide) (by decide)), he.len, fun H2 r2 kp => ⟨rfl, ?_⟩⟩
  · rw [Nat.mul_comm m, Nat.mul_comm m]
    rfl
  have s0 : Same H1 (upd (upd H1 dx (.own x)) x (.ins T.C_Ratio dx [])) := fun b o z => by
    rw [upd_ne (ne_of_none z nx), upd_ne (ne_of_none z ndx)]
    exact z
  have s2 : Same H1 H2 := fun b o z => kp b o (s0 b o z) (ne_of_none z nx)
  exact q x H2 (hB1.same s2) (((Kb.same s1).trans kb1).trans (Kb.same s2)) r2
def IsAt (K : PySem.W.Frag) (H : Hp) (t : Addr) (e : List Int) : Prop := SqT K H t [.str (Str.ofString "is"), .int ((up e : Nat) : Int), .int ((dn e : Nat) : Int)]
def spIs (K : PySem.W.Frag) : Sp := fun vs H Q _ => ∃ (p : Addr) (e : List Int), vs = [.ref p] ∧ TAt K H p e ∧ ∀ t H', Same H H' → IsAt K H' t e → Q (.ref t) H'
theorem ok_l_is (T : Tx K mg) : FnOk P w K mg base CX0 1 T.f_l_is T.d_l_is ["_law_x"] (spIs K) := by
  refine T.F_l_is.ok sc_l_is (fun vs H Q E h => ?_) (fun cdv A outer s H vs Q E hr h => ?_)
  · obtain ⟨p, e, rfl, _⟩ := h
    rfl
  obtain ⟨p, e, rfl, he, q⟩ := h
  refine ⟨_, (pss_one (ps_ret (pe_tup (pa_cons pe_str (pa_cons (pe_ix (show IxR _ (rIxT K) from ix_tup) (pv 0) pe_int (fun _ _ => rfl)) (pa_cons (pe_ix (show IxR _ (rIxT K) from ix_tup) (pv 0) pe_int (fun _ _ => rfl)) pa_nil)))))), ?_⟩
  exact ⟨_, rfl, _, _, _, _, rfl, rfl, he.ex, rfl, _, rfl, _, _, _, _, rfl, rfl, he.ex, rfl, (by show 3 ≤ sizeLine; decide), fun t ht => q t _ (Same.new ht) (SqT.of upd_same)⟩
/-! ### what the law sees of a thing -/
def Ras (K : PySem.W.Frag) (C : Addr) (H : Hp) (ps : List V) (es : List (List Int)) : Prop := ps.length = es.length ∧ ∀ (i : Nat) p, ps[i]? = some p → ∃ t e, p = .ref t ∧ es[i]? = some e ∧ RAt K C H t e
def Iss (K : PySem.W.Frag) (H : Hp) (ps : List V) (es : List (List Int)) : Prop := ps.length = es.length ∧ ∀ (i : Nat) p, ps[i]? = some p → ∃ t e, p = .ref t ∧ es[i]? = some e ∧ IsAt K H t e
def spSeen0 (K : PySem.W.Frag) (C : Addr) : Sp := fun vs H Q _ => ∃ (p : Addr) (e : List Int), vs = [.ref p] ∧ RAt K C H p e ∧ ∀ t H', Same H H' → IsAt K H' t e → Q (.ref t) H'
theorem never_seen {T : Tx K mg} : FnOk P w K mg base CX0 0 T.f_l_seen T.d_l_seen ["_law_thing"] (fun _ _ _ _ => False) :=
  ⟨fun vs H Q E h => h.elim, fun A outer s H args us vs Q E _ _ _ _ h => h.elim⟩
theorem ok_seen0 (T : Tx K mg) : FnOk P w K mg base CX0 1 T.f_l_seen T.d_l_seen ["_law_thing"] (spSeen0 K T.C_Ratio) := by
  have G_l_seen := never_seen (P := P) (w := w) (base := base) (T := T)
  refine T.F_l_seen.ok sc_l_seen (fun vs H Q E h => ?_) (fun cdv A outer s H vs Q E hr h => ?_)
  · obtain ⟨p, e, rfl, _⟩ := h
    rfl
  obtain ⟨p, e, rfl, he, q⟩ := h
  obtain ⟨dx, t, h1, h2⟩ := he.ex
  have nd := sc_l_seen.nd
  have i := T.i_Ratio
  refine ⟨_, (pss_cons (ps_if (pt_val (pe_callB (show CallR _ _ (rIsi K) from call_isi) (by rfl) T.z_isinstance (by decide +kernel) (pa_cons (pv 0) (pa_cons (pe_glob (v := .ref T.C_Ratio) (by rfl) T.g_Ratio rfl) pa_nil)))) (pss_one (ps_ret (pe_tup (pa_cons pe_str (pa_cons (show PE _ _ (tFld K _ _) from pe_fld (pv 0) rfl) (pa_cons (show PE _ _ (tFld K _ _) from pe_fld (pv 0) rfl) pa_nil)))))) pss_nil)
    (pss_cons (ps_if (pt_val (pe_callB (show CallR _ _ (rIsi K) from call_isi) (by rfl) T.z_isinstance (by decide +kernel) (pa_cons (pv 0) (pa_cons (pe_bltn (v := .ty "list") (u := .type "list") (by rfl) T.z_list (by decide +kernel) rfl) pa_nil)))) (pss_one (ps_ret (pe_lc (own := [("_law_x", 1)]) (g := (gName 1)) rfl nd (show PI _ _ _ (iList K _) from pi_list (pv 0)) (blkOk_by (own := [("_law_x", 1)]) (N := N_l_seen) (sc := defScope s_l_seen) (by decide +kernel)) (fun _ _ _ _ _ => by exact (pg_name (i := 1) nd rfl (Or.inl rfl))) (fun _ _ _ _ _ => by exact pts_nil) (fun _ _ _ _ _ => by exact (pe_call G_l_seen hr (by rfl) T.m_l_seen T.F_l_seen.kp T.b_l_seen .nil pass0 (pa_cons (pv 1) pa_nil)))))) pss_nil)
    (pss_cons (ps_if (pt_val (pe_callB (show CallR _ _ (rIsi K) from call_isi) (by rfl) T.z_isinstance (by decide +kernel) (pa_cons (pv 0) (pa_cons (pe_bltn (v := .ty "tuple") (u := .type "tuple") (by rfl) T.z_tuple (by decide +kernel) rfl) pa_nil)))) (pss_one (ps_ret (pe_callTy (show CallR _ _ (rTup1 K) from call_tup1) (by rfl) T.z_tuple (by decide +kernel) (pa_cons (pe_lc (own := [("_law_x", 1)]) (g := (gName 1)) rfl nd (show PI _ _ _ (iList K _) from pi_list (pv 0)) (blkOk_by (own := [("_law_x", 1)]) (N := N_l_seen) (sc := defScope s_l_seen) (by decide +kernel)) (fun _ _ _ _ _ => by exact (pg_name (i := 1) nd rfl (Or.inl rfl))) (fun _ _ _ _ _ => by exact pts_nil) (fun _ _ _ _ _ => by exact (pe_call G_l_seen hr (by rfl) T.m_l_seen T.F_l_seen.kp T.b_l_seen .nil pass0 (pa_cons (pv 1) pa_nil)))) pa_nil)))) pss_nil)
    (pss_one (ps_ret (pv 0)))))), ?_⟩
  refine ⟨_, rfl, _, _, _, .ref T.C_Ratio, true, rfl, ClsV.own _, TyX.base (TyOf.ins h1 T.c_Ratio i.ca i.cn i.ct i.cm), i.me, ?_⟩
  refine ⟨_, rfl, ?_⟩
  exact ⟨_, rfl, p, _, _, _, _, rfl, h1, T.c_Ratio, T.n_Ratio_over, rf_o _ _ _, _, rfl, p, _, _, _, _, rfl, h1, T.c_Ratio, T.n_Ratio_under, rf_u _ _ _, (by show 3 ≤ sizeLine; decide), fun t ht => q t _ (Same.new ht) (SqT.of upd_same)⟩
def spSeen1 (K : PySem.W.Frag) (C : Addr) : Sp := fun vs H Q _ => ∃ (p : Addr) (ps : List V) (es : List (List Int)), vs = [.ref p] ∧ SqL K H p ps ∧ Ras K C H ps es ∧ es.length ≤ 1000 ∧ ∀ t qs H', Same H H' → H' t = some (.lst qs) → Iss K H' qs es → Q (.ref t) H'
theorem ok_seen1 (T : Tx K mg) : FnOk P w K mg base CX0 2 T.f_l_seen T.d_l_seen ["_law_thing"] (spSeen1 K T.C_Ratio) := by
  have G_l_seen := ok_seen0 (P := P) (w := w) (base := base) T
  refine T.F_l_seen.ok sc_l_seen (fun vs H Q E h => ?_) (fun cdv A outer s H vs Q E hr h => ?_)
  · obtain ⟨p, ps, es, rfl, _⟩ := h
    rfl
  obtain ⟨p, ps, es, rfl, hp, hR, hz, q⟩ := h
  have nd := sc_l_seen.nd
  refine ⟨_, (pss_cons (ps_if (pt_val (pe_callB (show CallR _ _ (rIsi K) from call_isi) (by rfl) T.z_isinstance (by decide +kernel) (pa_cons (pv 0) (pa_cons (pe_glob (v := .ref T.C_Ratio) (by rfl) T.g_Ratio rfl) pa_nil)))) (pss_one (ps_ret (pe_tup (pa_cons pe_str (pa_cons (show PE _ _ (tFld K _ _) from pe_fld (pv 0) rfl) (pa_cons (show PE _ _ (tFld K _ _) from pe_fld (pv 0) rfl) pa_nil)))))) pss_nil)
    (pss_cons (ps_if (pt_val (pe_callB (show CallR _ _ (rIsi K) from call_isi) (by rfl) T.z_isinstance (by decide +kernel) (pa_cons (pv 0) (pa_cons (pe_bltn (v := .ty "list") (u := .type "list") (by rfl) T.z_list (by decide +kernel) rfl) pa_nil)))) (pss_one (ps_ret (pe_lc (own := [("_law_x", 1)]) (g := (gName 1)) rfl nd (show PI _ _ _ (iList K _) from pi_list (pv 0)) (blkOk_by (own := [("_law_x", 1)]) (N := N_l_seen) (sc := defScope s_l_seen) (by decide +kernel)) (fun _ _ _ _ _ => by exact (pg_name (i := 1) nd rfl (Or.inl rfl))) (fun _ _ _ _ _ => by exact pts_nil) (fun _ _ _ _ _ => by exact (pe_call G_l_seen hr (by rfl) T.m_l_seen T.F_l_seen.kp T.b_l_seen .nil pass0 (pa_cons (pv 1) pa_nil)))))) pss_nil)
    (pss_cons (ps_if (pt_val (pe_callB (show CallR _ _ (rIsi K) from call_isi) (by rfl) T.z_isinstance (by decide +kernel) (pa_cons (pv 0) (pa_cons (pe_bltn (v := .ty "tuple") (u := .type "tuple") (by rfl) T.z_tuple (by decide +kernel) rfl) pa_nil)))) (pss_one (ps_ret (pe_callTy (show CallR _ _ (rTup1 K) from call_tup1) (by rfl) T.z_tuple (by decide +kernel) (pa_cons (pe_lc (own := [("_law_x", 1)]) (g := (gName 1)) rfl nd (show PI _ _ _ (iList K _) from pi_list (pv 0)) (blkOk_by (own := [("_law_x", 1)]) (N := N_l_seen) (sc := defScope s_l_seen) (by decide +kernel)) (fun _ _ _ _ _ => by exact (pg_name (i := 1) nd rfl (Or.inl rfl))) (fun _ _ _ _ _ => by exact pts_nil) (fun _ _ _ _ _ => by exact (pe_call G_l_seen hr (by rfl) T.m_l_seen T.F_l_seen.kp T.b_l_seen .nil pass0 (pa_cons (pv 1) pa_nil)))) pa_nil)))) pss_nil)
    (pss_one (ps_ret (pv 0)))))), ?_⟩
  refine ⟨_, rfl, _, _, _, .ref T.C_Ratio, false, rfl, ClsV.own _, tyx_L hp, T.kList, ?_⟩
  refine ⟨_, rfl, ?_⟩
  refine ⟨_, rfl, _, _, .type "list", .type "list", true, rfl, ClsV.ty _, tyx_L hp, kt_list_list, _, rfl, ?_⟩
  refine ⟨_, rfl, p, rfl, ⟨ps, hp⟩, fun D hD => ?_⟩
  refine lcs (walk_list (K := K) (a := p) (xs := ps)) (fun i y H => ∃ t e, y = V.ref t ∧ es[i]? = some e ∧ IsAt K H t e) (fun i y H1 H2 s1 ⟨t, e, a1, a2, a3⟩ => ⟨t, e, a1, a2, seqT s1 a3⟩)
    (fun i y H1 zs zs' hz' ⟨t, e, a1, a2, a3⟩ => ⟨t, e, a1, a2, seqT_lst hz' a3⟩) (by rw [hR.1]; omega) hD (fun H1 s1 => s1.seq hp) ?_ fun ys H1 hl hys s1 hD1 => q D ys H1 s1 hD1 ⟨by rw [hl, hR.1], hys⟩
  rintro i x H1 H2 hi s1 ⟨rfl, hx⟩ k hk
  obtain ⟨t, e, rfl, he, ht⟩ := hR.2 i x hx
  refine ⟨rfl, ?_⟩
  exact ⟨_, rfl, t, e, rfl, ht.same s1, fun t2 H3 s3 h3 => hk _ H3 s3 ⟨t2, e, rfl, he, h3⟩⟩
end
end TL
namespace TL
open PySem L2

/-! ### steps of a reading -/
local macro_rules | `(tactic| walk_at "hp") => `(tactic| first | assumption | exact upd_same | (refine (upd_ne (by first | assumption | (exact Ne.symm (by assumption)))).trans ?_; walk_at "hp"))
local macro_rules | `(tactic| walk_at "ok") => `(tactic| first | (exact Or.inr ⟨by decide, by decide⟩) | (exact ⟨by decide, by decide⟩) | (exact ⟨by decide, by decide, by decide⟩) | (show _ ≠ _; omega) | (show _ ≠ _; decide) | (exact Or.inl ⟨by omega, by omega⟩) | decide)
local macro_rules | `(tactic| walk_at "sq") => `(tactic| first | assumption | exact SqL.of (by walk_at "hp") | exact SqT.of (by walk_at "hp"))
local macro_rules | `(tactic| walk_at "ty") => `(tactic| first | refine ⟨_, _, Value.type "int", Value.type "list", false, rfl, ClsV.ty _, TyX.base (TyOf.int _), kt_int_list, ?_⟩ | refine ⟨_, _, Value.type "bool", Value.type "list", false, rfl, ClsV.ty _, TyX.base (TyOf.bl _), kt_bool_list, ?_⟩ | refine ⟨_, _, Value.type "str", Value.type "list", false, rfl, ClsV.ty _, TyX.base (TyOf.str _), kt_str_list, ?_⟩ | refine ⟨_, _, Value.type "NoneType", Value.type "list", false, rfl, ClsV.ty _, TyX.base TyOf.non, kt_NoneType_list, ?_⟩ | refine ⟨_, _, Value.type "list", Value.type "list", true, rfl, ClsV.ty _, tyx_L (by walk_at "sq"), kt_list_list, ?_⟩ | refine ⟨_, _, Value.type "tuple", Value.type "list", false, rfl, ClsV.ty _, tyx_T (by walk_at "sq"), kt_tuple_list, ?_⟩ | refine ⟨_, _, Value.type "int", Value.type "tuple", false, rfl, ClsV.ty _, TyX.base (TyOf.int _), kt_int_tuple, ?_⟩ | refine ⟨_, _, Value.type "bool", Value.type "tuple", false, rfl, ClsV.ty _, TyX.base (TyOf.bl _), kt_bool_tuple, ?_⟩ | refine ⟨_, _, Value.type "str", Value.type "tuple", false, rfl, ClsV.ty _, TyX.base (TyOf.str _), kt_str_tuple, ?_⟩ | refine ⟨_, _, Value.type "NoneType", Value.type "tuple", false, rfl, ClsV.ty _, TyX.base TyOf.non, kt_NoneType_tuple, ?_⟩ | refine ⟨_, _, Value.type "list", Value.type "tuple", false, rfl, ClsV.ty _, tyx_L (by walk_at "sq"), kt_list_tuple, ?_⟩ | refine ⟨_, _, Value.type "tuple", Value.type "tuple", true, rfl, ClsV.ty _, tyx_T (by walk_at "sq"), kt_tuple_tuple, ?_⟩ | refine ⟨_, _, Value.type "int", Value.type "bool", false, rfl, ClsV.ty _, TyX.base (TyOf.int _), kt_int_bool, ?_⟩ | refine ⟨_, _, Value.type "bool", Value.type "bool", true, rfl, ClsV.ty _, TyX.base (TyOf.bl _), kt_bool_bool, ?_⟩ | refine ⟨_, _, Value.type "str", Value.type "bool", false, rfl, ClsV.ty _, TyX.base (TyOf.str _), kt_str_bool, ?_⟩ | refine ⟨_, _, Value.type "NoneType", Value.type "bool", false, rfl, ClsV.ty _, TyX.base TyOf.non, kt_NoneType_bool, ?_⟩ | refine ⟨_, _, Value.type "list", Value.type "bool", false, rfl, ClsV.ty _, tyx_L (by walk_at "sq"), kt_list_bool, ?_⟩ | refine ⟨_, _, Value.type "tuple", Value.type "bool", false, rfl, ClsV.ty _, tyx_T (by walk_at "sq"), kt_tuple_bool, ?_⟩ | refine ⟨_, _, Value.type "int", Value.type "int", true, rfl, ClsV.ty _, TyX.base (TyOf.int _), kt_int_int, ?_⟩ | refine ⟨_, _, Value.type "bool", Value.type "int", true, rfl, ClsV.ty _, TyX.base (TyOf.bl _), kt_bool_int, ?_⟩ | refine ⟨_, _, Value.type "str", Value.type "int", false, rfl, ClsV.ty _, TyX.base (TyOf.str _), kt_str_int, ?_⟩ | refine ⟨_, _, Value.type "NoneType", Value.type "int", false, rfl, ClsV.ty _, TyX.base TyOf.non, kt_NoneType_int, ?_⟩ | refine ⟨_, _, Value.type "list", Value.type "int", false, rfl, ClsV.ty _, tyx_L (by walk_at "sq"), kt_list_int, ?_⟩ | refine ⟨_, _, Value.type "tuple", Value.type "int", false, rfl, ClsV.ty _, tyx_T (by walk_at "sq"), kt_tuple_int, ?_⟩ | refine ⟨_, _, Value.type "int", Value.type "str", false, rfl, ClsV.ty _, TyX.base (TyOf.int _), kt_int_str, ?_⟩ | refine ⟨_, _, Value.type "bool", Value.type "str", false, rfl, ClsV.ty _, TyX.base (TyOf.bl _), kt_bool_str, ?_⟩ | refine ⟨_, _, Value.type "str", Value.type "str", true, rfl, ClsV.ty _, TyX.base (TyOf.str _), kt_str_str, ?_⟩ | refine ⟨_, _, Value.type "NoneType", Value.type "str", false, rfl, ClsV.ty _, TyX.base TyOf.non, kt_NoneType_str, ?_⟩ | refine ⟨_, _, Value.type "list", Value.type "str", false, rfl, ClsV.ty _, tyx_L (by walk_at "sq"), kt_list_str, ?_⟩ | refine ⟨_, _, Value.type "tuple", Value.type "str", false, rfl, ClsV.ty _, tyx_T (by walk_at "sq"), kt_tuple_str, ?_⟩)
local macro_rules | `(tactic| walk_at "go1") => `(tactic| first
  | (refine ⟨_, rfl, ?_⟩)
  | (refine ⟨_, _, rfl, rfl, ?_⟩)
  | (refine ⟨_, _, _, _, rfl, rfl, SqL.of (by walk_at "hp"), rfl, ?_⟩)
  | (refine Or.inl ⟨_, rfl, ?_⟩)
  | (refine ⟨rfl, ?_⟩)
  | (refine ⟨_, _, rfl, .inl (SqL.of (by walk_at "hp")), ?_⟩)
  | (refine ⟨_, _, rfl, Or.inl (by assumption), ?_⟩)
  | (refine ⟨_, _, rfl, Or.inr (by assumption), ?_⟩)
  | (refine ⟨(by walk_at "ok"), ?_⟩)
  | (refine ⟨_, _, _, _, rfl, rfl, (by walk_at "hp"), rfl, ?_⟩))
local macro_rules | `(tactic| walk_at "go") => `(tactic| repeat (walk_at "go1"))
local macro_rules | `(tactic| walk_at "gt") => `(tactic| repeat (first | walk_at "go1" | walk_at "ty"))

section
variable {P : Program} {w : World} {K : PySem.W.Frag} {mg : Str → Option Value} {base : Heap}
-- [0=_law_exponents_here, 1=_law_num, 2=_law_den, 3=_law_prime, 4=_law_n, 5=_law_turn]
theorem iteT' {A B : Prop} {c : Bool} (e : c = true) (h : A) : if c = true then A else B := by
  rw [if_pos e]
  exact h
theorem iteF' {A B : Prop} {c : Bool} (e : c = false) (h : B) : if c = true then A else B := by
  subst e
  exact iteF h
def spBuilt (K : PySem.W.Frag) : Sp := fun vs H Q _ => ∃ (a : Addr) (e : List Int), vs = [.ref a] ∧ SqL K H a (e.map V.int) ∧ e.length = 6 ∧ (∀ x ∈ e, x.natAbs ≤ 1000) ∧ Fit e ∧ ∀ t H', Same H H' → TAt K H' t e → Q (.ref t) H'
theorem ok_l_built (T : Tx K mg) : FnOk P w K mg base CX0 2 T.f_l_built T.d_l_built ["_law_exponents_here"] (spBuilt K) := by
  have G_l_primes := ok_l_primes (P := P) (w := w) (base := base) T
  refine T.F_l_built.ok sc_l_built (fun vs H Q E h => ?_) (fun cdv A outer s H vs Q E hr h => ?_)
  · obtain ⟨a, e, rfl, _⟩ := h
    rfl
  obtain ⟨a, e, rfl, ha, hl, hb, hf, q⟩ := h
  have nd := sc_l_built.nd
  refine ⟨_, (pss_cons (ps_asg (pe_tup (pa_cons pe_int (pa_cons pe_int pa_nil))) (pg_tup rfl (pgs_cons (pg_name (i := 1) nd rfl (Or.inl rfl)) (pgs_cons (pg_name (i := 2) nd rfl (Or.inl rfl)) pgs_nil))))
    (pss_cons (ps_for PassesOwn.never rfl (show PI _ _ _ (RZ.iZipA K _) from RZ.pi_zipA (by rfl) T.z_zip (pa_cons (pe_call0 G_l_primes hr (by rfl) T.m_l_primes T.F_l_primes.kp T.b_l_primes .nil pass0) (pa_cons (pv 0) pa_nil))) (pg_tup rfl (pgs_cons (pg_name (i := 3) nd rfl (Or.inl rfl)) (pgs_cons (pg_name (i := 4) nd rfl (Or.inl rfl)) pgs_nil))) (pss_one (ps_for PassesOwn.never rfl (pi_range1 (by rfl) T.z_range (pa_cons (pe_callB call_abs (by rfl) T.z_abs (by decide +kernel) (pa_cons (pv 4) pa_nil)) pa_nil)) (pg_name (i := 5) nd rfl (Or.inl rfl)) (pss_one (ps_asg (pe_ifExp (pt_cmpR op_gt (pv 4) pe_int (nomark _)) (pe_tup (pa_cons (pe_op op_mulW (pv 1) (pv 3)) (pa_cons (pv 2) pa_nil))) (pe_tup (pa_cons (pv 1) (pa_cons (pe_op op_mulW (pv 2) (pv 3)) pa_nil)))) (pg_tup rfl (pgs_cons (pg_name (i := 1) nd rfl (Or.inl rfl)) (pgs_cons (pg_name (i := 2) nd rfl (Or.inl rfl)) pgs_nil))))))))
    (pss_one (ps_ret (pe_tup (pa_cons (pv 1) (pa_cons (pv 2) pa_nil))))))), ?_⟩
  refine ⟨(by show 2 ≤ sizeLine; decide), fun t0 h0 => ⟨t0, _, rfl, SqT.of upd_same, rfl, _, _, rfl, _, _, rfl, rfl, ?_⟩⟩
  have s0 := Same.new (o := .tup [.int 1, .int 1]) h0
  refine ⟨rfl, fun p1 hp1 => ?_⟩
  have s1 := s0.trans (Same.new (o := .lst (nL prs)) hp1)
  have hu6 : (upE e).length = 6 := by simpa [upE] using hl
  have hd6 : (dnE e).length = 6 := by simpa [dnE] using hl
  refine ⟨_, rfl, p1, a, nL prs, e.map V.int, rfl, .inl ⟨SqL.of upd_same, s1.seq ha, for_it (walk_zip (K := K) (a := p1) (b := a) (n := 6) (by rw [List.length_map, List.length_map, hl]; rfl)) (fun i σ H' => Same H H' ∧ H' p1 = some (.lst (nL prs)) ∧ ∃ a3 a4 a5, σ = [some (.ref a), some (.int ((pp (prs.take i) ((upE e).take i) : Nat) : Int)), some (.int ((pp (prs.take i) ((dnE e).take i) : Nat) : Int)), a3, a4, a5]) ⟨s1, upd_same, _, _, _, rfl⟩ (fun i σ H' _ h => ⟨SqL.of h.2.1, h.1.seq ha⟩) ?_ ?_⟩⟩
  · rintro i v σ H1 H2 hi ⟨s2, hp2, a3, a4, a5, rfl⟩ ⟨t, x, y, rfl, ht, rfl, hx, hy⟩
    replace hi : i < 6 := hi
    obtain ⟨pr, b, e1, e2, g1, g2, g3, g4, g5⟩ := pp_drop hi hu6
    obtain rfl : x = .int (pr : Nat) := by
      have hx' : (nL prs)[i]? = some x := hx
      rw [List.getElem?_map, e1] at hx'
      exact (Option.some.inj hx').symm
    have hy' : (e.map V.int)[i]? = some y := hy
    rw [List.getElem?_map] at hy'
    obtain ⟨n, hn, rfl⟩ := Option.map_eq_some_iff.mp hy'
    obtain rfl : n.toNat = b := by
      rw [upE, List.getElem?_map, hn] at e2
      exact Option.some.inj e2
    have e3 : (dnE e)[i]? = some (-n).toNat := by rw [dnE, List.getElem?_map, hn]; rfl
    have hb1 := hb n (List.mem_of_getElem? hn)
    have pu := pp_take (ps := prs) e1 e2
    have pd := pp_take (ps := prs) e1 e3
    have bu := pp_take_le (i := i + 1) hu6
    have bd := pp_take_le (i := i + 1) hd6
    rw [pu] at bu
    rw [pd] at bd
    have st := Same.new (o := .tup [.int (pr : Nat), .int n]) ht
    refine ⟨t, _, rfl, SqT.of upd_same, rfl, _, _, rfl, _, _, rfl, rfl, ?_⟩
    have hab : (if n < 0 then -n else n) = ((n.natAbs : Nat) : Int) := by split <;> omega
    refine ⟨_, rfl, _, rfl, ((n.natAbs : Nat) : Int), by rw [hab], by omega, by omega, for_range (lo := 0) (n := n.natAbs) (fun j σ H' => Same H H' ∧ H' p1 = some (.lst (nL prs)) ∧ ∃ a5, σ = [some (.ref a), some (.int ((pp (prs.take i) ((upE e).take i) * pr ^ (if 0 < n then j else 0) : Nat) : Int)), some (.int ((pp (prs.take i) ((dnE e).take i) * pr ^ (if 0 < n then 0 else j) : Nat) : Int)), some (.int (pr : Nat)), some (.int n), a5]) ⟨s2.trans st, st _ _ hp2, a5, ?_⟩ ?_ ?_⟩
    · simp only [ite_self, Nat.pow_zero, Nat.mul_one]
      rfl
    · rintro j σ H3 hj ⟨s3, hp3, a5, rfl⟩
      have hpr : 0 < pr := by omega
      have pb : ((pr : Int)).natAbs < 2 ^ 5 := by rw [Int.natAbs_natCast]; omega
      refine ⟨_, rfl, _, _, rfl, rfl, _, rfl, ?_⟩
      by_cases c : 0 < n
      · rw [if_pos c, if_pos c]
        have nb : pp (prs.take i) ((upE e).take i) * pr ^ j < 2 ^ 4000 := Nat.lt_of_le_of_lt (Nat.le_trans (Nat.mul_le_mul_left _ (Nat.pow_le_pow_right hpr (by omega))) bu) hf.1
        refine iteT' (decide_eq_true c) ?_
        refine ⟨_, rfl, _, rfl, _, _, rfl, rfl, wide_mul (nb4 nb) pb (by decide) (by decide) (by decide), _, rfl, (by show 2 ≤ sizeLine; decide), fun t2 h2 => ?_⟩
        refine ⟨t2, _, rfl, SqT.of upd_same, rfl, _, _, rfl, _, _, rfl, rfl, s3.trans (Same.new h2), Same.new h2 _ _ hp3, some (.int (0 + (j : Nat))), ?_⟩
        rw [if_pos c, if_pos c, Nat.pow_succ, ← Nat.mul_assoc]
        rfl
      · rw [if_neg c, if_neg c]
        have nb : pp (prs.take i) ((dnE e).take i) * pr ^ j < 2 ^ 4000 := Nat.lt_of_le_of_lt (Nat.le_trans (Nat.mul_le_mul_left _ (Nat.pow_le_pow_right hpr (by omega))) bd) hf.2
        refine iteF' (decide_eq_false c) ?_
        refine ⟨_, rfl, _, rfl, _, rfl, _, _, rfl, rfl, wide_mul (nb4 nb) pb (by decide) (by decide) (by decide), (by show 2 ≤ sizeLine; decide), fun t2 h2 => ?_⟩
        refine ⟨t2, _, rfl, SqT.of upd_same, rfl, _, _, rfl, _, _, rfl, rfl, s3.trans (Same.new h2), Same.new h2 _ _ hp3, some (.int (0 + (j : Nat))), ?_⟩
        rw [if_neg c, if_neg c, Nat.pow_succ, ← Nat.mul_assoc]
        rfl
    · rintro σ H3 ⟨s3, hp3, a5, rfl⟩
      refine ⟨s3, hp3, some (.int (pr : Nat)), some (.int n), a5, ?_⟩
      rw [pu, pd]
      by_cases c : 0 < n
      · rw [if_pos c, if_pos c, show n.natAbs = n.toNat by omega, show (-n).toNat = 0 by omega]
      · rw [if_neg c, if_neg c, show n.natAbs = (-n).toNat by omega, show n.toNat = 0 by omega]
  · rintro σ H1 ⟨s2, hp2, a3, a4, a5, rfl⟩
    have tu : pp (prs.take 6) ((upE e).take 6) = up e := by
      rw [List.take_of_length_le (Nat.le_of_eq hu6)]
      rfl
    have td : pp (prs.take 6) ((dnE e).take 6) = dn e := by
      rw [List.take_of_length_le (Nat.le_of_eq hd6)]
      rfl
    rw [tu, td]
    exact ⟨_, rfl, _, rfl, (by show 2 ≤ sizeLine; decide), fun t ht => q t _ (s2.trans (Same.new ht)) ⟨SqT.of upd_same, hl⟩⟩
end
end TL
namespace TL
/-! ### the clearing of a matrix, as the program does it -/
def ffrom (M : List (List Int)) (c : Nat) : Nat → Nat → Option Nat
  | _, 0 => none
  | i, n + 1 => if (M.getD i []).getD c 0 ≠ 0 then some i else ffrom M c (i + 1) n
def swapR (M : List (List Int)) (i j : Nat) : List (List Int) := (M.set i (M.getD j [])).set j (M.getD i [])
def redRow (last : Int) (head : List Int) (c : Nat) (row : List Int) : List Int :=
  List.zipWith (fun own top => (head.getD c 0 * own - row.getD c 0 * top).fdiv last) row head
/-- the rows from r + 1 up to k are reduced -/
def redTo (last : Int) (head : List Int) (c r k : Nat) (M : List (List Int)) : List (List Int) :=
  M.mapIdx fun i row => if r < i ∧ i < k then redRow last head c row else row
abbrev CSt := List (List Int) × Nat × Int × Int
def pivM (M : List (List Int)) (r f : Nat) : List (List Int) := if f = r then M else swapR M r f
def stepC (c : Nat) (s : CSt) : CSt :=
  match ffrom s.1 c s.2.1 (s.1.length - s.2.1) with
  | none => s
  | some f =>
    let M1 := pivM s.1 s.2.1 f
    let head := M1.getD s.2.1 []
    (redTo s.2.2.2 head c s.2.1 M1.length M1, s.2.1 + 1, if f = s.2.1 then s.2.2.1 else - s.2.2.1, head.getD c 0)
def clrN (M : List (List Int)) : Nat → CSt
  | 0 => (M, 0, 1, 1)
  | c + 1 => stepC c (clrN M c)
def widthOf (M : List (List Int)) : Nat := (M.getD 0 []).length
def clrRank (M : List (List Int)) : Nat := (clrN M (widthOf M)).2.1
def clrDet (M : List (List Int)) : Int := (clrN M (widthOf M)).2.2.1 * (clrN M (widthOf M)).2.2.2
/-! ### sizes -/
def Ent (b : Nat) (M : List (List Int)) : Prop := ∀ row ∈ M, ∀ x ∈ row, x.natAbs < 2 ^ b
def RowsW (w : Nat) (M : List (List Int)) : Prop := ∀ row ∈ M, row.length = w
def bk (E : Nat) : Nat → Nat
  | 0 => E
  | k + 1 => 2 * bk E k + 1
theorem fdiv_le (a d : Int) (hd : d ≠ 0) : (a.fdiv d).natAbs ≤ a.natAbs := by
  have h := Int.mul_fdiv_add_fmod a d
  have hq : ∀ q r : Int, d * q + r = a → (0 < d → 0 ≤ r ∧ r < d) → (d < 0 → d < r ∧ r ≤ 0) → q.natAbs ≤ a.natAbs := by
    intro q r e p1 p2
    rcases Int.lt_or_gt_of_ne hd with c | c
    · obtain ⟨r1, r2⟩ := p2 c
      rcases Int.lt_trichotomy q 0 with z | z | z
      · have : (-d) * (-q) ≥ 1 * (-q) := Int.mul_le_mul_of_nonneg_right (by omega) (by omega)
        rw [Int.neg_mul_neg] at this
        have h2 : d * q = d * (q + 1) - d := by rw [Int.mul_add]; omega
        have h3 : 0 ≤ d * (q + 1) := Int.mul_nonneg_of_nonpos_of_nonpos (by omega) (by omega)
        have h4 : (-d) * (-(q + 1)) ≥ 1 * (-(q + 1)) := Int.mul_le_mul_of_nonneg_right (by omega) (by omega)
        rw [Int.neg_mul_neg] at h4
        omega
      · omega
      · have : (-d) * q ≥ 1 * q := Int.mul_le_mul_of_nonneg_right (by omega) (by omega)
        rw [Int.neg_mul] at this
        omega
    · obtain ⟨r1, r2⟩ := p1 c
      rcases Int.lt_trichotomy q 0 with z | z | z
      · have h2 : d * q = d * (q + 1) - d := by rw [Int.mul_add]; omega
        have h4 : d * (-(q + 1)) ≥ 1 * (-(q + 1)) := Int.mul_le_mul_of_nonneg_right (by omega) (by omega)
        rw [Int.mul_neg] at h4
        omega
      · omega
      · have : d * q ≥ 1 * q := Int.mul_le_mul_of_nonneg_right (by omega) (by omega)
        omega
  exact hq _ _ h (fun c => ⟨Int.fmod_nonneg_of_pos a c, Int.fmod_lt_of_pos a c⟩) fun c => by
    have h1 := Int.fmod_nonneg_of_pos (-a) (b := -d) (by omega)
    have h2 := Int.fmod_lt_of_pos (-a) (b := -d) (by omega)
    have h3 : (-a).fmod (-d) = - a.fmod d := Int.neg_fmod_neg ..
    omega
theorem len_swap (M : List (List Int)) (i j : Nat) : (swapR M i j).length = M.length := by simp [swapR]
theorem len_piv (M : List (List Int)) (r f : Nat) : (pivM M r f).length = M.length := by
  unfold pivM
  split
  · rfl
  · exact len_swap ..
theorem len_red (l : Int) (h : List Int) (c r k : Nat) (M : List (List Int)) : (redTo l h c r k M).length = M.length := by simp [redTo]
theorem red_at (l : Int) (h : List Int) (c r k : Nat) (M : List (List Int)) (i : Nat) : (redTo l h c r k M)[i]? = M[i]?.map fun row => if r < i ∧ i < k then redRow l h c row else row := by
  unfold redTo
  rw [List.getElem?_mapIdx]
theorem red_start (l : Int) (h : List Int) (c r : Nat) (M : List (List Int)) : redTo l h c r (r + 1) M = M := by
  apply List.ext_getElem?
  intro i
  rw [red_at]
  have : ¬ (r < i ∧ i < r + 1) := by omega
  simp only [if_neg this]
  cases M[i]? <;> rfl
theorem red_step {l : Int} {h : List Int} {c r k : Nat} {M : List (List Int)} {row : List Int} (hr : r < k) (hk : M[k]? = some row) : redTo l h c r (k + 1) M = (redTo l h c r k M).set k (redRow l h c row) := by
  apply List.ext_getElem?
  intro i
  rw [red_at, List.getElem?_set]
  have hlen : k < M.length := (List.getElem?_eq_some_iff.mp hk).1
  by_cases e : k = i
  · subst e
    rw [if_pos rfl, if_pos (by rw [len_red]; exact hlen), hk]
    simp only [Option.map_some]
    rw [if_pos ⟨hr, by omega⟩]
  · rw [if_neg e, red_at]
    cases M[i]? with
    | none => rfl
    | some z =>
      simp only [Option.map_some]
      by_cases d : r < i ∧ i < k
      · rw [if_pos d, if_pos ⟨d.1, by omega⟩]
      · rw [if_neg d, if_neg (by omega)]
theorem red_keep {l : Int} {h : List Int} {c r k : Nat} {M : List (List Int)} {i : Nat} (hi : i ≤ r ∨ k ≤ i) : (redTo l h c r k M)[i]? = M[i]? := by
  rw [red_at]
  have : ¬ (r < i ∧ i < k) := by omega
  simp only [if_neg this]
  cases M[i]? <;> rfl
theorem ffrom_some {M : List (List Int)} {c : Nat} : ∀ {n i f : Nat}, ffrom M c i n = some f → i ≤ f ∧ f < i + n ∧ (M.getD f []).getD c 0 ≠ 0
  | 0, i, f, h => by cases h
  | n + 1, i, f, h => by
    unfold ffrom at h
    split at h
    · cases h
      exact ⟨Nat.le_refl _, by omega, by assumption⟩
    · have := ffrom_some h
      exact ⟨by omega, by omega, this.2.2⟩
theorem getD_mem {M : List (List Int)} {i : Nat} (h : i < M.length) : M.getD i [] ∈ M := by
  rw [List.getD_eq_getElem?_getD, List.getElem?_eq_getElem h]
  exact List.getElem_mem h
theorem getD_some {M : List (List Int)} {i : Nat} (h : i < M.length) : M[i]? = some (M.getD i []) := by
  rw [List.getD_eq_getElem?_getD, List.getElem?_eq_getElem h]
  rfl
theorem swap_mem {M : List (List Int)} {i j : Nat} (hi : i < M.length) (hj : j < M.length) : ∀ x ∈ swapR M i j, x ∈ M := fun x hx => by
  unfold swapR at hx
  rcases List.mem_or_eq_of_mem_set hx with h | h
  · rcases List.mem_or_eq_of_mem_set h with h | h
    · exact h
    · rw [h]
      exact getD_mem hj
  · rw [h]
    exact getD_mem hi
theorem piv_mem {M : List (List Int)} {r f : Nat} (hr : r < M.length) (hf : f < M.length) : ∀ x ∈ pivM M r f, x ∈ M := fun x hx => by
  unfold pivM at hx
  split at hx
  · exact hx
  · exact swap_mem hr hf x hx
theorem piv_at {M : List (List Int)} {r f : Nat} (hr : r < M.length) (hf : f < M.length) : (pivM M r f)[r]? = some (M.getD f []) := by
  unfold pivM
  split
  · rename_i e
    rw [e]
    exact getD_some hr
  · rename_i e
    unfold swapR
    rw [List.getElem?_set_ne e, List.getElem?_set_self hr]
theorem getD_of {M : List (List Int)} {i : Nat} {row : List Int} (h : M[i]? = some row) : M.getD i [] = row := by
  rw [List.getD_eq_getElem?_getD, h]
  rfl
theorem abs2 {p q u v : Int} {b : Nat} (a1 : p.natAbs < 2 ^ b) (a2 : q.natAbs < 2 ^ b) (a3 : u.natAbs < 2 ^ b) (a4 : v.natAbs < 2 ^ b) : (p * u - q * v).natAbs < 2 ^ (2 * b + 1) := by
  have m1 : (p * u).natAbs < 2 ^ b * 2 ^ b := by
    rw [Int.natAbs_mul]
    exact Nat.mul_lt_mul'' a1 a3
  have m2 : (q * v).natAbs < 2 ^ b * 2 ^ b := by
    rw [Int.natAbs_mul]
    exact Nat.mul_lt_mul'' a2 a4
  have e : 2 ^ (2 * b + 1) = 2 ^ b * 2 ^ b + 2 ^ b * 2 ^ b := by
    rw [Nat.pow_succ, Nat.two_mul, Nat.pow_add]
    omega
  rw [e]
  omega
theorem red_row_ent {b : Nat} {l : Int} {h row : List Int} {c : Nat} (hl : l ≠ 0) (hh : ∀ x ∈ h, x.natAbs < 2 ^ b) (hr : ∀ x ∈ row, x.natAbs < 2 ^ b) : ∀ x ∈ redRow l h c row, x.natAbs < 2 ^ (2 * b + 1) := by
  have g : ∀ (xs : List Int), (∀ x ∈ xs, x.natAbs < 2 ^ b) → (xs.getD c 0).natAbs < 2 ^ b := fun xs hx => by
    rw [List.getD_eq_getElem?_getD]
    rcases Nat.lt_or_ge c xs.length with z | z
    · rw [List.getElem?_eq_getElem z]
      exact hx _ (List.getElem_mem z)
    · rw [List.getElem?_eq_none z]
      exact Nat.pow_pos (by decide)
  intro x hx
  obtain ⟨i, hi, rfl⟩ := List.mem_iff_getElem.mp hx
  unfold redRow at hi ⊢
  rw [List.getElem_zipWith]
  refine Nat.lt_of_le_of_lt (fdiv_le _ _ hl) ?_
  simp only [List.length_zipWith] at hi
  have a1 := g h hh
  have a2 := g row hr
  have a3 := hr row[i] (List.getElem_mem _)
  have a4 := hh h[i] (List.getElem_mem _)
  exact abs2 a1 a2 a3 a4
theorem red_ent {b : Nat} {l : Int} {h : List Int} {c r k : Nat} {M : List (List Int)} (hl : l ≠ 0) (hh : ∀ x ∈ h, x.natAbs < 2 ^ b) (hM : Ent b M) : Ent (2 * b + 1) (redTo l h c r k M) := fun row hrow => by
  obtain ⟨i, e⟩ := List.mem_iff_getElem?.mp hrow
  rw [red_at] at e
  obtain ⟨z, hz, rfl⟩ := Option.map_eq_some_iff.mp e
  have hz' := hM z (List.mem_of_getElem? hz)
  split
  · exact red_row_ent hl hh hz'
  · intro x hx
    exact Nat.lt_of_lt_of_le (hz' x hx) (Nat.pow_le_pow_right (by decide) (by omega))
theorem red_rows {w : Nat} {l : Int} {h : List Int} {c r k : Nat} {M : List (List Int)} (hh : h.length = w) (hM : RowsW w M) : RowsW w (redTo l h c r k M) := fun row hrow => by
  obtain ⟨i, e⟩ := List.mem_iff_getElem?.mp hrow
  rw [red_at] at e
  obtain ⟨z, hz, rfl⟩ := Option.map_eq_some_iff.mp e
  have hz' := hM z (List.mem_of_getElem? hz)
  split
  · simp [redRow, hz', hh]
  · exact hz'
/-- what holds behind each column -/
structure ClrI (E n w : Nat) (s : CSt) : Prop where
  len : s.1.length = n
  rows : RowsW w s.1
  ent : Ent (bk E s.2.1) s.1
  le : s.2.1 ≤ n
  nz : s.2.2.2 ≠ 0
  sm : s.2.2.2.natAbs < 2 ^ bk E s.2.1
theorem bk_pos (E : Nat) (hE : 0 < E) : ∀ k, 0 < bk E k
  | 0 => hE
  | k + 1 => by unfold bk; omega
theorem clrI_start {E w : Nat} {M : List (List Int)} (hE : 0 < E) (hM : Ent E M) (hw : RowsW w M) : ClrI E M.length w (M, 0, 1, 1) :=
  ⟨rfl, hw, hM, Nat.zero_le _, by show (1 : Int) ≠ 0; decide, Nat.one_lt_two_pow (by show E ≠ 0; omega)⟩
theorem clrI_step {E n w c : Nat} {s : CSt} (h : ClrI E n w s) : ClrI E n w (stepC c s) := by
  obtain ⟨M, r, sg, last⟩ := s
  unfold stepC
  dsimp only
  split
  · exact h
  · rename_i f hf
    obtain ⟨f1, f2, f3⟩ := ffrom_some hf
    have hl : M.length = n := h.len
    have hle : r ≤ n := h.le
    have hfl : f < M.length := by omega
    have hrl : r < M.length := by omega
    have hp := piv_at hrl hfl
    have hd : (pivM M r f).getD r [] = M.getD f [] := getD_of hp
    have hmem := getD_mem hfl
    have hpe : Ent (bk E r) (pivM M r f) := fun row hr => h.ent row (piv_mem hrl hfl row hr)
    have hpw : RowsW w (pivM M r f) := fun row hr => h.rows row (piv_mem hrl hfl row hr)
    have hhe := h.ent _ hmem
    refine ⟨by dsimp only; rw [len_red, len_piv]; exact hl, red_rows (by rw [hd]; exact h.rows _ hmem) hpw, red_ent h.nz (by rw [hd]; exact hhe) hpe, by dsimp only; omega, by rw [hd]; exact f3, ?_⟩
    dsimp only
    rw [hd]
    have g : ((M.getD f []).getD c 0).natAbs < 2 ^ bk E r := by
      generalize M.getD f [] = xs at *
      rw [List.getD_eq_getElem?_getD]
      rcases Nat.lt_or_ge c xs.length with z | z
      · rw [List.getElem?_eq_getElem z]
        exact hhe _ (List.getElem_mem z)
      · rw [List.getElem?_eq_none z]
        exact Nat.pow_pos (by decide)
    exact Nat.lt_of_lt_of_le g (Nat.pow_le_pow_right (by decide) (by show bk E r ≤ 2 * bk E r + 1; omega))
theorem clrI_n {E w : Nat} {M : List (List Int)} (hE : 0 < E) (hM : Ent E M) (hw : RowsW w M) : ∀ c, ClrI E M.length w (clrN M c)
  | 0 => clrI_start hE hM hw
  | c + 1 => clrI_step (clrI_n hE hM hw c)
theorem bk_le {E k m : Nat} (h : k ≤ m) : bk E k ≤ bk E m := by
  induction m with
  | zero => rw [Nat.le_zero.mp h]; exact Nat.le_refl _
  | succ m ih =>
    rcases Nat.lt_or_ge k (m + 1) with c | c
    · have := ih (by omega)
      show bk E k ≤ 2 * bk E m + 1
      omega
    · rw [Nat.le_antisymm h c]
      exact Nat.le_refl _
theorem rank_le (M : List (List Int)) : ∀ c, (clrN M c).2.1 ≤ c
  | 0 => Nat.le_refl _
  | c + 1 => by
    have ih := rank_le M c
    show (stepC c (clrN M c)).2.1 ≤ c + 1
    unfold stepC
    split
    · omega
    · dsimp only
      omega
theorem sign_one (M : List (List Int)) : ∀ c, (clrN M c).2.2.1 = 1 ∨ (clrN M c).2.2.1 = -1
  | 0 => .inl rfl
  | c + 1 => by
    have ih := sign_one M c
    show (stepC c (clrN M c)).2.2.1 = 1 ∨ (stepC c (clrN M c)).2.2.1 = -1
    unfold stepC
    split
    · exact ih
    · dsimp only
      split <;> omega
end TL
namespace TL
open PySem L2

/-! ### steps of a reading -/
local macro_rules | `(tactic| walk_at "hp") => `(tactic| first | assumption | exact upd_same | (refine (upd_ne (by first | assumption | (exact Ne.symm (by assumption)))).trans ?_; walk_at "hp"))
local macro_rules | `(tactic| walk_at "ok") => `(tactic| first | (exact Or.inr ⟨by decide, by decide⟩) | (exact ⟨by decide, by decide⟩) | (exact ⟨by decide, by decide, by decide⟩) | (show _ ≠ _; omega) | (show _ ≠ _; decide) | (exact Or.inl ⟨by omega, by omega⟩) | decide)
local macro_rules | `(tactic| walk_at "sq") => `(tactic| first | assumption | exact SqL.of (by walk_at "hp") | exact SqT.of (by walk_at "hp"))
local macro_rules | `(tactic| walk_at "ty") => `(tactic| first | refine ⟨_, _, Value.type "int", Value.type "list", false, rfl, ClsV.ty _, TyX.base (TyOf.int _), kt_int_list, ?_⟩ | refine ⟨_, _, Value.type "bool", Value.type "list", false, rfl, ClsV.ty _, TyX.base (TyOf.bl _), kt_bool_list, ?_⟩ | refine ⟨_, _, Value.type "str", Value.type "list", false, rfl, ClsV.ty _, TyX.base (TyOf.str _), kt_str_list, ?_⟩ | refine ⟨_, _, Value.type "NoneType", Value.type "list", false, rfl, ClsV.ty _, TyX.base TyOf.non, kt_NoneType_list, ?_⟩ | refine ⟨_, _, Value.type "list", Value.type "list", true, rfl, ClsV.ty _, tyx_L (by walk_at "sq"), kt_list_list, ?_⟩ | refine ⟨_, _, Value.type "tuple", Value.type "list", false, rfl, ClsV.ty _, tyx_T (by walk_at "sq"), kt_tuple_list, ?_⟩ | refine ⟨_, _, Value.type "int", Value.type "tuple", false, rfl, ClsV.ty _, TyX.base (TyOf.int _), kt_int_tuple, ?_⟩ | refine ⟨_, _, Value.type "bool", Value.type "tuple", false, rfl, ClsV.ty _, TyX.base (TyOf.bl _), kt_bool_tuple, ?_⟩ | refine ⟨_, _, Value.type "str", Value.type "tuple", false, rfl, ClsV.ty _, TyX.base (TyOf.str _), kt_str_tuple, ?_⟩ | refine ⟨_, _, Value.type "NoneType", Value.type "tuple", false, rfl, ClsV.ty _, TyX.base TyOf.non, kt_NoneType_tuple, ?_⟩ | refine ⟨_, _, Value.type "list", Value.type "tuple", false, rfl, ClsV.ty _, tyx_L (by walk_at "sq"), kt_list_tuple, ?_⟩ | refine ⟨_, _, Value.type "tuple", Value.type "tuple", true, rfl, ClsV.ty _, tyx_T (by walk_at "sq"), kt_tuple_tuple, ?_⟩ | refine ⟨_, _, Value.type "int", Value.type "bool", false, rfl, ClsV.ty _, TyX.base (TyOf.int _), kt_int_bool, ?_⟩ | refine ⟨_, _, Value.type "bool", Value.type "bool", true, rfl, ClsV.ty _, TyX.base (TyOf.bl _), kt_bool_bool, ?_⟩ | refine ⟨_, _, Value.type "str", Value.type "bool", false, rfl, ClsV.ty _, TyX.base (TyOf.str _), kt_str_bool, ?_⟩ | refine ⟨_, _, Value.type "NoneType", Value.type "bool", false, rfl, ClsV.ty _, TyX.base TyOf.non, kt_NoneType_bool, ?_⟩ | refine ⟨_, _, Value.type "list", Value.type "bool", false, rfl, ClsV.ty _, tyx_L (by walk_at "sq"), kt_list_bool, ?_⟩ | refine ⟨_, _, Value.type "tuple", Value.type "bool", false, rfl, ClsV.ty _, tyx_T (by walk_at "sq"), kt_tuple_bool, ?_⟩ | refine ⟨_, _, Value.type "int", Value.type "int", true, rfl, ClsV.ty _, TyX.base (TyOf.int _), kt_int_int, ?_⟩ | refine ⟨_, _, Value.type "bool", Value.type "int", true, rfl, ClsV.ty _, TyX.base (TyOf.bl _), kt_bool_int, ?_⟩ | refine ⟨_, _, Value.type "str", Value.type "int", false, rfl, ClsV.ty _, TyX.base (TyOf.str _), kt_str_int, ?_⟩ | refine ⟨_, _, Value.type "NoneType", Value.type "int", false, rfl, ClsV.ty _, TyX.base TyOf.non, kt_NoneType_int, ?_⟩ | refine ⟨_, _, Value.type "list", Value.type "int", false, rfl, ClsV.ty _, tyx_L (by walk_at "sq"), kt_list_int, ?_⟩ | refine ⟨_, _, Value.type "tuple", Value.type "int", false, rfl, ClsV.ty _, tyx_T (by walk_at "sq"), kt_tuple_int, ?_⟩ | refine ⟨_, _, Value.type "int", Value.type "str", false, rfl, ClsV.ty _, TyX.base (TyOf.int _), kt_int_str, ?_⟩ | refine ⟨_, _, Value.type "bool", Value.type "str", false, rfl, ClsV.ty _, TyX.base (TyOf.bl _), kt_bool_str, ?_⟩ | refine ⟨_, _, Value.type "str", Value.type "str", true, rfl, ClsV.ty _, TyX.base (TyOf.str _), kt_str_str, ?_⟩ | refine ⟨_, _, Value.type "NoneType", Value.type "str", false, rfl, ClsV.ty _, TyX.base TyOf.non, kt_NoneType_str, ?_⟩ | refine ⟨_, _, Value.type "list", Value.type "str", false, rfl, ClsV.ty _, tyx_L (by walk_at "sq"), kt_list_str, ?_⟩ | refine ⟨_, _, Value.type "tuple", Value.type "str", false, rfl, ClsV.ty _, tyx_T (by walk_at "sq"), kt_tuple_str, ?_⟩)
local macro_rules | `(tactic| walk_at "go1") => `(tactic| first
  | (refine ⟨_, rfl, ?_⟩)
  | (refine ⟨_, _, rfl, rfl, ?_⟩)
  | (refine ⟨_, _, _, _, rfl, rfl, SqL.of (by walk_at "hp"), rfl, ?_⟩)
  | (refine Or.inl ⟨_, rfl, ?_⟩)
  | (refine ⟨rfl, ?_⟩)
  | (refine ⟨_, _, rfl, .inl (SqL.of (by walk_at "hp")), ?_⟩)
  | (refine ⟨_, _, rfl, Or.inl (by assumption), ?_⟩)
  | (refine ⟨_, _, rfl, Or.inr (by assumption), ?_⟩)
  | (refine ⟨(by walk_at "ok"), ?_⟩)
  | (refine ⟨_, _, _, _, rfl, rfl, (by walk_at "hp"), rfl, ?_⟩))
local macro_rules | `(tactic| walk_at "go") => `(tactic| repeat (walk_at "go1"))
local macro_rules | `(tactic| walk_at "gt") => `(tactic| repeat (first | walk_at "go1" | walk_at "ty"))

section
def CDivZ (_ j : Int) : Prop := j ≠ 0 ∧ j.natAbs.log2 < 9000
theorem op_fdivZ {X : Cx} : OpR X (binaryOp .FloorDiv) (rI CDivZ fun i j => .int (i.fdiv j)) := opI fun i j _ _ _ _ _ hc q => PyProof.Rows.floordiv_int hc.1 q (.inl (PyProof.noPylong_of_log2 hc.2))
variable {P : Program} {w : World} {K : PySem.W.Frag} {mg : Str → Option Value} {base : Heap}
theorem getD_map {z : List Int} {i : Nat} (h : i < z.length) : (z.map V.int)[i]? = some (.int (z.getD i 0)) := by
  rw [List.getElem?_map, List.getD_eq_getElem?_getD, List.getElem?_eq_getElem h]
  rfl
/-! ### a matrix: a list of lists of ints -/
def MatL (H : Hp) (rs : List V) (M : List (List Int)) : Prop := rs.length = M.length ∧ ∀ (i : Nat) r, rs[i]? = some r → ∃ t row, r = .ref t ∧ M[i]? = some row ∧ H t = some (.lst (row.map V.int))
structure Mat (H : Hp) (p : Addr) (M : List (List Int)) : Prop where
  ex : ∃ rs, H p = some (.lst rs) ∧ MatL H rs M
theorem MatL.same {H H' : Hp} {rs : List V} {M : List (List Int)} (h : MatL H rs M) (s : Same H H') : MatL H' rs M := ⟨h.1, fun i r hr => by
  obtain ⟨t, row, e1, e2, e3⟩ := h.2 i r hr
  exact ⟨t, row, e1, e2, s _ _ e3⟩⟩
theorem Mat.same {H H' : Hp} {p : Addr} {M : List (List Int)} (h : Mat H p M) (s : Same H H') : Mat H' p M := by
  obtain ⟨rs, h1, h2⟩ := h.ex
  exact ⟨rs, s _ _ h1, h2.same s⟩
theorem MatL.at {H : Hp} {rs : List V} {M : List (List Int)} (h : MatL H rs M) {i : Nat} (hi : i < M.length) : ∃ t, rs[i]? = some (.ref t) ∧ H t = some (.lst ((M.getD i []).map V.int)) := by
  have hi' : i < rs.length := by rw [h.1]; exact hi
  obtain ⟨t, row, e1, e2, e3⟩ := h.2 i _ (List.getElem?_eq_getElem hi')
  refine ⟨t, by rw [List.getElem?_eq_getElem hi', e1], ?_⟩
  rw [getD_of e2]
  exact e3
-- [0=rows, 1=first, 2=column, 3=at]
-- [0=matrix, 1=rows, 2=width, 3=rank, 4=sign, 5=last*, 6=column*, 7=found, 8=head*, 9=at, 10=item*, 11=row, 12=own, 13=top]
theorem ffrom_succ (M : List (List Int)) (c i n : Nat) : ffrom M c i (n + 1) = if (M.getD i []).getD c 0 ≠ 0 then some i else ffrom M c (i + 1) n := rfl
theorem ffrom_zero (M : List (List Int)) (c i : Nat) : ffrom M c i 0 = none := by cases i <;> rfl
theorem ne_zero {x : Int} (h : (!decide (V.int x = V.int 0)) = true) : x ≠ 0 := fun e => by
  subst e
  simp at h
theorem eq_zero {x : Int} (h : ¬ (!decide (V.int x = V.int 0)) = true) : ¬ x ≠ 0 := fun e => h (by simp [e])
def spFilled : Sp := fun vs H Q _ => ∃ (p : Addr) (M : List (List Int)) (r c w : Nat), vs = [.ref p, .int (r : Int), .int (c : Int)] ∧ Mat H p M ∧ RowsW w M ∧ c < w ∧ r ≤ M.length ∧ M.length ≤ 1000 ∧ w ≤ 1000 ∧ Q (match ffrom M c r (M.length - r) with | none => .non | some f => .int (f : Int)) H
theorem ok_filled (T : Tx K mg) : FnOk P w K mg base CX0 1 T.f__filled_from T.d__filled_from ["rows", "first", "column"] spFilled := by
  refine T.F__filled_from.ok sc__filled_from (fun vs H Q E h => ?_) (fun cdv A outer s H vs Q E hr h => ?_)
  · obtain ⟨p, M, r, c, w, rfl, _⟩ := h
    rfl
  obtain ⟨p, M, r, c, w, rfl, hM, hw, hc, hr1, hn, hw1, q⟩ := h
  obtain ⟨rs, h1, h2⟩ := hM.ex
  have nd := sc__filled_from.nd
  refine ⟨_, (pss_cons (ps_for PassesOwn.never rfl (pi_range2 (by rfl) T.z_range (pa_cons (pv 1) (pa_cons (pe_callB (show CallR _ _ (rLenSq K) from call_len_seq) (by rfl) T.z_len (by decide +kernel) (pa_cons (pv 0) pa_nil)) pa_nil))) (pg_name (i := 3) nd rfl (Or.inl rfl)) (pss_one (ps_if (pt_cmpR op_ne (pe_ix (show IxR _ (rIxL K) from ix_list) (pe_ix (show IxR _ (rIxL K) from ix_list) (pv 0) (pv 3) (fun _ _ => rfl)) (pv 2) (fun _ _ => rfl)) pe_int (nomark _)) (pss_one (ps_ret (pv 3))) pss_nil)))
    (pss_one (ps_ret pe_non))), ?_⟩
  have hrs : rs.length = M.length := h2.1
  refine ⟨_, rfl, _, rfl, p, rs, rfl, .inl (SqL.of h1), (r : Int), (rs.length : Int), rfl, ⟨by omega, by omega, by omega, by omega⟩, for_range (lo := (r : Int)) (n := ((rs.length : Int) - (r : Int)).toNat) (fun k σ' H' => (∃ b, σ' = [some (.ref p), some (.int (r : Int)), some (.int (c : Int)), b]) ∧ H' = H ∧ ffrom M c r (M.length - r) = ffrom M c (r + k) (M.length - r - k)) ⟨⟨_, rfl⟩, rfl, rfl⟩ ?_ ?_⟩
  · rintro k σ' H' hk ⟨⟨b, rfl⟩, rfl, e⟩
    have hk' : r + k < M.length := by omega
    obtain ⟨t, g1, g2⟩ := h2.at hk'
    have hrow := hw _ (getD_mem hk')
    have eI : (r : Int) + (k : Int) = ((r + k : Nat) : Int) := by omega
    refine ⟨_, rfl, _, rfl, _, _, _, _, rfl, rfl, SqL.of h1, at_of (j := r + k) eI g1, _, rfl, _, _, _, _, rfl, rfl, SqL.of g2, at_of (j := c) rfl (getD_map (by rw [hrow]; exact hc)), rfl, _, rfl, ?_⟩
    have e2 : M.length - r - k = (M.length - r - (k + 1)) + 1 := by omega
    rw [e2, ffrom_succ] at e
    refine ite2 (fun c1 => ?_) (fun c1 => ?_)
    · have c2 : (M.getD (r + k) []).getD c 0 ≠ 0 := ne_zero c1
      rw [if_pos c2] at e
      refine ⟨_, rfl, ?_⟩
      rw [e] at q
      rw [eI]
      exact q
    · have c2 : ¬ (M.getD (r + k) []).getD c 0 ≠ 0 := eq_zero c1
      rw [if_neg c2] at e
      exact ⟨⟨_, rfl⟩, rfl, e⟩
  · rintro σ' H' ⟨⟨b, rfl⟩, rfl, e⟩
    have e2 : M.length - r - ((rs.length : Int) - (r : Int)).toNat = 0 := by omega
    rw [e2, ffrom_zero] at e
    rw [e] at q
    exact q
theorem lc_zipLS {K : PySem.W.Frag} {a b D : Addr} {xs ys : List Int} {f : Int → Int → Int} {te : TE} {vs : List Nat} {σ : L2.St} {H0 : Hp} {Qd : Hp → Prop} {i j : Nat} (h1 : SqL K H0 a (xs.map V.int)) (h2 : SqL K H0 b (ys.map V.int)) (hl : xs.length = ys.length) (hz : xs.length ≤ 1000) (hD : H0 D = none)
    (hw : ∀ u v, wipe (((wipe σ vs).set i (some u)).set j (some v)) vs = wipe σ vs)
    (hs : ∀ (u v : Int) (H : Hp) (k : VK), Same H0 H → u ∈ xs → v ∈ ys → k (.int (f u v)) H → te (((wipe σ vs).set i (some (.int u))).set j (some (.int v))) H k)
    (hd : ∀ H, Same H0 H → H D = some (.lst ((List.zipWith f xs ys).map V.int)) → Qd H) : LcGoal (Itz K a b) (gTup K 2 (gCons (gName i) (gCons (gName j) gNil))) te vs σ H0 D Qd := by
  refine lcm (walk_zip (n := xs.length) (by rw [List.length_map, List.length_map]; omega)) ((List.zipWith f xs ys).map V.int) (by rw [List.length_map, List.length_zipWith]; omega) (by omega) hD (fun H' s => ⟨s.seq h1, s.seq h2⟩) ?_ hd
  rintro t y x H1 H2 hi hy s1 ⟨Tp, u, z, rfl, hT, rfl, hu, hz'⟩ k hk
  replace hu : (xs.map V.int)[t]? = some u := hu
  replace hz' : (ys.map V.int)[t]? = some z := hz'
  rw [List.getElem?_map] at hy hu hz'
  obtain ⟨y', hy1, rfl⟩ := Option.map_eq_some_iff.mp hy
  obtain ⟨u', hu1, rfl⟩ := Option.map_eq_some_iff.mp hu
  obtain ⟨z', hz1, rfl⟩ := Option.map_eq_some_iff.mp hz'
  rw [List.getElem?_zipWith, hu1, hz1] at hy1
  obtain rfl : f u' z' = y' := Option.some.inj hy1
  refine ⟨Tp, [.int u', .int z'], rfl, SqT.of upd_same, rfl, .int u', [.int z'], rfl, .int z', [], rfl, rfl, hw _ _, ?_⟩
  exact hs u' z' _ k (s1.trans (Same.new hT)) (List.mem_of_getElem? hu1) (List.mem_of_getElem? hz1) (hk _ (Same.new hT))
theorem lcsD {J : It} {n : Nat} {G : Hp → Prop} {Y : Nat → Hp → V → Hp → Prop} {D : Addr} {g : TG} {te : TE} {vs : List Nat} {σ : L2.St} {H0 : Hp} {Qd : Hp → Prop} (w : Walk J n G Y) (P : Nat → V → Hp → Prop) (hP : ∀ i y H H', Same H H' → P i y H → P i y H') (hPD : ∀ i y H zs zs', H D = some (.lst zs) → P i y H → P i y (upd H D (.lst zs'))) (hz : n ≤ 100000) (hD : H0 D = none) (hG : ∀ H, Same H0 H → G H)
    (hs : ∀ i x H H', i < n → Same H0 H → (∃ zs, H D = some (.lst zs)) → Y i H x H' → ∀ k : VK, (∀ y H4, Same H H4 → P i y H4 → k y H4) → g x (wipe σ vs) H' fun σ2 H2 => wipe σ2 vs = wipe σ vs ∧ te σ2 H2 k)
    (hd : ∀ (ys : List V) H, ys.length = n → (∀ (i : Nat) y, ys[i]? = some y → P i y H) → Same H0 H → H D = some (.lst ys) → Qd H) : LcGoal J g te vs σ H0 D Qd := by
  refine lc_it w (fun i H => Same H0 H ∧ ∃ ys : List V, H D = some (.lst ys) ∧ ys.length = i ∧ ∀ (t : Nat) y, ys[t]? = some y → P t y H) ⟨Same.new hD, [], upd_same, rfl, fun t y h => by cases h⟩ (fun i H _ h => hG H h.1) (fun i x H H' hi h hy => ?_) (fun H h => ?_)
  · obtain ⟨h1, ys, h3, h4, h5⟩ := h
    refine hs i x H H' hi h1 ⟨ys, h3⟩ hy _ fun y H4 s4 p => ⟨ys, s4 _ _ h3, ?_, fun c u q => ?_, ys ++ [y], upd_same, ?_, ?_⟩
    · exact Nat.lt_of_le_of_lt (by omega : ys.length ≤ 100000) (by decide)
    · rw [upd_ne (ne_of_none q hD)]
      exact s4 _ _ (h1 _ _ q)
    · rw [List.length_append, h4]
      rfl
    · intro t z hz
      refine hPD t z H4 ys _ (s4 _ _ h3) ?_
      rcases Nat.lt_or_ge t ys.length with q | q
      · rw [List.getElem?_append_left q] at hz
        exact hP _ _ _ _ s4 (h5 t z hz)
      · rw [List.getElem?_append_right q] at hz
        have e : t - ys.length = 0 := by
          have := (List.getElem?_eq_some_iff.mp hz).1
          simp at this
          omega
        rw [e] at hz
        obtain rfl : y = z := Option.some.inj hz
        have : t = i := by omega
        rw [this]
        exact p
  · obtain ⟨h1, ys, h3, h4, h5⟩ := h
    exact hd ys H h4 h5 h1 h3
theorem lcsN {J : It} {n : Nat} {G : Hp → Prop} {Y : Nat → Hp → V → Hp → Prop} {D : Addr} {g : TG} {te : TE} {vs : List Nat} {σ : L2.St} {H0 : Hp} {Qd : Hp → Prop} (w : Walk J n G Y) (P : Nat → V → Hp → Prop) (hP : ∀ i y H H', Same H H' → P i y H → P i y H') (hPD : ∀ i y H zs zs', H D = some (.lst zs) → P i y H → P i y (upd H D (.lst zs'))) (hal : ∀ i y H, P i y H → ∃ a o, y = V.ref a ∧ H a = some o) (hz : n ≤ 100000) (hD : H0 D = none) (hG : ∀ H, Same H0 H → G H)
    (hs : ∀ i x H H', i < n → Same H0 H → (∃ zs, H D = some (.lst zs)) → Y i H x H' → ∀ k : VK, (∀ y H4, Same H H4 → P i y H4 → (∃ a, y = V.ref a ∧ H a = none) → k y H4) → g x (wipe σ vs) H' fun σ2 H2 => wipe σ2 vs = wipe σ vs ∧ te σ2 H2 k)
    (hd : ∀ (ys : List V) H, ys.length = n → ys.Nodup → (∀ (i : Nat) y, ys[i]? = some y → P i y H) → Same H0 H → H D = some (.lst ys) → Qd H) : LcGoal J g te vs σ H0 D Qd := by
  refine lc_it w (fun i H => Same H0 H ∧ ∃ ys : List V, H D = some (.lst ys) ∧ ys.length = i ∧ ys.Nodup ∧ ∀ (t : Nat) y, ys[t]? = some y → P t y H) ⟨Same.new hD, [], upd_same, rfl, List.nodup_nil, fun t y h => by cases h⟩ (fun i H _ h => hG H h.1) (fun i x H H' hi h hy => ?_) (fun H h => ?_)
  · obtain ⟨h1, ys, h3, h4, h6, h5⟩ := h
    refine hs i x H H' hi h1 ⟨ys, h3⟩ hy _ fun y H4 s4 p ⟨fa, fe, fn⟩ => ⟨ys, s4 _ _ h3, ?_, fun c u q => ?_, ys ++ [y], upd_same, ?_, ?_, ?_⟩
    · exact Nat.lt_of_le_of_lt (by omega : ys.length ≤ 100000) (by decide)
    · rw [upd_ne (ne_of_none q hD)]
      exact s4 _ _ (h1 _ _ q)
    · rw [List.length_append, h4]
      rfl
    · refine List.nodup_append.mpr ⟨h6, by simp, fun a ha b hb e => ?_⟩
      rw [List.mem_singleton.mp hb] at e
      obtain ⟨j, hj⟩ := List.mem_iff_getElem?.mp ha
      obtain ⟨a2, o, e2, e3⟩ := hal j a H (h5 j a hj)
      rw [e, fe] at e2
      cases e2
      rw [fn] at e3
      cases e3
    · intro t z hz
      refine hPD t z H4 ys _ (s4 _ _ h3) ?_
      rcases Nat.lt_or_ge t ys.length with q | q
      · rw [List.getElem?_append_left q] at hz
        exact hP _ _ _ _ s4 (h5 t z hz)
      · rw [List.getElem?_append_right q] at hz
        have e : t - ys.length = 0 := by
          have := (List.getElem?_eq_some_iff.mp hz).1
          simp at this
          omega
        rw [e] at hz
        obtain rfl : y = z := Option.some.inj hz
        have : t = i := by omega
        rw [this]
        exact p
  · obtain ⟨h1, ys, h3, h4, h6, h5⟩ := h
    exact hd ys H h4 h6 h5 h1 h3
/-- a row changed in place -/
theorem MatL.put {H : Hp} {rs : List V} {M : List (List Int)} (h : MatL H rs M) (hn : rs.Nodup) {k : Nat} {t : Addr} {row : List Int} (hk : rs[k]? = some (.ref t)) : MatL (L2.upd H t (.lst (row.map V.int))) rs (M.set k row) := by
  refine ⟨by simp [h.1], fun i r hr => ?_⟩
  obtain ⟨t', row', e1, e2, e3⟩ := h.2 i r hr
  by_cases e : k = i
  · subst e
    rw [hk] at hr
    cases hr
    cases e1
    exact ⟨t, row, rfl, by rw [List.getElem?_set_self (List.getElem?_eq_some_iff.mp e2).1], upd_same⟩
  · have ht : t' ≠ t := fun z => by
      subst z
      rw [e1] at hr
      exact e ((List.getElem?_inj (List.getElem?_eq_some_iff.mp hk).1 hn).mp (hk.trans hr.symm))
    exact ⟨t', row', e1, by rw [List.getElem?_set_ne e]; exact e2, by rw [upd_ne ht]; exact e3⟩
theorem getD_lt {b c : Nat} {xs : List Int} (h : ∀ x ∈ xs, x.natAbs < 2 ^ b) : (xs.getD c 0).natAbs < 2 ^ b := by
  rw [List.getD_eq_getElem?_getD]
  rcases Nat.lt_or_ge c xs.length with z | z
  · rw [List.getElem?_eq_getElem z]
    exact h _ (List.getElem_mem z)
  · rw [List.getElem?_eq_none z]
    exact Nat.pow_pos (by decide)
theorem MatL.set {H : Hp} {rs : List V} {M : List (List Int)} (h : MatL H rs M) {k : Nat} {t : Addr} {row : List Int} (ht : H t = some (.lst (row.map V.int))) : MatL H (rs.set k (.ref t)) (M.set k row) := by
  refine ⟨by simp [h.1], fun i r hr => ?_⟩
  rw [List.getElem?_set] at hr
  by_cases e : k = i
  · subst e
    rw [if_pos rfl] at hr
    split at hr
    · rename_i hk
      cases hr
      exact ⟨t, row, rfl, by rw [List.getElem?_set_self (by rw [← h.1]; exact hk)], ht⟩
    · cases hr
  · rw [if_neg e] at hr
    obtain ⟨t', row', e1, e2, e3⟩ := h.2 i r hr
    exact ⟨t', row', e1, by rw [List.getElem?_set_ne e]; exact e2, e3⟩
/-- a list of refs is no row -/
theorem MatL.ne {H : Hp} {rs0 : List V} {M0 : List (List Int)} {D t : Addr} {row : List Int} (h0 : MatL H rs0 M0) (hD : H D = some (.lst rs0)) (hn : 0 < M0.length) (ht : H t = some (.lst (row.map V.int))) : t ≠ D := fun e => by
  subst e
  rw [hD] at ht
  have e2 : rs0 = row.map V.int := by
    injection ht with ht
    injection ht
  have hn' : 0 < rs0.length := by rw [h0.1]; exact hn
  obtain ⟨t', row', e3, _⟩ := h0.2 0 _ (List.getElem?_eq_getElem hn')
  have e4 : (row.map V.int)[0]? = some (V.ref t') := by rw [← e2, List.getElem?_eq_getElem hn', e3]
  rw [List.getElem?_map] at e4
  obtain ⟨z, _, e5⟩ := Option.map_eq_some_iff.mp e4
  cases e5
theorem MatL.upd {H : Hp} {rs rs0 zs : List V} {M M0 : List (List Int)} {D : Addr} (h : MatL H rs M) (h0 : MatL H rs0 M0) (hD : H D = some (.lst rs0)) (hn : 0 < M0.length) : MatL (L2.upd H D (.lst zs)) rs M := ⟨h.1, fun i r hr => by
  obtain ⟨t, row, e1, e2, e3⟩ := h.2 i r hr
  exact ⟨t, row, e1, e2, by rw [upd_ne (h0.ne hD hn e3)]; exact e3⟩⟩
def spCleared : Sp := fun vs H Q _ => ∃ (p : Addr) (M : List (List Int)) (E w : Nat), vs = [.ref p] ∧ Mat H p M ∧ RowsW w M ∧ Ent E M ∧ 0 < E ∧ bk E (min w M.length) < 9000 ∧ M.length ≤ 1000 ∧ w ≤ 1000 ∧ ∀ t H', Same H H' → H' t = some (.tup [.int (clrRank M : Int), .int (clrDet M)]) → Q (.ref t) H'
theorem ok_cleared (T : Tx K mg) : FnOk P w K mg base CX0 2 T.f__cleared T.d__cleared ["matrix"] spCleared := by
  have G__filled_from := ok_filled (P := P) (w := w) (base := base) T
  refine T.F__cleared.ok sc__cleared (fun vs H Q E h => ?_) (fun cdv A outer s H vs Q E hr h => ?_)
  · obtain ⟨p, M, r, c, rfl, _⟩ := h
    rfl
  obtain ⟨p, M, B, w, rfl, hM, hw, hE, hB0, hB, hn, hw1, q⟩ := h
  obtain ⟨rs, h1, h2⟩ := hM.ex
  have nd := sc__cleared.nd
  refine ⟨_, (pss_cons (ps_setLc (i := 1) (own := [("row", 11)]) (g := (gName 11)) rfl nd rfl rfl (sw_true rfl rfl rfl (by decide +kernel)) (show PI _ _ _ (iList K _) from pi_list (pv 0)) (blkOk_by (own := [("row", 11)]) (N := N__cleared) (sc := defScope s__cleared) (by decide +kernel)) (fun _ _ _ _ _ => by exact (pg_name (i := 11) nd rfl (Or.inl rfl))) (fun _ _ _ _ _ => by exact pts_nil) (fun _ _ _ _ _ => by exact (pe_callTy (show CallR _ _ (rListOf K) from call_list_of) (by rfl) T.z_list (by decide +kernel) (pa_cons (pv 11) pa_nil))))
    (pss_cons (ps_set (i := 2) nd rfl (Or.inl rfl) (pe_ifExp (pt_truth (pv 1) (by intro _; rfl)) (pe_callB (show CallR _ _ (rLenSq K) from call_len_seq) (by rfl) T.z_len (by decide +kernel) (pa_cons (pe_ix (show IxR _ (rIxL K) from ix_list) (pv 1) pe_int (fun _ _ => rfl)) pa_nil)) pe_int))
    (pss_cons (ps_set (i := 3) nd rfl (Or.inl rfl) pe_int)
    (pss_cons (ps_set (i := 4) nd rfl (Or.inl rfl) pe_int)
    (pss_cons (ps_set (i := 5) nd rfl (Or.inr rfl) pe_int)
    (pss_cons (ps_for PassesOwn.never rfl (pi_range1 (by rfl) T.z_range (pa_cons (pv 2) pa_nil)) (pg_name (i := 6) nd rfl (Or.inr rfl)) (pss_cons (ps_set (i := 7) nd rfl (Or.inl rfl) (pe_call G__filled_from hr (by rfl) T.m__filled_from T.F__filled_from.kp T.b__filled_from .nil pass0 (pa_cons (pv 1) (pa_cons (pv 3) (pa_cons (pv 6) pa_nil)))))
    (pss_cons (ps_if (pt_cmpR op_isN (pv 7) pe_non (nomark _)) (pss_one ps_continue) pss_nil)
    (pss_cut (ps_if (pt_cmpR op_ne (pv 7) (pv 3) (nomark _)) (pss_cons (ps_asg (pe_tup (pa_cons (pe_ix (show IxR _ (rIxL K) from ix_list) (pv 1) (pv 7) (fun _ _ => rfl)) (pa_cons (pe_ix (show IxR _ (rIxL K) from ix_list) (pv 1) (pv 3) (fun _ _ => rfl)) pa_nil))) (pg_tup rfl (pgs_cons (pg_sub (pv 1) (pv 3) set_list) (pgs_cons (pg_sub (pv 1) (pv 7) set_list) pgs_nil))))
    (pss_one (ps_set (i := 4) nd rfl (Or.inl rfl) (pe_un un_neg (pv 4))))) pss_nil)
    (pss_cons (ps_set (i := 8) nd rfl (Or.inr rfl) (pe_ix (show IxR _ (rIxL K) from ix_list) (pv 1) (pv 3) (fun _ _ => rfl)))
    (pss_cons (ps_for PassesOwn.never rfl (pi_range2 (by rfl) T.z_range (pa_cons (pe_op op_add (pv 3) pe_int) (pa_cons (pe_callB (show CallR _ _ (rLenSq K) from call_len_seq) (by rfl) T.z_len (by decide +kernel) (pa_cons (pv 1) pa_nil)) pa_nil))) (pg_name (i := 9) nd rfl (Or.inl rfl)) (pss_cons (ps_set (i := 10) nd rfl (Or.inr rfl) (pe_ix (show IxR _ (rIxL K) from ix_list) (pe_ix (show IxR _ (rIxL K) from ix_list) (pv 1) (pv 9) (fun _ _ => rfl)) (pv 6) (fun _ _ => rfl)))
    (pss_one (ps_asg (pe_lc (own := [("own", 12), ("top", 13)]) (g := (gTup K 2 (gCons (gName 12) (gCons (gName 13) gNil)))) rfl nd (show PI _ _ _ (RZ.iZipA K _) from RZ.pi_zipA (by rfl) T.z_zip (pa_cons (pe_ix (show IxR _ (rIxL K) from ix_list) (pv 1) (pv 9) (fun _ _ => rfl)) (pa_cons (pv 8) pa_nil))) (blkOk_by (own := [("own", 12), ("top", 13)]) (N := N__cleared) (sc := defScope s__cleared) (by decide +kernel)) (fun _ _ _ _ _ => by exact (pg_tup rfl (pgs_cons (pg_name (i := 12) nd rfl (Or.inl rfl)) (pgs_cons (pg_name (i := 13) nd rfl (Or.inl rfl)) pgs_nil)))) (fun _ _ _ _ _ => by exact pts_nil) (fun _ _ _ _ _ => by exact (pe_op op_fdivZ (pe_op op_sub (pe_op op_mulW (pe_ix (show IxR _ (rIxL K) from ix_list) (pv 8) (pv 6) (fun _ _ => rfl)) (pv 12)) (pe_op op_mulW (pv 10) (pv 13))) (pv 5)))) (pg_sub (pv 1) (pv 9) set_list)))))
    (pss_cons (ps_set (i := 5) nd rfl (Or.inr rfl) (pe_ix (show IxR _ (rIxL K) from ix_list) (pv 8) (pv 6) (fun _ _ => rfl)))
    (pss_one (ps_aug (i := 3) nd rfl (Or.inl rfl) pe_int ip_add)))))))))
    (pss_one (ps_ret (pe_tup (pa_cons (pv 3) (pa_cons (pe_op op_mulW (pv 4) (pv 5)) pa_nil))))))))))), ?_⟩
  refine ⟨_, rfl, p, rfl, ⟨rs, SqL.of h1⟩, fun D hD => ?_⟩
  refine lcsD (walk_list (K := K) (a := p) (xs := rs)) (fun i y H => ∃ t row, y = V.ref t ∧ t ≠ D ∧ M[i]? = some row ∧ H t = some (.lst (row.map V.int))) (fun i y H1 H2 s1 ⟨t, row, a1, a0, a2, a3⟩ => ⟨t, row, a1, a0, a2, s1 _ _ a3⟩)
    (fun i y H1 zs zs' hz' ⟨t, row, a1, a0, a2, a3⟩ => ⟨t, row, a1, a0, a2, by rw [upd_ne a0]; exact a3⟩) (by rw [h2.1]; omega) hD (fun H1 s1 => SqL.of (s1 _ _ h1)) ?_ fun ys H1 hl hys s1 hD1 => ?_
  · rintro i x H1 H2 hi s1 ⟨zs, hz⟩ ⟨rfl, hx⟩ k hk
    obtain ⟨t, row, rfl, e2, e3⟩ := h2.2 i x hx
    refine ⟨rfl, ?_⟩
    exact ⟨_, rfl, t, row.map V.int, rfl, .inl (SqL.of (s1 _ _ e3)), fun p2 hp2 => hk _ _ (Same.new hp2) ⟨p2, row, rfl, (ne_of_none hz hp2).symm, e2, upd_same⟩⟩
  have m1 : MatL H1 ys M := ⟨by rw [hl, h2.1], fun i r hr => by
    obtain ⟨t, row, a1, a0, a2, a3⟩ := hys i r hr
    exact ⟨t, row, a1, a2, a3⟩⟩
  clear hys hl
  -- the width
  have wid : ∀ Qw : VK, Qw (.int (widthOf M : Int)) H1 → (tIf
      (fun σ H_1 Q => tVar 1 σ H_1 fun x H' => ∃ k, TruV K x H' k ∧ Q k H')
      (tCB (rLenSq K) (tCons (tOp (rIxL K) (tVar 1) (tC (V.int 0))) tNil)) (tC (V.int 0))) ([some (.ref p), some (.ref D), none, none, none, none, none, none, none, none, none, none, none, none]) H1 Qw := fun Qw k => by
    refine ⟨_, rfl, !ys.isEmpty, .inl ⟨ys, SqL.of hD1, rfl⟩, ?_⟩
    refine ite2 (fun c => ?_) (fun c => ?_)
    · have h0 : 0 < M.length := by
        rw [← m1.1]
        cases ys with
        | nil => cases c
        | cons y ys => exact Nat.succ_pos _
      obtain ⟨t, g1, g2⟩ := m1.at h0
      refine ⟨_, rfl, _, _, _, _, rfl, rfl, SqL.of hD1, at_of (j := 0) rfl g1, t, _, rfl, .inl (SqL.of g2), ?_⟩
      rw [List.length_map]
      exact k
    · have h0 : M = [] := by
        have : ys = [] := by
          cases ys with
          | nil => rfl
          | cons y ys => exact absurd rfl c
        have := m1.1
        subst ys
        exact List.eq_nil_of_length_eq_zero this.symm
      subst h0
      exact k
  refine wid _ ?_
  clear wid
  have hww : widthOf M ≤ w ∧ RowsW (widthOf M) M := by
    unfold widthOf
    cases M with
    | nil => exact ⟨Nat.zero_le _, fun row hr => by cases hr⟩
    | cons x xs =>
      have e : x.length = w := hw x (List.mem_cons_self ..)
      exact ⟨Nat.le_of_eq e, fun row hr => (hw row hr).trans e.symm⟩
  have CI := clrI_n hB0 hE hww.2
  have rk : ∀ i, i ≤ widthOf M → (clrN M i).2.1 ≤ min w M.length := fun i hi => by
    have a1 := rank_le M i
    have a2 := (CI i).le
    omega
  have bkk : ∀ i, i ≤ widthOf M → bk B (clrN M i).2.1 < 9000 := fun i hi => Nat.lt_of_le_of_lt (bk_le (rk i hi)) hB
  generalize hW : widthOf M = W at *
  refine ⟨_, rfl, _, rfl, by omega, by omega, for_range (lo := 0) (n := ((W : Nat) : Int).toNat) (fun i σ' H' => (∃ a6 a7 a8 a9 a10 : Option V, σ' = [some (.ref p), some (.ref D), some (.int (W : Int)), some (.int ((clrN M i).2.1 : Int)), some (.int (clrN M i).2.2.1), some (.int (clrN M i).2.2.2), a6, a7, a8, a9, a10, none, none, none]) ∧ Same H H' ∧ Mat H' D (clrN M i).1) ⟨⟨_, _, _, _, _, rfl⟩, s1, ys, hD1, m1⟩ ?_ ?_⟩
  · rintro i σ' H2 hi ⟨⟨a6, a7, a8, a9, a10, rfl⟩, s2, hM2⟩
    have I := CI i
    have e0 : (0 : Int) + (i : Int) = (i : Int) := by omega
    have bi := bkk i (by omega)
    have est : clrN M (i + 1) = stepC i (clrN M i) := rfl
    have hIl := I.len
    have hIr := I.rows
    have hIle := I.le
    have hInz := I.nz
    have hIsm := I.sm
    have hIe := I.ent
    unfold stepC at est
    generalize hcl : clrN M i = cs at *
    obtain ⟨Mi, r, sg, last⟩ := cs
    dsimp only at *
    rw [e0]
    refine ⟨_, rfl, _, rfl, _, rfl, D, Mi, r, i, W, rfl, hM2, hIr, by omega, by omega, by omega, by omega, ?_⟩
    cases hf : ffrom Mi i r (Mi.length - r) with
    | none =>
      rw [hf] at est
      dsimp only at est ⊢
      refine ⟨_, rfl, rfl, _, rfl, ?_⟩
      refine ite_dec rfl ?_
      rw [est]
      exact ⟨⟨_, _, _, _, _, rfl⟩, s2, hM2⟩
    | some f =>
      rw [hf] at est
      dsimp only at est ⊢
      obtain ⟨f1, f2, f3⟩ := ffrom_some hf
      have hfl : f < Mi.length := by omega
      have hrl : r < Mi.length := by omega
      refine ⟨_, rfl, rfl, _, rfl, ?_⟩
      refine ite_dec' (fun z => by cases z) ?_
      obtain ⟨rsi, g1, g2⟩ := hM2.ex
      obtain ⟨tf, gf, gf2⟩ := g2.at hfl
      obtain ⟨tr, gr, gr2⟩ := g2.at hrl
      have hn0 : 0 < Mi.length := by omega
      have hp := piv_at hrl hfl
      have hd : (pivM Mi r f).getD r [] = Mi.getD f [] := getD_of hp
      have hmem := getD_mem hfl
      have hpl : (pivM Mi r f).length = Mi.length := len_piv ..
      have hpe : Ent (bk B r) (pivM Mi r f) := fun row hr => hIe row (piv_mem hrl hfl row hr)
      have hpw : RowsW W (pivM Mi r f) := fun row hr => hIr row (piv_mem hrl hfl row hr)
      have hhe := hIe _ hmem
      have hhw := hIr _ hmem
      refine ⟨fun σ' H' => σ' = [some (.ref p), some (.ref D), some (.int (W : Int)), some (.int (r : Int)), some (.int (if f = r then sg else -sg)), some (.int last), some (.int (i : Int)), some (.int (f : Int)), a8, a9, a10, none, none, none] ∧ Same H H' ∧ Mat H' D (pivM Mi r f), ?_, ?_⟩
      · refine ⟨_, rfl, _, rfl, rfl, _, rfl, ?_⟩
        refine ite2 (fun c => ?_) (fun c => ?_)
        · have c' : f ≠ r := fun z => by
            subst z
            simp at c
          refine ⟨_, rfl, _, rfl, _, _, _, _, rfl, rfl, SqL.of g1, at_of (j := f) rfl gf, _, rfl, _, rfl, _, _, _, _, rfl, rfl, SqL.of g1, at_of (j := r) rfl gr, (by show 2 ≤ sizeLine; decide), fun t ht => ?_⟩
          have st := Same.new (o := .tup [.ref tf, .ref tr]) ht
          have g1' := st _ _ g1
          have g2' := g2.same st
          refine ⟨t, _, rfl, SqT.of upd_same, rfl, _, _, rfl, ?_⟩
          refine ⟨_, rfl, _, rfl, D, _, _, r, rfl, rfl, g1', ixN_at (by rw [g2.1]; exact hrl), _, _, rfl, ?_⟩
          refine ⟨_, rfl, _, rfl, D, _, _, f, rfl, rfl, upd_same, ixN_at (by rw [List.length_set, g2.1]; exact hfl), rfl, ?_⟩
          have gf' := st _ _ gf2
          have gr' := st _ _ gr2
          have x1 := g2'.set (k := r) gf'
          have y1 := x1.set (k := f) gr'
          refine ⟨_, rfl, _, rfl, ?_⟩
          refine ⟨by rw [if_neg c']; rfl, ((s2.trans st).upd_new hD).upd_new hD, _, upd_same, ?_⟩
          unfold pivM
          rw [if_neg c']
          exact (y1.upd g2' g1' hn0).upd (x1.upd g2' g1' hn0) upd_same (by rw [List.length_set]; exact hn0)
        · have c' : f = r := Decidable.byContradiction fun z => c (by simp; omega)
          subst c'
          rw [if_pos rfl]
          refine ⟨rfl, s2, ?_⟩
          unfold pivM
          rw [if_pos rfl]
          exact hM2
      · clear gf gf2 gr gr2 g1 g2 rsi tf tr hM2
        rintro σ' H3 ⟨rfl, s3, hM3⟩
        obtain ⟨rsi, g1, g2⟩ := hM3.ex
        have hrl' : r < (pivM Mi r f).length := by omega
        obtain ⟨th, gh, gh2⟩ := g2.at hrl'
        rw [hd] at gh2 est
        refine ⟨_, rfl, _, rfl, _, _, _, _, rfl, rfl, SqL.of g1, at_of (j := r) rfl gh, ?_⟩
        have hrs : rsi.length = Mi.length := g2.1.trans hpl
        have thD : th ≠ D := g2.ne g1 (by omega) gh2
        generalize hhd : Mi.getD f [] = head at *
        have hpiv : (head.getD i 0).natAbs < 2 ^ bk B r := getD_lt hhe
        have iI : (i : Int) < (W : Int) := by omega
        refine ⟨_, rfl, _, _, rfl, rfl, _, rfl, D, rsi, rfl, .inl (SqL.of g1), (r : Int) + 1, (rsi.length : Int), rfl, ⟨by omega, by omega, by omega, by omega⟩, for_range (lo := (r : Int) + 1) (n := ((rsi.length : Int) - ((r : Int) + 1)).toNat) (fun k σ' H' => (∃ a9 a10 : Option V, σ' = [some (.ref p), some (.ref D), some (.int (W : Int)), some (.int (r : Int)), some (.int (if f = r then sg else -sg)), some (.int last), some (.int (i : Int)), some (.int (f : Int)), some (.ref th), a9, a10, none, none, none]) ∧ Same H H' ∧ Mat H' D (redTo last head i r (r + 1 + k) (pivM Mi r f)) ∧ H' th = some (.lst (head.map V.int))) ⟨⟨_, _, rfl⟩, s3, by rw [Nat.add_zero, red_start]; exact ⟨rsi, g1, g2⟩, gh2⟩ ?_ ?_⟩
        · clear g1 g2 gh gh2 hM3 s3 s2
          rintro k σ' H4 hk ⟨⟨b9, b10, rfl⟩, s4, hM4, gth⟩
          obtain ⟨rs4, g1, g2⟩ := hM4.ex
          have hk' : r + 1 + k < (pivM Mi r f).length := by omega
          have hk4 : r + 1 + k < (redTo last head i r (r + 1 + k) (pivM Mi r f)).length := by rw [len_red]; exact hk'
          obtain ⟨tk, gk, gk2⟩ := g2.at hk4
          have hrowk : (redTo last head i r (r + 1 + k) (pivM Mi r f)).getD (r + 1 + k) [] = (pivM Mi r f).getD (r + 1 + k) [] := by
            rw [List.getD_eq_getElem?_getD, red_keep (.inr (Nat.le_refl _)), List.getD_eq_getElem?_getD]
          rw [hrowk] at gk2
          have hkm := getD_mem hk'
          have hkw := hpw _ hkm
          have hke := hpe _ hkm
          have hks := getD_some hk'
          generalize (pivM Mi r f).getD (r + 1 + k) [] = row at *
          have eI : (r : Int) + 1 + (k : Int) = ((r + 1 + k : Nat) : Int) := by omega
          rw [eI]
          refine ⟨_, rfl, _, rfl, _, _, _, _, rfl, rfl, SqL.of g1, at_of (j := r + 1 + k) rfl gk, _, rfl, _, _, _, _, rfl, rfl, SqL.of gk2, at_of (j := i) rfl (getD_map (by omega)), ?_⟩
          refine ⟨_, rfl, _, rfl, _, _, _, _, rfl, rfl, SqL.of g1, at_of (j := r + 1 + k) rfl gk, _, rfl, tk, th, _, _, rfl, .inl ⟨SqL.of gk2, SqL.of gth, fun D2 hD2 => ?_⟩⟩
          refine lc_zipLS (f := fun own top => (head.getD i 0 * own - row.getD i 0 * top).fdiv last) (SqL.of gk2) (SqL.of gth) (by rw [hkw, hhw]) (by omega) hD2 (fun u v => rfl) (fun u v H5 kk s5 hu hv hkk => ?_) fun H5 s5 hD5 => ?_
          · have ur := hke u hu
            have vr := hhe v hv
            have rr : (row.getD i 0).natAbs < 2 ^ bk B r := getD_lt hke
            have b0 : 0 < bk B r := bk_pos B hB0 r
            have b2 : bk B r + bk B r ≤ 1000000 := by clear hk hke; omega
            have i1 : i < head.length := by omega
            refine ⟨_, rfl, _, rfl, _, _, _, _, rfl, rfl, SqL.of (s5 _ _ gth), at_of (j := i) rfl (getD_map i1), _, rfl, _, _, rfl, rfl, wide_mul hpiv ur b0 b0 b2, ?_⟩
            refine ⟨_, rfl, _, rfl, _, _, rfl, rfl, wide_mul rr vr b0 b0 b2, _, _, rfl, rfl, _, rfl, _, _, rfl, rfl, ⟨hInz, ?_⟩, hkk⟩
            exact Nat.lt_of_lt_of_le ((Nat.log2_lt (by simpa using hInz)).mpr hIsm) (Nat.le_of_lt bi)
          · refine ⟨_, rfl, _, rfl, D, _, _, r + 1 + k, rfl, rfl, s5 _ _ g1, ixN_at (by rw [g2.1]; exact hk4), ?_⟩
            refine ⟨⟨_, _, rfl⟩, (s4.trans s5).upd_new hD, ⟨_, upd_same, ?_⟩, by rw [upd_ne thD]; exact s5 _ _ gth⟩
            rw [show r + 1 + (k + 1) = (r + 1 + k) + 1 from rfl, red_step (by omega) hks]
            exact ((g2.same s5).set (k := r + 1 + k) hD5).upd (g2.same s5) (s5 _ _ g1) (by omega)
        · rintro σ' H4 ⟨⟨b9, b10, rfl⟩, s4, hM4, gth⟩
          refine ⟨_, rfl, _, rfl, _, _, _, _, rfl, rfl, SqL.of gth, at_of (j := i) rfl (getD_map (by omega)), ?_⟩
          have er : r + 1 + ((rsi.length : Int) - ((r : Int) + 1)).toNat = (pivM Mi r f).length := by omega
          rw [er] at hM4
          refine ⟨_, rfl, _, _, rfl, rfl, ?_⟩
          rw [est]
          exact ⟨⟨_, _, _, _, _, rfl⟩, s4, hM4⟩
  · rintro σ' H2 ⟨⟨a6, a7, a8, a9, a10, rfl⟩, s2, hM2⟩
    have I := CI W
    have sg1 := sign_one M W
    rw [show ((W : Nat) : Int).toNat = W from Int.toNat_natCast W]
    have bW := bkk W (Nat.le_refl _)
    have b0 : 0 < bk B (clrN M W).2.1 := bk_pos B hB0 _
    refine ⟨_, rfl, _, rfl, _, rfl, _, _, rfl, rfl, wide_mul (a := 1) (b := bk B (clrN M W).2.1) (by omega) I.sm (by decide) b0 (by omega), (by show 2 ≤ sizeLine; decide), fun t ht => q t _ (s2.trans (Same.new ht)) ?_⟩
    rw [upd_same, clrRank, clrDet, hW]
def spRank : Sp := fun vs H Q _ => ∃ (p : Addr) (M : List (List Int)) (E w : Nat), vs = [.ref p] ∧ Mat H p M ∧ RowsW w M ∧ Ent E M ∧ 0 < E ∧ bk E (min w M.length) < 9000 ∧ M.length ≤ 1000 ∧ w ≤ 1000 ∧ ∀ H', Same H H' → Q (.int (clrRank M : Int)) H'
theorem ok_rank (T : Tx K mg) : FnOk P w K mg base CX0 3 T.f_rank_of T.d_rank_of ["matrix"] spRank := by
  have G__cleared := ok_cleared (P := P) (w := w) (base := base) T
  refine T.F_rank_of.ok sc_rank_of (fun vs H Q E h => ?_) (fun cdv A outer s H vs Q E hr h => ?_)
  · obtain ⟨p, M, r, c, rfl, _⟩ := h
    rfl
  obtain ⟨p, M, B, w, rfl, hM, hw, hE, hB0, hB, hn, hw1, q⟩ := h
  have nd := sc_rank_of.nd
  refine ⟨_, (pss_cons (ps_asg (pe_call G__cleared hr (by rfl) T.m__cleared T.F__cleared.kp T.b__cleared .nil pass0 (pa_cons (pv 0) pa_nil)) (pg_tup rfl (pgs_cons (pg_name (i := 1) nd rfl (Or.inl rfl)) (pgs_cons (pg_name (i := 2) nd rfl (Or.inl rfl)) pgs_nil))))
    (pss_one (ps_ret (pv 1)))), ?_⟩
  refine ⟨_, rfl, p, M, B, w, rfl, hM, hw, hE, hB0, hB, hn, hw1, fun t H1 s1 ht => ?_⟩
  exact ⟨t, _, rfl, SqT.of ht, rfl, _, _, rfl, _, _, rfl, rfl, _, rfl, q H1 s1⟩
end
end TL
namespace TL.W
open TL
open PySem L2

/-! ### steps of a reading -/
local macro_rules | `(tactic| walk_at "hp") => `(tactic| first | assumption | exact upd_same | (refine (upd_ne (by first | assumption | (exact Ne.symm (by assumption)))).trans ?_; walk_at "hp"))
local macro_rules | `(tactic| walk_at "ok") => `(tactic| first | (exact Or.inr ⟨by decide, by decide⟩) | (exact ⟨by decide, by decide⟩) | (exact ⟨by decide, by decide, by decide⟩) | (show _ ≠ _; omega) | (show _ ≠ _; decide) | (exact Or.inl ⟨by omega, by omega⟩) | decide)
local macro_rules | `(tactic| walk_at "sq") => `(tactic| first | assumption | exact SqL.of (by walk_at "hp") | exact SqT.of (by walk_at "hp"))
local macro_rules | `(tactic| walk_at "ty") => `(tactic| first | refine ⟨_, _, Value.type "int", Value.type "list", false, rfl, ClsV.ty _, TyX.base (TyOf.int _), kt_int_list, ?_⟩ | refine ⟨_, _, Value.type "bool", Value.type "list", false, rfl, ClsV.ty _, TyX.base (TyOf.bl _), kt_bool_list, ?_⟩ | refine ⟨_, _, Value.type "str", Value.type "list", false, rfl, ClsV.ty _, TyX.base (TyOf.str _), kt_str_list, ?_⟩ | refine ⟨_, _, Value.type "NoneType", Value.type "list", false, rfl, ClsV.ty _, TyX.base TyOf.non, kt_NoneType_list, ?_⟩ | refine ⟨_, _, Value.type "list", Value.type "list", true, rfl, ClsV.ty _, tyx_L (by walk_at "sq"), kt_list_list, ?_⟩ | refine ⟨_, _, Value.type "tuple", Value.type "list", false, rfl, ClsV.ty _, tyx_T (by walk_at "sq"), kt_tuple_list, ?_⟩ | refine ⟨_, _, Value.type "int", Value.type "tuple", false, rfl, ClsV.ty _, TyX.base (TyOf.int _), kt_int_tuple, ?_⟩ | refine ⟨_, _, Value.type "bool", Value.type "tuple", false, rfl, ClsV.ty _, TyX.base (TyOf.bl _), kt_bool_tuple, ?_⟩ | refine ⟨_, _, Value.type "str", Value.type "tuple", false, rfl, ClsV.ty _, TyX.base (TyOf.str _), kt_str_tuple, ?_⟩ | refine ⟨_, _, Value.type "NoneType", Value.type "tuple", false, rfl, ClsV.ty _, TyX.base TyOf.non, kt_NoneType_tuple, ?_⟩ | refine ⟨_, _, Value.type "list", Value.type "tuple", false, rfl, ClsV.ty _, tyx_L (by walk_at "sq"), kt_list_tuple, ?_⟩ | refine ⟨_, _, Value.type "tuple", Value.type "tuple", true, rfl, ClsV.ty _, tyx_T (by walk_at "sq"), kt_tuple_tuple, ?_⟩ | refine ⟨_, _, Value.type "int", Value.type "bool", false, rfl, ClsV.ty _, TyX.base (TyOf.int _), kt_int_bool, ?_⟩ | refine ⟨_, _, Value.type "bool", Value.type "bool", true, rfl, ClsV.ty _, TyX.base (TyOf.bl _), kt_bool_bool, ?_⟩ | refine ⟨_, _, Value.type "str", Value.type "bool", false, rfl, ClsV.ty _, TyX.base (TyOf.str _), kt_str_bool, ?_⟩ | refine ⟨_, _, Value.type "NoneType", Value.type "bool", false, rfl, ClsV.ty _, TyX.base TyOf.non, kt_NoneType_bool, ?_⟩ | refine ⟨_, _, Value.type "list", Value.type "bool", false, rfl, ClsV.ty _, tyx_L (by walk_at "sq"), kt_list_bool, ?_⟩ | refine ⟨_, _, Value.type "tuple", Value.type "bool", false, rfl, ClsV.ty _, tyx_T (by walk_at "sq"), kt_tuple_bool, ?_⟩ | refine ⟨_, _, Value.type "int", Value.type "int", true, rfl, ClsV.ty _, TyX.base (TyOf.int _), kt_int_int, ?_⟩ | refine ⟨_, _, Value.type "bool", Value.type "int", true, rfl, ClsV.ty _, TyX.base (TyOf.bl _), kt_bool_int, ?_⟩ | refine ⟨_, _, Value.type "str", Value.type "int", false, rfl, ClsV.ty _, TyX.base (TyOf.str _), kt_str_int, ?_⟩ | refine ⟨_, _, Value.type "NoneType", Value.type "int", false, rfl, ClsV.ty _, TyX.base TyOf.non, kt_NoneType_int, ?_⟩ | refine ⟨_, _, Value.type "list", Value.type "int", false, rfl, ClsV.ty _, tyx_L (by walk_at "sq"), kt_list_int, ?_⟩ | refine ⟨_, _, Value.type "tuple", Value.type "int", false, rfl, ClsV.ty _, tyx_T (by walk_at "sq"), kt_tuple_int, ?_⟩ | refine ⟨_, _, Value.type "int", Value.type "str", false, rfl, ClsV.ty _, TyX.base (TyOf.int _), kt_int_str, ?_⟩ | refine ⟨_, _, Value.type "bool", Value.type "str", false, rfl, ClsV.ty _, TyX.base (TyOf.bl _), kt_bool_str, ?_⟩ | refine ⟨_, _, Value.type "str", Value.type "str", true, rfl, ClsV.ty _, TyX.base (TyOf.str _), kt_str_str, ?_⟩ | refine ⟨_, _, Value.type "NoneType", Value.type "str", false, rfl, ClsV.ty _, TyX.base TyOf.non, kt_NoneType_str, ?_⟩ | refine ⟨_, _, Value.type "list", Value.type "str", false, rfl, ClsV.ty _, tyx_L (by walk_at "sq"), kt_list_str, ?_⟩ | refine ⟨_, _, Value.type "tuple", Value.type "str", false, rfl, ClsV.ty _, tyx_T (by walk_at "sq"), kt_tuple_str, ?_⟩)
local macro_rules | `(tactic| walk_at "go1") => `(tactic| first
  | (refine ⟨_, rfl, ?_⟩)
  | (refine ⟨_, _, rfl, rfl, ?_⟩)
  | (refine ⟨_, _, _, _, rfl, rfl, SqL.of (by walk_at "hp"), rfl, ?_⟩)
  | (refine Or.inl ⟨_, rfl, ?_⟩)
  | (refine ⟨rfl, ?_⟩)
  | (refine ⟨_, _, rfl, .inl (SqL.of (by walk_at "hp")), ?_⟩)
  | (refine ⟨_, _, rfl, Or.inl (by assumption), ?_⟩)
  | (refine ⟨_, _, rfl, Or.inr (by assumption), ?_⟩)
  | (refine ⟨(by walk_at "ok"), ?_⟩)
  | (refine ⟨_, _, _, _, rfl, rfl, (by walk_at "hp"), rfl, ?_⟩))
local macro_rules | `(tactic| walk_at "go") => `(tactic| repeat (walk_at "go1"))
local macro_rules | `(tactic| walk_at "gt") => `(tactic| repeat (first | walk_at "go1" | walk_at "ty"))

section
variable {P : Program} {w : World} {K : PySem.W.Frag} {mg : Str → Option Value} {base : Heap}
def TwoAt (k : Nat) (y : V) (H : Hp) : Prop := ∃ (q : Addr) (i j : Nat), y = .ref q ∧ PR[k]? = some (i, j) ∧ H q = some (.tup [.int (i : Int), .int (j : Int)])
theorem TwoAt.same {k : Nat} {y : V} {H H' : Hp} (s : Same H H') (h : TwoAt k y H) : TwoAt k y H' := by
  obtain ⟨q, i, j, rfl, h1, h2⟩ := h
  exact ⟨q, i, j, rfl, h1, s _ _ h2⟩
theorem TwoAt.lst {k : Nat} {y : V} {H : Hp} {D : Addr} {zs zs' : List V} (hD : H D = some (.lst zs)) (h : TwoAt k y H) : TwoAt k y (upd H D (.lst zs')) := by
  obtain ⟨q, i, j, rfl, h1, h2⟩ := h
  exact ⟨q, i, j, rfl, h1, by rw [upd_ne (ne_of h2 hD (by intro z; cases z))]; exact h2⟩
def Twos (ts : List V) (H : Hp) : Prop := ∀ k y, ts[k]? = some y → TwoAt k y H
def spTwos : Sp := fun vs H Q _ => vs = [] ∧ ∀ t ts H', Same H H' → H' t = some (.lst ts) → ts.length = 15 → Twos ts H' → Q (.ref t) H'
def cnt : Nat → Nat
  | 0 => 0
  | n + 1 => cnt n + (5 - n)
theorem pr_at : ∀ i, i < 6 → ∀ j, j < 5 - i → PR[cnt i + j]? = some (i, i + 1 + j) := by decide
structure TwoI (H : Hp) (p : Addr) (n : Nat) (H' : Hp) : Prop where
  s : Same H H'
  ex : ∃ ts, H' p = some (.lst ts) ∧ ts.length = n ∧ Twos ts H'
theorem TwoI.add {H H' : Hp} {p q : Addr} {n : Nat} {i j : Nat} (h : TwoI H p n H') (hp : H p = none) (hq : H' q = none) (hc : PR[n]? = some (i, j)) : ∃ ts, upd H' q (.tup [.int (i : Int), .int (j : Int)]) p = some (.lst ts) ∧ ts.length = n ∧ TwoI H p (n + 1) (upd (upd H' q (.tup [.int (i : Int), .int (j : Int)])) p (.lst (ts ++ [.ref q]))) := by
  obtain ⟨ts, e1, e2, e3⟩ := h.ex
  have s1 := Same.new (o := .tup [V.int (i : Int), V.int (j : Int)]) hq
  refine ⟨ts, s1 _ _ e1, e2, fun c o e => ?_, ts ++ [.ref q], upd_same, by rw [List.length_append, e2]; rfl, fun k y hy => ?_⟩
  · rw [upd_ne (ne_of_none e hp)]
    exact s1 _ _ (h.s _ _ e)
  · refine TwoAt.lst (s1 _ _ e1) ?_
    rcases Nat.lt_or_ge k ts.length with z | z
    · rw [List.getElem?_append_left z] at hy
      exact (e3 k y hy).same s1
    · rw [List.getElem?_append_right z] at hy
      obtain ⟨z2, rfl⟩ : k - ts.length = 0 ∧ V.ref q = y := by
        match hk : k - ts.length, hy with
        | 0, hy => exact ⟨rfl, Option.some.inj hy⟩
        | n + 1, hy => cases hy
      obtain rfl : k = n := by omega
      exact ⟨q, i, j, rfl, hc, upd_same⟩
theorem ok_l_twos (T : Tx K mg) : FnOk P w K mg base CX0 1 T.f_l_twos T.d_l_twos [] spTwos := by
  refine T.F_l_twos.ok sc_l_twos (fun vs H Q E h => ?_) (fun cdv A outer s H vs Q E hr h => ?_)
  · obtain ⟨rfl, _⟩ := h
    rfl
  obtain ⟨rfl, q⟩ := h
  have nd := sc_l_twos.nd
  refine ⟨_, (pss_cons (ps_set (i := 0) nd rfl (Or.inl rfl) (pe_lst pa_nil))
    (pss_cons (ps_for PassesOwn.never rfl (pi_range1 (by rfl) T.z_range (pa_cons pe_int pa_nil)) (pg_name (i := 1) nd rfl (Or.inl rfl)) (pss_one (ps_for PassesOwn.never rfl (pi_range2 (by rfl) T.z_range (pa_cons (pe_op op_add (pv 1) pe_int) (pa_cons pe_int pa_nil))) (pg_name (i := 2) nd rfl (Or.inl rfl)) (pss_one (ps_expr (pe_bm PySem.F.plainAttrs_list PySem.F.slot_list_append PySem.F.type_list_append mt_append (pv 0) (pa_cons (pe_tup (pa_cons (pv 1) (pa_cons (pv 2) pa_nil))) pa_nil)))))))
    (pss_one (ps_ret (pv 0))))), ?_⟩
  refine ⟨(by show 0 ≤ sizeLine; decide), fun p hp => ?_⟩
  refine ⟨6, rfl, by decide, by decide, for_range (lo := 0) (n := 6) (fun i σ' H' => (∃ a b, σ' = [some (.ref p), a, b]) ∧ TwoI H p (cnt i) H') ⟨⟨none, none, rfl⟩, Same.new hp, [], upd_same, rfl, fun k y hy => by cases hy⟩ ?_ ?_⟩
  · rintro i σ' H' hi ⟨⟨a, b, rfl⟩, hI⟩
    refine ⟨_, rfl, _, _, rfl, rfl, _, _, rfl, ⟨by omega, by omega, by decide, by decide⟩, for_range (lo := (0 + (i : Int) + 1)) (n := (6 - (0 + (i : Int) + 1)).toNat) (fun j σ' H' => (∃ b, σ' = [some (.ref p), some (.int (0 + (i : Int))), b]) ∧ TwoI H p (cnt i + j) H') ⟨⟨b, rfl⟩, hI⟩ ?_ ?_⟩
    · rintro j σ' H' hj ⟨⟨b, rfl⟩, hJ⟩
      have hj' : j < 5 - i := by omega
      obtain ⟨ts0, e1, _, _⟩ := hJ.ex
      refine ⟨_, rfl, .inl ⟨rfl, _, SqL.of e1⟩, _, rfl, _, rfl, (by show 2 ≤ sizeLine; decide), fun r hr' => ?_⟩
      have e4 : (0 : Int) + (i : Int) = (i : Nat) := by omega
      have e5 : (0 : Int) + (i : Int) + 1 + (j : Int) = ((i + 1 + j : Nat) : Int) := by omega
      obtain ⟨ts, g1, g2, hN⟩ := hJ.add (i := i) (j := i + 1 + j) hp hr' (pr_at i hi j hj')
      have hc : cnt i + j < 1000 := by
        have : ∀ i, i < 6 → cnt i ≤ 15 := by decide
        have := this i hi
        omega
      rw [← e4, ← e5] at g1 hN
      refine ⟨p, ts, _, rfl, rfl, g1, small1000 (by omega), ?_⟩
      exact ⟨⟨_, rfl⟩, hN⟩
    · rintro σ' H' ⟨⟨b, rfl⟩, hJ⟩
      have e : (6 - (0 + (i : Int) + 1)).toNat = 5 - i := by omega
      rw [e] at hJ
      exact ⟨⟨_, _, rfl⟩, hJ⟩
  · rintro σ' H' ⟨⟨a, b, rfl⟩, hI⟩
    obtain ⟨ts, e1, e2, e3⟩ := hI.ex
    exact ⟨_, rfl, q p ts H' hI.s e1 e2 e3⟩
def set2 (M : List (List Int)) (i j : Nat) (v : Int) : List (List Int) := M.set i ((M.getD i []).set j v)
def wmatN (ps : List Int) : Nat → List (List Int)
  | 0 => List.replicate 6 (List.replicate 6 0)
  | k + 1 => set2 (set2 (wmatN ps k) (PR.getD k (0, 0)).1 (PR.getD k (0, 0)).2 (ps.getD k 0)) (PR.getD k (0, 0)).2 (PR.getD k (0, 0)).1 (- ps.getD k 0)
def wmat (ps : List Int) : List (List Int) := wmatN ps 15
theorem set2_len (M : List (List Int)) (i j : Nat) (v : Int) : (set2 M i j v).length = M.length := by simp [set2]
theorem set2_row {w : Nat} {M : List (List Int)} (i j : Nat) (v : Int) (h : RowsW w M) : RowsW w (set2 M i j v) := fun row hr => by
  unfold set2 at hr
  rcases Nat.lt_or_ge i M.length with c | c
  · rcases List.mem_or_eq_of_mem_set hr with e | e
    · exact h row e
    · rw [e, List.length_set]
      exact h _ (getD_mem c)
  · rw [List.set_eq_of_length_le c] at hr
    exact h row hr
theorem wmatN_len (ps : List Int) : ∀ k, (wmatN ps k).length = 6
  | 0 => rfl
  | k + 1 => by rw [wmatN, set2_len, set2_len]; exact wmatN_len ps k
theorem wmatN_row (ps : List Int) : ∀ k, RowsW 6 (wmatN ps k)
  | 0 => fun row hr => by rw [(List.mem_replicate.mp hr).2]; rfl
  | k + 1 => set2_row _ _ _ (set2_row _ _ _ (wmatN_row ps k))
/-! ### the wedge of two ratios -/
def ct (x y : List Int) (i j : Nat) : Int := x.getD i 0 * y.getD j 0 - x.getD j 0 * y.getD i 0
def wedE (x y : List Int) : W2 := (PR.map fun p => ct x y p.1 p.2, (List.range 6).map fun i => (x.getD i 0 * y.getD i 0).fmod 2)
theorem wedE_ok (x y : List Int) : WOk (wedE x y) := ⟨by simp [wedE, PR], by simp [wedE], fun b hb => by
  obtain ⟨i, _, rfl⟩ := List.mem_map.mp hb
  exact bit_mod _⟩
theorem pr_lt {k i j : Nat} (h : PR[k]? = some (i, j)) : i < 6 ∧ j < 6 := by
  have : ∀ p ∈ PR, p.1 < 6 ∧ p.2 < 6 := by decide
  exact this _ (List.mem_of_getElem? h)
theorem getD_ex {u : List Int} (h : Ex (10 ^ 6) u) (i : Nat) : -(2 ^ 64) < u.getD i 0 ∧ u.getD i 0 < 2 ^ 64 := by
  rw [List.getD_eq_getElem?_getD]
  rcases Nat.lt_or_ge i u.length with c | c
  · rw [List.getElem?_eq_getElem c]
    have := h _ (List.getElem_mem c)
    show -(2 ^ 64) < u[i] ∧ u[i] < 2 ^ 64
    omega
  · rw [List.getElem?_eq_none c]
    decide
def spTwo (K : PySem.W.Frag) : Sp := fun vs H Q _ => ∃ (p r : Addr) (x y : List Int), vs = [.ref p, .ref r] ∧ TAt K H p x ∧ TAt K H r y ∧ Ex (10 ^ 6) x ∧ Ex (10 ^ 6) y ∧ ∀ t H', Same H H' → LW H' t (wedE x y) → Q (.ref t) H'
theorem ok_l_two (T : Tx K mg) : FnOk P w K mg base CX0 3 T.f_l_two T.d_l_two ["_law_x", "_law_y"] (spTwo K) := by
  have G_l_exponents := ok_l_exponents (P := P) (w := w) (base := base) T
  have G_l_twos := ok_l_twos (P := P) (w := w) (base := base) T
  refine T.F_l_two.ok sc_l_two (fun vs H Q E h => ?_) (fun cdv A outer s H vs Q E hr h => ?_)
  · obtain ⟨p, r, x, y, rfl, _⟩ := h
    rfl
  obtain ⟨p, r, x, y, rfl, hx, hy, xe, ye, q⟩ := h
  have nd := sc_l_two.nd
  refine ⟨_, (pss_cons (ps_asg (pe_tup (pa_cons (pe_call G_l_exponents hr (by rfl) T.m_l_exponents T.F_l_exponents.kp T.b_l_exponents .nil pass0 (pa_cons (pv 0) pa_nil)) (pa_cons (pe_call G_l_exponents hr (by rfl) T.m_l_exponents T.F_l_exponents.kp T.b_l_exponents .nil pass0 (pa_cons (pv 1) pa_nil)) pa_nil))) (pg_tup rfl (pgs_cons (pg_name (i := 2) nd rfl (Or.inr rfl)) (pgs_cons (pg_name (i := 3) nd rfl (Or.inr rfl)) pgs_nil))))
    (pss_one (ps_ret (pe_tup (pa_cons (pe_lc (own := [("_law_i", 4), ("_law_j", 5)]) (g := (gTup K 2 (gCons (gName 4) (gCons (gName 5) gNil)))) rfl nd (show PI _ _ _ (iList K _) from pi_list (pe_call0 G_l_twos (hr.mono (by decide)) (by rfl) T.m_l_twos T.F_l_twos.kp T.b_l_twos .nil pass0)) (blkOk_by (own := [("_law_i", 4), ("_law_j", 5)]) (N := N_l_two) (sc := defScope s_l_two) (by decide +kernel)) (fun _ _ _ _ _ => by exact (pg_tup rfl (pgs_cons (pg_name (i := 4) nd rfl (Or.inl rfl)) (pgs_cons (pg_name (i := 5) nd rfl (Or.inl rfl)) pgs_nil)))) (fun _ _ _ _ _ => by exact pts_nil) (fun _ _ _ _ _ => by exact (pe_op op_sub (pe_op op_mul (pe_ix (show IxR _ (rIxL K) from ix_list) (pv 2) (pv 4) (fun _ _ => rfl)) (pe_ix (show IxR _ (rIxL K) from ix_list) (pv 3) (pv 5) (fun _ _ => rfl))) (pe_op op_mul (pe_ix (show IxR _ (rIxL K) from ix_list) (pv 2) (pv 5) (fun _ _ => rfl)) (pe_ix (show IxR _ (rIxL K) from ix_list) (pv 3) (pv 4) (fun _ _ => rfl)))))) (pa_cons (pe_lc (own := [("_law_i", 4)]) (g := (gName 4)) rfl nd (pi_range1 (by rfl) T.z_range (pa_cons pe_int pa_nil)) (blkOk_by (own := [("_law_i", 4)]) (N := N_l_two) (sc := defScope s_l_two) (by decide +kernel)) (fun _ _ _ _ _ => by exact (pg_name (i := 4) nd rfl (Or.inl rfl))) (fun _ _ _ _ _ => by exact pts_nil) (fun _ _ _ _ _ => by exact (pe_op op_and (pe_op op_mul (pe_ix (show IxR _ (rIxL K) from ix_list) (pv 2) (pv 4) (fun _ _ => rfl)) (pe_ix (show IxR _ (rIxL K) from ix_list) (pv 3) (pv 4) (fun _ _ => rfl))) pe_int))) pa_nil)))))), ?_⟩
  refine ⟨_, rfl, p, x, rfl, hx, fun ta H1 s1 h1 => ⟨_, rfl, r, y, rfl, hy.same s1, fun tb H2 s2 h2 => ⟨(by show 2 ≤ sizeLine; decide), fun t ht => ?_⟩⟩⟩
  have st := Same.new (o := .tup [.ref ta, .ref tb]) ht
  refine ⟨t, _, rfl, SqT.of upd_same, rfl, _, _, rfl, _, _, rfl, rfl, ?_⟩
  have ha := st _ _ (s2 _ _ h1)
  have hb := st _ _ h2
  have s12 := (s1.trans s2).trans st
  generalize upd H2 t (.tup [.ref ta, .ref tb]) = H3 at *
  clear h1 h2 s1 s2 st ht
  refine ⟨rfl, fun tt ts H4 s4 htt hlen hts => ⟨tt, rfl, ⟨_, SqL.of htt⟩, fun D hD => ?_⟩⟩
  have mu : ∀ {u : List Int} (v : Int) (i : Nat), Ex (10 ^ 6) u → CMul (u.getD i 0) v := fun {u} v i hu => .inl (getD_ex hu i)
  have ixz : ∀ {a : Addr} {z : List Int} {H : Hp} (i : Nat), H a = some (.lst (z.map V.int)) → z.length = 6 → i < 6 → atI (z.map V.int) (i : Int) = some (.int (z.getD i 0)) := fun {a z H} i h hl hi => at_of (j := i) rfl (getD_map (by omega))
  refine lcm (walk_list (K := K) (a := tt) (xs := ts)) ((PR.map fun p => ct x y p.1 p.2).map V.int) (by rw [hlen]; rfl) (by omega) hD (fun H' s' => SqL.of (s' _ _ htt)) ?_ ?_
  · rintro k yv xv H5 H6 hi hy' s5 ⟨rfl, hxv⟩ kk hk
    obtain ⟨q0, i, j, rfl, hP, hq⟩ := (hts k xv hxv)
    have hq5 := s5 _ _ hq
    have b6 := pr_lt hP
    rw [List.getElem?_map, List.getElem?_map, hP] at hy'
    obtain rfl := Option.some.inj hy'
    have ha5 := s5 _ _ (s4 _ _ ha)
    have hb5 := s5 _ _ (s4 _ _ hb)
    refine ⟨q0, [.int (i : Int), .int (j : Int)], rfl, SqT.of hq5, rfl, _, _, rfl, _, _, rfl, rfl, ?_⟩
    refine ⟨rfl, ?_⟩
    refine ⟨_, rfl, _, rfl, _, _, _, _, rfl, rfl, SqL.of ha5, ixz i ha5 hx.len b6.1, _, rfl, _, rfl, _, _, _, _, rfl, rfl, SqL.of hb5, ixz j hb5 hy.len b6.2, _, _, rfl, rfl, mu _ i xe, ?_⟩
    refine ⟨_, rfl, _, rfl, _, _, _, _, rfl, rfl, SqL.of ha5, ixz j ha5 hx.len b6.2, _, rfl, _, rfl, _, _, _, _, rfl, rfl, SqL.of hb5, ixz i hb5 hy.len b6.1, _, _, rfl, rfl, mu _ j xe, _, _, rfl, rfl, hk _ (Same.refl _)⟩
  · intro H5 s5 hD5
    refine ⟨6, rfl, by decide, by decide, fun D2 hD2 => ?_⟩
    refine lcm (walk_range (lo := 0) (n := 6)) (((List.range 6).map fun i => (x.getD i 0 * y.getD i 0).fmod 2).map V.int) (by simp) (by decide) hD2 (fun H' s' => trivial) ?_ ?_
    · rintro i yv xv H6 H7 hi hy' s6 ⟨rfl, rfl⟩ kk hk
      have e0 : (0 : Int) + (i : Int) = (i : Int) := by omega
      rw [List.getElem?_map, List.getElem?_map, List.getElem?_range hi] at hy'
      obtain rfl := Option.some.inj hy'
      have ha6 := s6 _ _ (s5 _ _ (s4 _ _ ha))
      have hb6 := s6 _ _ (s5 _ _ (s4 _ _ hb))
      refine ⟨rfl, ?_⟩
      refine ⟨_, rfl, _, rfl, _, _, _, _, rfl, rfl, SqL.of ha6, (by rw [e0]; exact ixz i ha6 hx.len hi), _, rfl, _, rfl, _, _, _, _, rfl, rfl, SqL.of hb6, (by rw [e0]; exact ixz i hb6 hy.len hi), _, _, rfl, rfl, mu _ i xe, _, _, rfl, rfl, ?_⟩
      show kk (.int (Builtin.bitAnd (x.getD i 0 * y.getD i 0) 1)) _
      rw [and1]
      exact hk _ (Same.refl _)
    · intro H7 s7 hD7
      exact LW.mk2 (wd := wedE x y) (wedE_ok x y) (s7 _ _ hD5) hD7 fun t H' s3 ht => q t H' ((((s12.trans s4).trans s5).trans s7).trans s3) ht
end
end TL.W
namespace TL
/-! ### the rank of the table of two vectors -/
theorem pluecker (af ac ar aq bf bc br bq : Int) : (af * bc - ac * bf) * (ar * bq - aq * br) - (ar * bc - ac * br) * (af * bq - aq * bf) = (af * br - ar * bf) * (ac * bq - aq * bc) := by
  simp only [Int.mul_sub, Int.sub_mul, Int.mul_assoc, Int.mul_comm, Int.mul_left_comm]
  omega
theorem ffrom_none {M : List (List Int)} {c : Nat} : ∀ {n i : Nat}, ffrom M c i n = none → ∀ j, i ≤ j → j < i + n → (M.getD j []).getD c 0 = 0
  | 0, i, _, j, h1, h2 => by omega
  | n + 1, i, h, j, h1, h2 => by
    unfold ffrom at h
    split at h
    · cases h
    · rename_i hc
      rcases Nat.eq_or_lt_of_le h1 with e | e
      · subst e
        exact Decidable.not_not.mp hc
      · exact ffrom_none h j e (by omega)
theorem ffrom_zero2 {M : List (List Int)} {c : Nat} : ∀ {n i : Nat}, (∀ j, i ≤ j → j < i + n → (M.getD j []).getD c 0 = 0) → ffrom M c i n = none
  | 0, i, _ => by cases i <;> rfl
  | n + 1, i, h => by
    unfold ffrom
    rw [if_neg (by rw [h i (Nat.le_refl _) (by omega)]; decide)]
    exact ffrom_zero2 fun j h1 h2 => h j (by omega) (by omega)
/-- the table of two vectors, as six lists -/
def ctM (g : Nat → Nat → Int) : List (List Int) := (List.range 6).map fun p => (List.range 6).map fun q => g p q
theorem ctM_at {g : Nat → Nat → Int} {p : Nat} (h : p < 6) : (ctM g)[p]? = some ((List.range 6).map fun q => g p q) := by
  unfold ctM
  rw [List.getElem?_map, List.getElem?_range h]
  rfl
theorem row_at {f : Nat → Int} {q : Nat} (h : q < 6) : ((List.range 6).map f).getD q 0 = f q := by
  rw [List.getD_eq_getElem?_getD, List.getElem?_map, List.getElem?_range h]
  rfl
theorem zip_rows (F : Int → Int → Int) (f g : Nat → Int) : List.zipWith F ((List.range 6).map f) ((List.range 6).map g) = (List.range 6).map fun q => F (f q) (g q) := by
  apply List.ext_getElem
  · simp
  · intro i h1 h2
    simp
structure S0 (g : Nat → Nat → Int) (c : Nat) (s : CSt) : Prop where
  eq : s = (ctM g, 0, 1, 1)
  z : ∀ j, j < c → ∀ i, i < 6 → g i j = 0
structure S1 (c : Nat) (s : CSt) : Prop where
  len : s.1.length = 6
  rk : s.2.1 = 1
  ex : ∃ (k : Nat → Int) (w : Nat → Int), (∀ i, 1 ≤ i → i < 6 → s.1[i]? = some ((List.range 6).map fun q => k i * w q)) ∧ (∃ i, 1 ≤ i ∧ i < 6 ∧ k i ≠ 0) ∧ ∃ q, c ≤ q ∧ q < 6 ∧ w q ≠ 0
structure S2 (s : CSt) : Prop where
  len : s.1.length = 6
  rk : s.2.1 = 2
  z : ∀ i, 2 ≤ i → i < 6 → s.1[i]? = some ((List.range 6).map fun _ => (0 : Int))
theorem S2.step {c : Nat} {s : CSt} (h : S2 s) : S2 (stepC c s) := by
  have : stepC c s = s := by
    unfold stepC
    rw [ffrom_zero2]
    intro j h1 h2
    rw [h.len, h.rk] at h2
    rw [h.rk] at h1
    rw [getD_of (h.z j h1 (by omega)), List.getD_eq_getElem?_getD, List.getElem?_map]
    cases (List.range 6)[c]? <;> rfl
  rw [this]
  exact h
theorem fdiv_zero' (a : Int) : (0 : Int).fdiv a = 0 := by simp
theorem S1.step {c : Nat} {s : CSt} (hc : c < 6) (h : S1 c s) : S1 (c + 1) (stepC c s) ∨ S2 (stepC c s) := by
  obtain ⟨M, r, sg, last⟩ := s
  obtain ⟨hl, hr, k, w, h1, ⟨i0, i1, i2, i3⟩, q0, q1, q2, q3⟩ := h
  dsimp only at hl hr h1
  subst hr
  unfold stepC
  dsimp only
  split
  · rename_i hf
    left
    refine ⟨hl, rfl, k, w, h1, ⟨i0, i1, i2, i3⟩, q0, ?_, q2, q3⟩
    have := ffrom_none hf i0 i1 (by omega)
    rw [getD_of (h1 i0 i1 i2), row_at hc] at this
    rcases Int.mul_eq_zero.mp this with e | e
    · exact absurd e i3
    · rcases Nat.eq_or_lt_of_le q1 with e2 | e2
      · subst e2
        exact absurd e q3
      · exact e2
  · rename_i f hf
    right
    obtain ⟨f1, f2, f3⟩ := ffrom_some hf
    have f6 : f < 6 := by omega
    have hp : (pivM M 1 f).getD 1 [] = M.getD f [] := getD_of (piv_at (by omega) (by omega))
    have hh : M.getD f [] = (List.range 6).map fun q => k f * w q := getD_of (h1 f f1 f6)
    refine ⟨by dsimp only; rw [len_red, len_piv]; exact hl, rfl, fun i hi hi6 => ?_⟩
    dsimp only
    have hrow : ∃ κ : Int, (pivM M 1 f)[i]? = some ((List.range 6).map fun q => κ * w q) := by
      unfold pivM
      split
      · exact ⟨k i, h1 i (by omega) hi6⟩
      · unfold swapR
        by_cases e : f = i
        · subst e
          rw [List.getElem?_set_self (by rw [List.length_set]; omega)]
          exact ⟨k 1, by rw [getD_of (h1 1 (by decide) (by decide))]⟩
        · rw [List.getElem?_set_ne e, List.getElem?_set_ne (by omega)]
          exact ⟨k i, h1 i (by omega) hi6⟩
    obtain ⟨κ, hκ⟩ := hrow
    rw [red_at, hκ, Option.map_some, if_pos ⟨by omega, by rw [len_piv]; omega⟩, hp, hh]
    unfold redRow
    rw [zip_rows, row_at hc, row_at hc]
    refine congrArg some (List.map_congr_left fun q _ => ?_)
    have e : k f * w c * (κ * w q) - κ * w c * (k f * w q) = 0 := by
      have : k f * w c * (κ * w q) = κ * w c * (k f * w q) := by ac_rfl
      omega
    rw [e]
    exact fdiv_zero' _
def gg (a b : Nat → Int) (i j : Nat) : Int := a i * b j - a j * b i
theorem gg_neg (a b : Nat → Int) (i j : Nat) : gg a b j i = - gg a b i j := by
  unfold gg
  omega
theorem gg_self (a b : Nat → Int) (i : Nat) : gg a b i i = 0 := by
  unfold gg
  omega
theorem S0.step {a b : Nat → Int} {c : Nat} {s : CSt} (hc : c < 6) (h : S0 (gg a b) c s) : S0 (gg a b) (c + 1) (stepC c s) ∨ S1 (c + 1) (stepC c s) := by
  obtain ⟨rfl, hz⟩ := h
  have hl : (ctM (gg a b)).length = 6 := by simp [ctM]
  have cell : ∀ i, i < 6 → ((ctM (gg a b)).getD i []).getD c 0 = gg a b i c := fun i hi => by rw [getD_of (ctM_at hi), row_at hc]
  unfold stepC
  dsimp only
  rw [hl]
  split
  · rename_i hf
    left
    refine ⟨rfl, fun j hj i hi => ?_⟩
    rcases Nat.eq_or_lt_of_le (Nat.le_of_lt_succ hj) with e | e
    · subst e
      have := ffrom_none hf i (Nat.zero_le _) (by omega)
      rw [cell i hi] at this
      exact this
    · exact hz j e i hi
  · rename_i f hf
    right
    obtain ⟨_, f2, f3⟩ := ffrom_some hf
    have f6 : f < 6 := by omega
    rw [cell f f6] at f3
    have fc : c < f := by
      rcases Nat.lt_trichotomy f c with e | e | e
      · have := hz f e c hc
        rw [gg_neg] at f3
        omega
      · subst e
        exact absurd (gg_self a b f) f3
      · exact e
    have f0 : f ≠ 0 := by omega
    have hp : (pivM (ctM (gg a b)) 0 f).getD 0 [] = (List.range 6).map fun q => gg a b f q := by
      rw [getD_of (piv_at (by omega) (by omega)), getD_of (ctM_at f6)]
    refine ⟨by dsimp only; rw [len_red, len_piv]; exact hl, rfl, fun i => gg a b f (if i = f then 0 else i), fun q => gg a b c q, fun i hi hi6 => ?_, ?_, f, by omega, f6, by dsimp only; rw [gg_neg]; omega⟩
    · dsimp only
      have hrow : (pivM (ctM (gg a b)) 0 f)[i]? = some ((List.range 6).map fun q => gg a b (if i = f then 0 else i) q) := by
        unfold pivM
        rw [if_neg f0]
        unfold swapR
        by_cases e : i = f
        · subst e
          rw [List.getElem?_set_self (by rw [List.length_set]; omega), if_pos rfl, getD_of (ctM_at (by decide))]
        · rw [List.getElem?_set_ne (Ne.symm e), List.getElem?_set_ne (by omega), if_neg e, ctM_at hi6]
      rw [red_at, hrow, Option.map_some, if_pos ⟨by omega, by rw [len_piv]; omega⟩, hp]
      unfold redRow
      rw [zip_rows, row_at hc, row_at hc]
      refine congrArg some (List.map_congr_left fun q _ => ?_)
      rw [Int.fdiv_one]
      exact pluecker ..
    · rcases Nat.eq_zero_or_pos c with e | e
      · exact ⟨f, by omega, f6, by dsimp only; rw [if_pos rfl, ← e]; exact f3⟩
      · exact ⟨c, e, hc, by dsimp only; rw [if_neg (by omega)]; exact f3⟩
theorem states (a b : Nat → Int) : ∀ c, c ≤ 6 → S0 (gg a b) c (clrN (ctM (gg a b)) c) ∨ S1 c (clrN (ctM (gg a b)) c) ∨ S2 (clrN (ctM (gg a b)) c)
  | 0, _ => .inl ⟨rfl, fun j h => absurd h (Nat.not_lt_zero _)⟩
  | c + 1, h => by
    show _ ∨ S1 (c + 1) (stepC c _) ∨ S2 (stepC c _)
    rcases states a b c (by omega) with e | e | e
    · rcases e.step (by omega) with z | z
      · exact .inl z
      · exact .inr (.inl z)
    · exact .inr (e.step (by omega))
    · exact .inr (.inr e.step)
theorem clr_none {g : Nat → Nat → Int} (h : ∀ i j, i < 6 → j < 6 → g i j = 0) : ∀ c, c ≤ 6 → clrN (ctM g) c = (ctM g, 0, 1, 1)
  | 0, _ => rfl
  | c + 1, hc => by
    have hl : (ctM g).length = 6 := by simp [ctM]
    show stepC c (clrN (ctM g) c) = _
    rw [clr_none h c (by omega)]
    unfold stepC
    dsimp only
    rw [ffrom_zero2]
    intro j h1 h2
    rw [hl] at h2
    rw [getD_of (ctM_at (by omega)), row_at (by omega)]
    exact h j c (by omega) (by omega)
theorem ctM_width (g : Nat → Nat → Int) : widthOf (ctM g) = 6 := by simp [widthOf, ctM]
theorem rank_zero {g : Nat → Nat → Int} (h : ∀ i j, i < 6 → j < 6 → g i j = 0) : clrRank (ctM g) = 0 := by
  unfold clrRank
  rw [ctM_width, clr_none h 6 (Nat.le_refl _)]
theorem rank_two {a b : Nat → Int} (h : ¬ ∀ i j, i < 6 → j < 6 → gg a b i j = 0) : clrRank (ctM (gg a b)) = 2 := by
  unfold clrRank
  rw [ctM_width]
  rcases states a b 6 (Nat.le_refl _) with e | e | e
  · exact absurd (fun i j hi hj => e.z j hj i hi) h
  · obtain ⟨_, _, _, q, q1, q2, _⟩ := e.ex
    omega
  · exact e.rk
end TL
namespace TL.W
open TL
open PySem L2

/-! ### steps of a reading -/
local macro_rules | `(tactic| walk_at "hp") => `(tactic| first | assumption | exact upd_same | (refine (upd_ne (by first | assumption | (exact Ne.symm (by assumption)))).trans ?_; walk_at "hp"))
local macro_rules | `(tactic| walk_at "ok") => `(tactic| first | (exact Or.inr ⟨by decide, by decide⟩) | (exact ⟨by decide, by decide⟩) | (exact ⟨by decide, by decide, by decide⟩) | (show _ ≠ _; omega) | (show _ ≠ _; decide) | (exact Or.inl ⟨by omega, by omega⟩) | decide)
local macro_rules | `(tactic| walk_at "sq") => `(tactic| first | assumption | exact SqL.of (by walk_at "hp") | exact SqT.of (by walk_at "hp"))
local macro_rules | `(tactic| walk_at "ty") => `(tactic| first | refine ⟨_, _, Value.type "int", Value.type "list", false, rfl, ClsV.ty _, TyX.base (TyOf.int _), kt_int_list, ?_⟩ | refine ⟨_, _, Value.type "bool", Value.type "list", false, rfl, ClsV.ty _, TyX.base (TyOf.bl _), kt_bool_list, ?_⟩ | refine ⟨_, _, Value.type "str", Value.type "list", false, rfl, ClsV.ty _, TyX.base (TyOf.str _), kt_str_list, ?_⟩ | refine ⟨_, _, Value.type "NoneType", Value.type "list", false, rfl, ClsV.ty _, TyX.base TyOf.non, kt_NoneType_list, ?_⟩ | refine ⟨_, _, Value.type "list", Value.type "list", true, rfl, ClsV.ty _, tyx_L (by walk_at "sq"), kt_list_list, ?_⟩ | refine ⟨_, _, Value.type "tuple", Value.type "list", false, rfl, ClsV.ty _, tyx_T (by walk_at "sq"), kt_tuple_list, ?_⟩ | refine ⟨_, _, Value.type "int", Value.type "tuple", false, rfl, ClsV.ty _, TyX.base (TyOf.int _), kt_int_tuple, ?_⟩ | refine ⟨_, _, Value.type "bool", Value.type "tuple", false, rfl, ClsV.ty _, TyX.base (TyOf.bl _), kt_bool_tuple, ?_⟩ | refine ⟨_, _, Value.type "str", Value.type "tuple", false, rfl, ClsV.ty _, TyX.base (TyOf.str _), kt_str_tuple, ?_⟩ | refine ⟨_, _, Value.type "NoneType", Value.type "tuple", false, rfl, ClsV.ty _, TyX.base TyOf.non, kt_NoneType_tuple, ?_⟩ | refine ⟨_, _, Value.type "list", Value.type "tuple", false, rfl, ClsV.ty _, tyx_L (by walk_at "sq"), kt_list_tuple, ?_⟩ | refine ⟨_, _, Value.type "tuple", Value.type "tuple", true, rfl, ClsV.ty _, tyx_T (by walk_at "sq"), kt_tuple_tuple, ?_⟩ | refine ⟨_, _, Value.type "int", Value.type "bool", false, rfl, ClsV.ty _, TyX.base (TyOf.int _), kt_int_bool, ?_⟩ | refine ⟨_, _, Value.type "bool", Value.type "bool", true, rfl, ClsV.ty _, TyX.base (TyOf.bl _), kt_bool_bool, ?_⟩ | refine ⟨_, _, Value.type "str", Value.type "bool", false, rfl, ClsV.ty _, TyX.base (TyOf.str _), kt_str_bool, ?_⟩ | refine ⟨_, _, Value.type "NoneType", Value.type "bool", false, rfl, ClsV.ty _, TyX.base TyOf.non, kt_NoneType_bool, ?_⟩ | refine ⟨_, _, Value.type "list", Value.type "bool", false, rfl, ClsV.ty _, tyx_L (by walk_at "sq"), kt_list_bool, ?_⟩ | refine ⟨_, _, Value.type "tuple", Value.type "bool", false, rfl, ClsV.ty _, tyx_T (by walk_at "sq"), kt_tuple_bool, ?_⟩ | refine ⟨_, _, Value.type "int", Value.type "int", true, rfl, ClsV.ty _, TyX.base (TyOf.int _), kt_int_int, ?_⟩ | refine ⟨_, _, Value.type "bool", Value.type "int", true, rfl, ClsV.ty _, TyX.base (TyOf.bl _), kt_bool_int, ?_⟩ | refine ⟨_, _, Value.type "str", Value.type "int", false, rfl, ClsV.ty _, TyX.base (TyOf.str _), kt_str_int, ?_⟩ | refine ⟨_, _, Value.type "NoneType", Value.type "int", false, rfl, ClsV.ty _, TyX.base TyOf.non, kt_NoneType_int, ?_⟩ | refine ⟨_, _, Value.type "list", Value.type "int", false, rfl, ClsV.ty _, tyx_L (by walk_at "sq"), kt_list_int, ?_⟩ | refine ⟨_, _, Value.type "tuple", Value.type "int", false, rfl, ClsV.ty _, tyx_T (by walk_at "sq"), kt_tuple_int, ?_⟩ | refine ⟨_, _, Value.type "int", Value.type "str", false, rfl, ClsV.ty _, TyX.base (TyOf.int _), kt_int_str, ?_⟩ | refine ⟨_, _, Value.type "bool", Value.type "str", false, rfl, ClsV.ty _, TyX.base (TyOf.bl _), kt_bool_str, ?_⟩ | refine ⟨_, _, Value.type "str", Value.type "str", true, rfl, ClsV.ty _, TyX.base (TyOf.str _), kt_str_str, ?_⟩ | refine ⟨_, _, Value.type "NoneType", Value.type "str", false, rfl, ClsV.ty _, TyX.base TyOf.non, kt_NoneType_str, ?_⟩ | refine ⟨_, _, Value.type "list", Value.type "str", false, rfl, ClsV.ty _, tyx_L (by walk_at "sq"), kt_list_str, ?_⟩ | refine ⟨_, _, Value.type "tuple", Value.type "str", false, rfl, ClsV.ty _, tyx_T (by walk_at "sq"), kt_tuple_str, ?_⟩)
local macro_rules | `(tactic| walk_at "go1") => `(tactic| first
  | (refine ⟨_, rfl, ?_⟩)
  | (refine ⟨_, _, rfl, rfl, ?_⟩)
  | (refine ⟨_, _, _, _, rfl, rfl, SqL.of (by walk_at "hp"), rfl, ?_⟩)
  | (refine Or.inl ⟨_, rfl, ?_⟩)
  | (refine ⟨rfl, ?_⟩)
  | (refine ⟨_, _, rfl, .inl (SqL.of (by walk_at "hp")), ?_⟩)
  | (refine ⟨_, _, rfl, Or.inl (by assumption), ?_⟩)
  | (refine ⟨_, _, rfl, Or.inr (by assumption), ?_⟩)
  | (refine ⟨(by walk_at "ok"), ?_⟩)
  | (refine ⟨_, _, _, _, rfl, rfl, (by walk_at "hp"), rfl, ?_⟩))
local macro_rules | `(tactic| walk_at "go") => `(tactic| repeat (walk_at "go1"))
local macro_rules | `(tactic| walk_at "gt") => `(tactic| repeat (first | walk_at "go1" | walk_at "ty"))

section
variable {P : Program} {w : World} {K : PySem.W.Frag} {mg : Str → Option Value} {base : Heap}
-- [0=self, 1=matrix, 2=p, 3=q, 4=number, 5=_]
def spMatrix (K : PySem.W.Frag) (C : Addr) : Sp := fun vs H Q _ => ∃ (p : Addr) (x : W2), vs = [.ref p] ∧ WAt K C H p x ∧ ∀ t H', Same H H' → Mat H' t (wmat x.1) → Q (.ref t) H'
theorem ok_matrix (T : Tx K mg) : FnOk P w K mg base CX0 1 T.f_Wedge_matrix T.d_Wedge_matrix ["self"] (spMatrix K T.C_Wedge) := by
  refine T.F_Wedge_matrix.ok sc_Wedge_matrix (fun vs H Q E h => ?_) (fun cdv A outer s H vs Q E hr h => ?_)
  · obtain ⟨p, x, rfl, _⟩ := h
    rfl
  obtain ⟨p, x, rfl, ⟨⟨dx, t1, t2, e1, e2, e3⟩, ox⟩, q⟩ := h
  have nd := sc_Wedge_matrix.nd
  refine ⟨_, (pss_cons (ps_setLc (i := 1) (own := [("_", 5)]) (g := (gName 5)) rfl nd rfl rfl (sw_true rfl rfl rfl (by decide +kernel)) (show PI _ _ _ (iTup K _) from pi_tup (pe_glob (v := .ref T.e_PRIMES) (by rfl) T.m_PRIMES rfl)) (blkOk_by (own := [("_", 5)]) (N := N_Wedge_matrix) (sc := defScope s_Wedge_matrix) (by decide +kernel)) (fun _ _ _ _ _ => by exact (pg_name (i := 5) nd rfl (Or.inl rfl))) (fun _ _ _ _ _ => by exact pts_nil) (fun _ _ _ _ _ => by exact (pe_lst (pa_cons pe_int (pa_cons pe_int (pa_cons pe_int (pa_cons pe_int (pa_cons pe_int (pa_cons pe_int pa_nil)))))))))
    (pss_cons (ps_for PassesOwn.never rfl (show PI _ _ _ (RZ.iZipA K _) from RZ.pi_zipA (by rfl) T.z_zip (pa_cons (pe_glob (v := .ref T.e_PAIRS) (by rfl) T.m_PAIRS rfl) (pa_cons (show PE _ _ (tFld K _ _) from pe_fld (pv 0) rfl) pa_nil))) (pg_tup rfl (pgs_cons (pg_tup rfl (pgs_cons (pg_name (i := 2) nd rfl (Or.inl rfl)) (pgs_cons (pg_name (i := 3) nd rfl (Or.inl rfl)) pgs_nil))) (pgs_cons (pg_name (i := 4) nd rfl (Or.inl rfl)) pgs_nil))) (pss_cons (ps_asg (pv 4) (pg_sub (show PE _ _ (tOp (rIxL K) _ _) from (pe_ix ix_list (pv 1) (pv 2) (fun _ _ => rfl))) (pv 3) set_list))
    (pss_one (ps_asg (pe_un un_neg (pv 4)) (pg_sub (pe_ix (show IxR _ (rIxL K) from ix_list) (pv 1) (pv 3) (fun _ _ => rfl)) (pv 2) set_list)))))
    (pss_one (ps_ret (pv 1))))), ?_⟩
  refine ⟨T.e_PRIMES, rfl, ⟨_, T.q_PRIMES _⟩, fun D hD => ?_⟩
  refine lcsN (walk_tup (K := K) (a := T.e_PRIMES) (xs := [.int 2, .int 3, .int 5, .int 7, .int 11, .int 13])) (fun i y H' => ∃ t, y = V.ref t ∧ t ≠ D ∧ H t = none ∧ H' t = some (.lst ((List.replicate 6 (0 : Int)).map V.int))) (fun i y H1 H2 s1 ⟨t, a1, a0, af, a3⟩ => ⟨t, a1, a0, af, s1 _ _ a3⟩)
    (fun i y H1 zs zs' hz' ⟨t, a1, a0, af, a3⟩ => ⟨t, a1, a0, af, by rw [upd_ne a0]; exact a3⟩) (fun i y H1 ⟨t, a1, a0, af, a3⟩ => ⟨t, _, a1, a3⟩) (by decide) hD (fun H1 s1 => T.q_PRIMES _) ?_ fun ys H1 hl hnd hys s1 hD1 => ?_
  · rintro i x H1 H2 hi s1 ⟨zs, hz⟩ ⟨rfl, hx⟩ k hk
    refine ⟨rfl, (by show 6 ≤ sizeLine; decide), fun p2 hp2 => hk _ _ (Same.new hp2) ⟨p2, rfl, (ne_of_none hz hp2).symm, s1.free hp2, upd_same⟩ ⟨p2, rfl, hp2⟩⟩
  have m0 : MatL H1 ys (wmatN x.1 0) := ⟨hl, fun i r hr => by
    obtain ⟨t, a1, a0, af, a3⟩ := hys i r hr
    have hi : i < 6 := by
      have := (List.getElem?_eq_some_iff.mp hr).1
      rw [hl] at this
      exact this
    exact ⟨t, _, a1, by show (List.replicate 6 (List.replicate 6 (0 : Int)))[i]? = some (List.replicate 6 (0 : Int)); rw [List.getElem?_replicate, if_pos hi], a3⟩⟩
  have hfr : ∀ (i : Nat) t, ys[i]? = some (V.ref t) → H t = none ∧ t ≠ D := fun i r hr => by
    obtain ⟨t, a1, a0, af, a3⟩ := hys i _ hr
    cases a1
    exact ⟨af, a0⟩
  clear hys
  obtain ⟨as, has, hP, hPP⟩ := T.p_PAIRS
  refine ⟨_, rfl, p, _, _, _, _, rfl, s1 _ _ e1, T.c_Wedge, T.n_Wedge_pairs, wf_p _ _, T.e_PAIRS, t1, _, _, rfl, .inr ⟨hP _, seqT s1 e2, for_it (walk_zipT (n := 15) (by rw [List.length_map, List.length_map, has, ox.l1]; rfl)) (fun i σ H' => Same H H' ∧ (∃ a2 a3 a4, σ = [some (.ref p), some (.ref D), a2, a3, a4, none]) ∧ H' D = some (.lst ys) ∧ MatL H' ys (wmatN x.1 i)) ⟨s1, ⟨_, _, _, rfl⟩, hD1, m0⟩ (fun i σ H' _ h => ⟨hP _, seqT h.1 e2⟩) ?_ ?_⟩⟩
  · rintro i v σ H2 H3 hi ⟨s2, ⟨a2, a3, a4, rfl⟩, hD2, m2⟩ ⟨tt, u, z, rfl, htt, rfl, hu, hz⟩
    replace hu : (as.map V.ref)[i]? = some u := hu
    replace hz : (x.1.map V.int)[i]? = some z := hz
    rw [List.getElem?_map] at hu hz
    obtain ⟨a, ha, rfl⟩ := Option.map_eq_some_iff.mp hu
    obtain ⟨n, hn, rfl⟩ := Option.map_eq_some_iff.mp hz
    obtain ⟨pi, qi, hpr, hsq⟩ := hPP i a ha
    have b6 := pr_lt hpr
    have st := Same.new (o := .tup [V.ref a, V.int n]) htt
    have hD3 := st _ _ hD2
    have m3 := m2.same st
    have s3 := s2.trans st
    refine ⟨tt, _, rfl, SqT.of upd_same, rfl, _, _, rfl, ⟨a, _, rfl, hsq _, rfl, _, _, rfl, _, _, rfl, rfl, _, _, rfl, rfl, ?_⟩⟩
    generalize upd H2 tt (.tup [.ref a, .int n]) = H4 at *
    have len6 : ∀ k, (wmatN x.1 k).length = 6 := wmatN_len x.1
    obtain ⟨tp, gp, gp2⟩ := m3.at (i := pi) (by rw [len6]; exact b6.1)
    have wl := wmatN_row x.1 i
    have rowp := wl _ (getD_mem (i := pi) (by rw [len6]; exact b6.1))
    refine ⟨_, rfl, _, rfl, _, rfl, _, _, _, _, rfl, rfl, SqL.of hD3, at_of (j := pi) rfl gp, _, rfl, tp, _, _, qi, rfl, rfl, gp2, ixN_at (by rw [List.length_map, rowp]; exact b6.2), ?_⟩
    have em : ∀ (r : List Int) (k : Nat) (v : Int), (r.map V.int).set k (V.int v) = (r.set k v).map V.int := fun r k v => (List.map_set ..).symm
    rw [em]
    have nD := (hfr pi tp gp).2
    have m4 := m3.put hnd (row := ((wmatN x.1 i).getD pi []).set qi n) gp
    have s4 := s3.upd_new (o := .lst ((((wmatN x.1 i).getD pi []).set qi n).map V.int)) (hfr pi tp gp).1
    have hD4 : upd H4 tp (.lst ((((wmatN x.1 i).getD pi []).set qi n).map V.int)) D = some (.lst ys) := by rw [upd_ne nD.symm]; exact hD3
    have e4 : (wmatN x.1 i).set pi (((wmatN x.1 i).getD pi []).set qi n) = set2 (wmatN x.1 i) pi qi n := rfl
    rw [e4] at m4
    have wl4 := set2_row pi qi n wl
    have ln4 : (set2 (wmatN x.1 i) pi qi n).length = 6 := by rw [set2_len, len6]
    generalize upd H4 tp (.lst ((((wmatN x.1 i).getD pi []).set qi n).map V.int)) = H5 at *
    have efin : wmatN x.1 (i + 1) = set2 (set2 (wmatN x.1 i) pi qi n) qi pi (-n) := by
      rw [wmatN, List.getD_eq_getElem?_getD, hpr, List.getD_eq_getElem?_getD, hn]
      rfl
    rw [efin]
    generalize set2 (wmatN x.1 i) pi qi n = M4 at *
    obtain ⟨tq, gq, gq2⟩ := m4.at (i := qi) (by rw [ln4]; exact b6.2)
    have rowq := wl4 _ (getD_mem (i := qi) (by rw [ln4]; exact b6.2))
    refine ⟨_, rfl, _, rfl, _, rfl, _, rfl, _, _, _, _, rfl, rfl, SqL.of hD4, at_of (j := qi) rfl gq, _, rfl, tq, _, _, pi, rfl, rfl, gq2, ixN_at (by rw [List.length_map, rowq]; exact b6.1), ?_⟩
    rw [em]
    refine ⟨s4.upd_new (hfr qi tq gq).1, ⟨_, _, _, rfl⟩, by rw [upd_ne (hfr qi tq gq).2.symm]; exact hD4, ?_⟩
    exact m4.put hnd gq
  · rintro σ H2 ⟨s2, ⟨a2, a3, a4, rfl⟩, hD2, m2⟩
    exact ⟨_, rfl, q D H2 s2 ⟨ys, hD2, m2⟩⟩
-- [0=matrix*, 1=pairs, 2=p, 3=q]
-- [0=u, 1=v*, 2=one, 3=two]
def prodW (M : List (List Int)) : W2 := (PR.map fun p => (M.getD p.1 []).getD p.2 0 - (M.getD p.2 []).getD p.1 0, (List.range 6).map fun i => ((M.getD i []).getD i 0).fmod 2)
theorem prodW_ok (M : List (List Int)) : WOk (prodW M) := ⟨by simp [prodW, PR], by simp [prodW], fun b hb => by
  obtain ⟨i, _, rfl⟩ := List.mem_map.mp hb
  exact bit_mod _⟩
def spProds (K : PySem.W.Frag) (C : Addr) : Sp := fun vs H Q _ => ∃ (p : Addr) (M : List (List Int)), vs = [.ref p] ∧ Mat H p M ∧ M.length = 6 ∧ RowsW 6 M ∧ ∀ t H', Same H H' → WAt K C H' t (prodW M) → Q (.ref t) H'
theorem ok_products (T : Tx K mg) : FnOk P w K mg base CX0 6 T.f_wedge_of_products T.d_wedge_of_products ["matrix"] (spProds K T.C_Wedge) := by
  have G_Wedge_init := ok_init (P := P) (w := w) (base := base) T
  refine T.F_wedge_of_products.ok sc_wedge_of_products (fun vs H Q E h => ?_) (fun cdv A outer s H vs Q E hr h => ?_)
  · obtain ⟨p, M, rfl, _⟩ := h
    rfl
  obtain ⟨p, M, rfl, hM, h6, hw, q⟩ := h
  obtain ⟨rs, h1, h2⟩ := hM.ex
  have nd := sc_wedge_of_products.nd
  refine ⟨_, (pss_cons (ps_setLc (i := 1) (own := [("p", 2), ("q", 3)]) (g := (gTup K 2 (gCons (gName 2) (gCons (gName 3) gNil)))) rfl nd rfl rfl (sw_true rfl rfl rfl (by decide +kernel)) (show PI _ _ _ (iTup K _) from pi_tup (pe_glob (v := .ref T.e_PAIRS) (by rfl) T.m_PAIRS rfl)) (blkOk_by (own := [("p", 2), ("q", 3)]) (N := N_wedge_of_products) (sc := defScope s_wedge_of_products) (by decide +kernel)) (fun _ _ _ _ _ => by exact (pg_tup rfl (pgs_cons (pg_name (i := 2) nd rfl (Or.inl rfl)) (pgs_cons (pg_name (i := 3) nd rfl (Or.inl rfl)) pgs_nil)))) (fun _ _ _ _ _ => by exact pts_nil) (fun _ _ _ _ _ => by exact (pe_op op_sub (pe_ix (show IxR _ (rIxL K) from ix_list) (pe_ix (show IxR _ (rIxL K) from ix_list) (pv 0) (pv 2) (fun _ _ => rfl)) (pv 3) (fun _ _ => rfl)) (pe_ix (show IxR _ (rIxL K) from ix_list) (pe_ix (show IxR _ (rIxL K) from ix_list) (pv 0) (pv 3) (fun _ _ => rfl)) (pv 2) (fun _ _ => rfl)))))
    (pss_one (ps_ret (pe_make T.k_Wedge G_Wedge_init hr (by rfl) T.g_Wedge T.b_Wedge_init .nil pass0 (pa_cons (pv 1) (pa_cons (pe_lc (own := [("p", 2)]) (g := (gName 2)) rfl nd (pi_range1 (by rfl) T.z_range (pa_cons (pe_callB (show CallR _ _ (rLenSq K) from call_len_seq) (by rfl) T.z_len (by decide +kernel) (pa_cons (pe_glob (v := .ref T.e_PRIMES) (by rfl) T.m_PRIMES rfl) pa_nil)) pa_nil)) (blkOk_by (own := [("p", 2)]) (N := N_wedge_of_products) (sc := defScope s_wedge_of_products) (by decide +kernel)) (fun _ _ _ _ _ => by exact (pg_name (i := 2) nd rfl (Or.inl rfl))) (fun _ _ _ _ _ => by exact pts_nil) (fun _ _ _ _ _ => by exact (pe_op op_modN (pe_ix (show IxR _ (rIxL K) from ix_list) (pe_ix (show IxR _ (rIxL K) from ix_list) (pv 0) (pv 2) (fun _ _ => rfl)) (pv 2) (fun _ _ => rfl)) pe_int))) pa_nil)))))), ?_⟩
  obtain ⟨as, has, hP, hPP⟩ := T.p_PAIRS
  refine ⟨T.e_PAIRS, rfl, ⟨_, hP _⟩, fun D hD => ?_⟩
  have rd : ∀ {H' : Hp} {i j : Nat}, Same H H' → i < 6 → j < 6 → ∃ t, rs[i]? = some (.ref t) ∧ H' t = some (.lst ((M.getD i []).map V.int)) ∧ ((M.getD i []).map V.int)[j]? = some (.int ((M.getD i []).getD j 0)) := fun {H' i j} s hi hj => by
    obtain ⟨t, g1, g2⟩ := h2.at (i := i) (by rw [h6]; exact hi)
    exact ⟨t, g1, s _ _ g2, getD_map (by rw [hw _ (getD_mem (by rw [h6]; exact hi))]; exact hj)⟩
  refine lcm (walk_tup (K := K) (a := T.e_PAIRS) (xs := as.map V.ref)) ((prodW M).1.map V.int) (by rw [List.length_map, List.length_map, (prodW_ok M).l1, has]) (by rw [List.length_map, has]; decide) hD (fun H' s' => hP _) ?_ ?_
  · rintro k yv xv H5 H6 hi hy' s5 ⟨rfl, hxv⟩ kk hk
    rw [List.getElem?_map] at hxv
    obtain ⟨a, ha, rfl⟩ := Option.map_eq_some_iff.mp hxv
    obtain ⟨pi, qi, hpr, hsq⟩ := hPP k a ha
    have b6 := pr_lt hpr
    rw [prodW, List.getElem?_map, List.getElem?_map, hpr] at hy'
    obtain rfl := Option.some.inj hy'
    obtain ⟨t1, a1, a2, a3⟩ := rd s5 b6.1 b6.2
    obtain ⟨t2, b1, b2, b3⟩ := rd s5 b6.2 b6.1
    refine ⟨a, _, rfl, hsq _, rfl, _, _, rfl, _, _, rfl, rfl, ?_⟩
    refine ⟨rfl, _, rfl, _, rfl, _, _, _, _, rfl, rfl, SqL.of (s5 _ _ h1), at_of (j := pi) rfl a1, _, rfl, _, _, _, _, rfl, rfl, SqL.of a2, at_of (j := qi) rfl a3, ?_⟩
    exact ⟨_, rfl, _, rfl, _, _, _, _, rfl, rfl, SqL.of (s5 _ _ h1), at_of (j := qi) rfl b1, _, rfl, _, _, _, _, rfl, rfl, SqL.of b2, at_of (j := pi) rfl b3, _, _, rfl, rfl, hk _ (Same.refl _)⟩
  · intro H5 s5 hD5
    refine ⟨_, rfl, T.e_PRIMES, _, rfl, .inr (T.q_PRIMES _), _, rfl, by decide, by decide, fun D2 hD2 => ?_⟩
    refine lcm (walk_range (lo := 0) (n := 6)) ((prodW M).2.map V.int) (by rw [List.length_map, (prodW_ok M).l2]) (by decide) hD2 (fun H' s' => trivial) ?_ ?_
    · rintro i yv xv H6 H7 hi hy' s6 ⟨rfl, rfl⟩ kk hk
      have e0 : (0 : Int) + (i : Int) = (i : Int) := by omega
      rw [prodW, List.getElem?_map, List.getElem?_map, List.getElem?_range hi] at hy'
      obtain rfl := Option.some.inj hy'
      obtain ⟨t1, a1, a2, a3⟩ := rd (s5.trans s6) hi hi
      refine ⟨rfl, _, rfl, _, rfl, _, _, _, _, rfl, rfl, SqL.of ((s5.trans s6) _ _ h1), at_of (j := i) e0 a1, _, rfl, _, _, _, _, rfl, rfl, SqL.of a2, at_of (j := i) e0 a3, _, _, rfl, rfl, (by show (2 : Int) ≠ 0; decide), hk _ (Same.refl _)⟩
    · intro H7 s7 hD7
      exact make_w (wd := prodW M) (.inl (SqL.of (s7 _ _ hD5))) (.inl (SqL.of hD7)) (prodW_ok M) fun z H' s3 hz => q z H' ((s5.trans s7).trans s3) hz
theorem rf_pows {u d : Nat} {t : Addr} : (rf u d t).lookup ("powers" : Str) = none := rf_no (by decide +kernel) (by decide +kernel) (by decide +kernel)
theorem prod_cell {x y : List Int} {i j : Nat} (hi : i < x.length) (hj : j < y.length) : ((x.map fun a => y.map (a * ·)).getD i []).getD j 0 = x.getD i 0 * y.getD j 0 := by
  rw [List.getD_eq_getElem?_getD (l := List.map _ x), List.getElem?_map, List.getElem?_eq_getElem hi]
  simp only [Option.map_some, Option.getD_some]
  rw [List.getD_eq_getElem?_getD, List.getElem?_map, List.getElem?_eq_getElem hj, List.getD_eq_getElem?_getD, List.getElem?_eq_getElem hi, List.getD_eq_getElem?_getD, List.getElem?_eq_getElem hj]
  rfl
theorem prod_wed {x y : List Int} (hx : x.length = 6) (hy : y.length = 6) : prodW (x.map fun a => y.map (a * ·)) = wedE x y := by
  unfold prodW wedE
  refine Prod.ext ?_ ?_
  all_goals dsimp only
  all_goals refine List.map_congr_left fun i hi => ?_
  · have b : i.1 < 6 ∧ i.2 < 6 := (by decide : ∀ p ∈ PR, p.1 < 6 ∧ p.2 < 6) i hi
    rw [prod_cell (by omega) (by omega), prod_cell (by omega) (by omega), ct]
  · have b := List.mem_range.mp hi
    rw [prod_cell (by omega) (by omega)]
def spWedgeOf (K : PySem.W.Frag) (C C2 : Addr) : Sp := fun vs H Q _ => ∃ (p r : Addr) (x y : List Int), vs = [.ref p, .ref r] ∧ RAt K C H p x ∧ RAt K C H r y ∧ Ex (10 ^ 6) x ∧ ∀ t H', Same H H' → WAt K C2 H' t (wedE x y) → Q (.ref t) H'
theorem ok_wedge_of (T : Tx K mg) : FnOk P w K mg base CX0 7 T.f_wedge_of T.d_wedge_of ["u", "v"] (spWedgeOf K T.C_Ratio T.C_Wedge) := by
  have G_Ratio_powers := ok_powers (P := P) (w := w) (base := base) T
  have G_wedge_of_products := ok_products (P := P) (w := w) (base := base) T
  refine T.F_wedge_of.ok sc_wedge_of (fun vs H Q E h => ?_) (fun cdv A outer s H vs Q E hr h => ?_)
  · obtain ⟨p, r, x, y, rfl, _⟩ := h
    rfl
  obtain ⟨p, r, x, y, rfl, hx, hy, xe, q⟩ := h
  have nd := sc_wedge_of.nd
  obtain ⟨dx, tx, e1, e2⟩ := hx.ex
  obtain ⟨dy, ty, g1, g2⟩ := hy.ex
  refine ⟨_, (pss_one (ps_ret (pe_call G_wedge_of_products hr (by rfl) T.m_wedge_of_products T.F_wedge_of_products.kp T.b_wedge_of_products .nil pass0 (pa_cons (pe_lc (own := [("one", 2)]) (g := (gName 2)) rfl nd (show PI _ _ _ (iTup K _) from pi_tup (pe_meth0 (pv 0) T.c_Ratio T.a_Ratio_powers G_Ratio_powers (hr.mono (by decide)) T.b_Ratio_powers .nil pass0)) (blkOk_by (own := [("one", 2)]) (N := N_wedge_of) (sc := defScope s_wedge_of) (by decide +kernel)) (fun _ _ _ _ _ => by exact (pg_name (i := 2) nd rfl (Or.inr rfl))) (fun _ _ _ _ _ => by exact pts_nil) (fun _ _ _ _ _ => by exact (pe_lc (own := [("two", 3)]) (g := (gName 3)) rfl nd (show PI _ _ _ (iTup K _) from pi_tup (pe_meth0 (pv 1) T.c_Ratio T.a_Ratio_powers G_Ratio_powers (hr.mono (by decide)) T.b_Ratio_powers .nil pass0)) (show BlkOk N_wedge_of { kind := .function, names := [(".0", .local), ("one", .cell), ("v", .cell)], isGenerator := false, isCoroutine := false } { kind := .function, names := [(".0", .local), ("two", .local), ("one", .free)], isGenerator := false, isCoroutine := false } [("two", 3)] from blkOk_by (by decide +kernel)) (fun _ _ _ _ _ => by exact (pg_name (i := 3) nd rfl (Or.inl rfl))) (fun _ _ _ _ _ => by exact pts_nil) (fun _ _ _ _ _ => by exact (pe_op op_mul (pv 2) (pv 3)))))) pa_nil)))), ?_⟩
  refine ⟨_, rfl, p, dx, _, rfl, e1, rf_pows, p, x, rfl, hx, fun tu htu => ⟨tu, rfl, ⟨_, htu⟩, fun D hD => ?_⟩⟩
  refine lcsD (walk_tup (K := K) (a := tu) (xs := x.map V.int)) (fun i yv H' => ∃ t a, yv = V.ref t ∧ t ≠ D ∧ x[i]? = some a ∧ H' t = some (.lst ((y.map (a * ·)).map V.int))) (fun i yv H1 H2 s1 ⟨t, a, a1, a0, a2, a3⟩ => ⟨t, a, a1, a0, a2, s1 _ _ a3⟩)
    (fun i yv H1 zs zs' hz' ⟨t, a, a1, a0, a2, a3⟩ => ⟨t, a, a1, a0, a2, by rw [upd_ne a0]; exact a3⟩) (by rw [List.length_map, hx.len]; decide) hD (fun H1 s1 => seqT s1 htu) ?_ fun ys H1 hl hys s1 hD1 => ?_
  · rintro i xv H1 H2 hi s1 ⟨zs, hz⟩ ⟨rfl, hxv⟩ k hk
    rw [List.getElem?_map] at hxv
    obtain ⟨a, ha, rfl⟩ := Option.map_eq_some_iff.mp hxv
    have hac : CMul a 0 := .inl (by have := xe a (List.mem_of_getElem? ha); omega)
    refine ⟨rfl, _, rfl, r, dy, _, rfl, s1 _ _ g1, rf_pows, r, y, rfl, hy.same s1, fun tv htv => ⟨tv, rfl, ⟨_, htv⟩, fun D2 hD2 => ?_⟩⟩
    refine lc_mapT (f := fun b => a * b) htv (by rw [hy.len]; decide) hD2 (fun u => rfl) (fun u H3 kk hu hkk => ⟨_, rfl, _, rfl, a, u, rfl, rfl, .inl (by have := xe a (List.mem_of_getElem? ha); omega), hkk⟩) fun H4 s4 hD4 => ?_
    exact hk _ H4 s4 ⟨D2, a, rfl, (ne_of_none hz hD2).symm, ha, hD4⟩
  · have hm : MatL H1 ys (x.map fun a => y.map (a * ·)) := ⟨by rw [hl, List.length_map, List.length_map], fun i yv hyv => by
      obtain ⟨t, a, a1, a0, a2, a3⟩ := hys i yv hyv
      exact ⟨t, _, a1, by rw [List.getElem?_map, a2]; rfl, a3⟩⟩
    refine ⟨D, _, rfl, ⟨ys, hD1, hm⟩, by rw [List.length_map, hx.len], fun row hr => ?_, fun t H' s' ht => q t H' (s1.trans s') ?_⟩
    · obtain ⟨a, _, rfl⟩ := List.mem_map.mp hr
      rw [List.length_map, hy.len]
    · rw [prod_wed hx.len hy.len] at ht
      exact ht
/-! ### flat, rank, owed -/
def spFlat (K : PySem.W.Frag) (C : Addr) : Sp := fun vs H Q _ => ∃ (p : Addr) (x : W2), vs = [.ref p] ∧ WAt K C H p x ∧ Q (.bl (!x.1.any (fun n => n != 0))) H
theorem ok_flat (T : Tx K mg) : FnOk P w K mg base CX0 1 T.f_Wedge_flat T.d_Wedge_flat ["self"] (spFlat K T.C_Wedge) := by
  refine T.F_Wedge_flat.ok sc_Wedge_flat (fun vs H Q E h => ?_) (fun cdv A outer s H vs Q E hr h => ?_)
  · obtain ⟨p, x, rfl, _⟩ := h
    rfl
  obtain ⟨p, x, rfl, ⟨⟨dx, t1, t2, e1, e2, e3⟩, ox⟩, q⟩ := h
  refine ⟨_, (pss_one (ps_ret (pe_not (pe_callB (show CallR _ _ (rAnyT K) from cr_anyT rfl) (by rfl) T.z_any (by decide +kernel) (pa_cons (show PE _ _ (tFld K _ _) from pe_fld (pv 0) rfl) pa_nil))))), ?_⟩
  exact ⟨_, rfl, p, _, _, _, _, rfl, e1, T.c_Wedge, T.n_Wedge_pairs, wf_p _ _, t1, _, rfl, e2, _, rfl, q⟩
/-- the matrix of a wedge has a rank, if its numbers are not too great -/
def RkOk (x : W2) : Prop := ∀ u ∈ x.1, u.natAbs < 2 ^ 100
theorem wf_mat {t1 t2 : Addr} : (wf t1 t2).lookup ("matrix" : Str) = none := wf_no _ _ (by decide +kernel) (by decide +kernel)
theorem set2_ent {b i j : Nat} {v : Int} {M : List (List Int)} (h : Ent b M) (hv : v.natAbs < 2 ^ b) : Ent b (set2 M i j v) := fun row hr => by
  unfold set2 at hr
  rcases Nat.lt_or_ge i M.length with c | c
  · rcases List.mem_or_eq_of_mem_set hr with e | e
    · exact h row e
    · intro x hx
      rw [e] at hx
      rcases List.mem_or_eq_of_mem_set hx with z | z
      · exact h _ (getD_mem c) x z
      · rw [z]
        exact hv
  · rw [List.set_eq_of_length_le c] at hr
    exact h row hr
theorem wmat_ent {ps : List Int} (h : ∀ u ∈ ps, u.natAbs < 2 ^ 100) : ∀ k, Ent 100 (wmatN ps k)
  | 0 => fun row hr x hx => by
    rw [(List.mem_replicate.mp hr).2] at hx
    rw [(List.mem_replicate.mp hx).2]
    exact Nat.pow_pos (by decide)
  | k + 1 => by
    have hv : (ps.getD k 0).natAbs < 2 ^ 100 := getD_lt h
    exact set2_ent (set2_ent (wmat_ent h k) hv) (by rw [Int.natAbs_neg]; exact hv)
def spRankW (K : PySem.W.Frag) (C : Addr) (f : Nat → Int) : Sp := fun vs H Q _ => ∃ (p : Addr) (x : W2), vs = [.ref p] ∧ WAt K C H p x ∧ RkOk x ∧ ∀ H', Same H H' → Q (.int (f (clrRank (wmat x.1)))) H'
theorem ok_rankW (T : Tx K mg) : FnOk P w K mg base CX0 4 T.f_Wedge_rank T.d_Wedge_rank ["self"] (spRankW K T.C_Wedge fun n => (n : Int)) := by
  have G_Wedge_matrix := ok_matrix (P := P) (w := w) (base := base) T
  have G_rank_of := ok_rank (P := P) (w := w) (base := base) T
  refine T.F_Wedge_rank.ok sc_Wedge_rank (fun vs H Q E h => ?_) (fun cdv A outer s H vs Q E hr h => ?_)
  · obtain ⟨p, x, rfl, _⟩ := h
    rfl
  obtain ⟨p, x, rfl, hx, hk, q⟩ := h
  obtain ⟨dx, t1, t2, e1, e2, e3⟩ := hx.ex
  refine ⟨_, (pss_one (ps_ret (pe_call G_rank_of hr (by rfl) T.m_rank_of T.F_rank_of.kp T.b_rank_of .nil pass0 (pa_cons (pe_meth0 (pv 0) T.c_Wedge T.a_Wedge_matrix G_Wedge_matrix (hr.mono (by decide)) T.b_Wedge_matrix .nil pass0) pa_nil)))), ?_⟩
  exact ⟨_, rfl, p, dx, _, rfl, e1, wf_mat, p, x, rfl, hx, fun t H1 s1 ht => ⟨t, wmat x.1, 100, 6, rfl, ht, wmatN_row _ _, wmat_ent hk 15, by decide, by rw [wmat, wmatN_len]; decide, by rw [wmat, wmatN_len]; decide, by decide, fun H2 s2 => q H2 (s1.trans s2)⟩⟩
theorem ok_owed (T : Tx K mg) : FnOk P w K mg base CX0 4 T.f_Wedge_owed T.d_Wedge_owed ["self"] (spRankW K T.C_Wedge fun n => ((n / 2 : Nat) : Int)) := by
  have G_Wedge_matrix := ok_matrix (P := P) (w := w) (base := base) T
  have G_rank_of := ok_rank (P := P) (w := w) (base := base) T
  refine T.F_Wedge_owed.ok sc_Wedge_owed (fun vs H Q E h => ?_) (fun cdv A outer s H vs Q E hr h => ?_)
  · obtain ⟨p, x, rfl, _⟩ := h
    rfl
  obtain ⟨p, x, rfl, hx, hk, q⟩ := h
  obtain ⟨dx, t1, t2, e1, e2, e3⟩ := hx.ex
  refine ⟨_, (pss_one (ps_ret (pe_op op_fdivN (pe_call G_rank_of hr (by rfl) T.m_rank_of T.F_rank_of.kp T.b_rank_of .nil pass0 (pa_cons (pe_meth0 (pv 0) T.c_Wedge T.a_Wedge_matrix G_Wedge_matrix (hr.mono (by decide)) T.b_Wedge_matrix .nil pass0) pa_nil)) pe_int))), ?_⟩
  refine ⟨_, rfl, p, dx, _, rfl, e1, wf_mat, p, x, rfl, hx, fun t H1 s1 ht => ⟨t, wmat x.1, 100, 6, rfl, ht, wmatN_row _ _, wmat_ent hk 15, by decide, by rw [wmat, wmatN_len]; decide, by rw [wmat, wmatN_len]; decide, by decide, fun H2 s2 => ?_⟩⟩
  refine ⟨_, _, rfl, rfl, ⟨by decide, by decide⟩, ?_⟩
  have : Q (.int ((clrRank (wmat x.1) / 2 : Nat) : Int)) H2 := q H2 (s1.trans s2)
  rw [Int.natCast_ediv, ← Int.fdiv_eq_ediv_of_nonneg _ (by decide)] at this
  exact this
theorem wmat_ct {g : Nat → Nat → Int} (h0 : ∀ i, g i i = 0) (hn : ∀ i j, g j i = - g i j) : wmat (PR.map fun p => g p.1 p.2) = ctM g := by
  have e : wmat (PR.map fun p => g p.1 p.2) = [[0, g 0 1, g 0 2, g 0 3, g 0 4, g 0 5], [- g 0 1, 0, g 1 2, g 1 3, g 1 4, g 1 5], [- g 0 2, - g 1 2, 0, g 2 3, g 2 4, g 2 5], [- g 0 3, - g 1 3, - g 2 3, 0, g 3 4, g 3 5], [- g 0 4, - g 1 4, - g 2 4, - g 3 4, 0, g 4 5], [- g 0 5, - g 1 5, - g 2 5, - g 3 5, - g 4 5, 0]] := by
    simp only [wmat, wmatN, set2, PR, List.map_cons, List.map_nil, List.getD_cons_zero, List.getD_cons_succ, List.set_cons_zero, List.set_cons_succ, List.replicate_succ, List.replicate_zero]
  rw [e]
  show _ = [[g 0 0, g 0 1, g 0 2, g 0 3, g 0 4, g 0 5], [g 1 0, g 1 1, g 1 2, g 1 3, g 1 4, g 1 5], [g 2 0, g 2 1, g 2 2, g 2 3, g 2 4, g 2 5], [g 3 0, g 3 1, g 3 2, g 3 3, g 3 4, g 3 5], [g 4 0, g 4 1, g 4 2, g 4 3, g 4 4, g 4 5], [g 5 0, g 5 1, g 5 2, g 5 3, g 5 4, g 5 5]]
  rw [h0, h0, h0, h0, h0, h0, hn 0 1, hn 0 2, hn 0 3, hn 0 4, hn 0 5, hn 1 2, hn 1 3, hn 1 4, hn 1 5, hn 2 3, hn 2 4, hn 2 5, hn 3 4, hn 3 5, hn 4 5]
theorem wedE_mat (x y : List Int) : wmat (wedE x y).1 = ctM (gg (fun i => x.getD i 0) fun j => y.getD j 0) := by
  have : (wedE x y).1 = PR.map fun p => gg (fun i => x.getD i 0) (fun j => y.getD j 0) p.1 p.2 := rfl
  rw [this]
  exact wmat_ct (gg_self _ _) fun i j => gg_neg _ _ i j
theorem wedE_zero (x y : List Int) : (wedE x y).1 = List.replicate 15 0 ↔ ∀ i j, i < 6 → j < 6 → gg (fun i => x.getD i 0) (fun j => y.getD j 0) i j = 0 := by
  generalize hg : gg (fun i => x.getD i 0) (fun j => y.getD j 0) = g
  have e1 : (wedE x y).1 = PR.map fun p => g p.1 p.2 := by rw [← hg]; rfl
  rw [e1]
  constructor
  · intro h i j hi hj
    have lt : ∀ i j, i < j → j < 6 → g i j = 0 := fun i j hij hj => by
      obtain ⟨k, hk, e⟩ := (by decide : ∀ j, j < 6 → ∀ i, i < j → ∃ k, k < 15 ∧ PR[k]? = some (i, j)) j hj i hij
      have := congrArg (fun l => l[k]?) h
      simp only [List.getElem?_map, e, Option.map_some, List.getElem?_replicate, if_pos hk] at this
      exact Option.some.inj this
    rcases Nat.lt_trichotomy i j with c | c | c
    · exact lt i j c hj
    · subst c
      rw [← hg]
      exact gg_self _ _ i
    · have := lt j i c hi
      rw [← hg] at this ⊢
      rw [gg_neg, this]
      rfl
  · intro h
    apply List.ext_getElem
    · simp [PR]
    · intro k h1 h2
      rw [List.getElem_map, List.getElem_replicate]
      have b := (by decide : ∀ p ∈ PR, p.1 < 6 ∧ p.2 < 6) (PR[k]'(by simpa using h1)) (List.getElem_mem _)
      exact h _ _ b.1 b.2
theorem wedE_rank (x y : List Int) : clrRank (wmat (wedE x y).1) = if (wedE x y).1 = List.replicate 15 0 then 0 else 2 := by
  rw [wedE_mat]
  split
  · rename_i h
    exact rank_zero ((wedE_zero x y).mp h)
  · rename_i h
    exact rank_two fun z => h ((wedE_zero x y).mpr z)
end
end TL.W
namespace TL.W
open TL
open PySem L2

/-! ### steps of a reading -/
local macro_rules | `(tactic| walk_at "hp") => `(tactic| first | assumption | exact upd_same | (refine (upd_ne (by first | assumption | (exact Ne.symm (by assumption)))).trans ?_; walk_at "hp"))
local macro_rules | `(tactic| walk_at "ok") => `(tactic| first | (exact Or.inr ⟨by decide, by decide⟩) | (exact ⟨by decide, by decide⟩) | (exact ⟨by decide, by decide, by decide⟩) | (show _ ≠ _; omega) | (show _ ≠ _; decide) | (exact Or.inl ⟨by omega, by omega⟩) | decide)
local macro_rules | `(tactic| walk_at "sq") => `(tactic| first | assumption | exact SqL.of (by walk_at "hp") | exact SqT.of (by walk_at "hp"))
local macro_rules | `(tactic| walk_at "ty") => `(tactic| first | refine ⟨_, _, Value.type "int", Value.type "list", false, rfl, ClsV.ty _, TyX.base (TyOf.int _), kt_int_list, ?_⟩ | refine ⟨_, _, Value.type "bool", Value.type "list", false, rfl, ClsV.ty _, TyX.base (TyOf.bl _), kt_bool_list, ?_⟩ | refine ⟨_, _, Value.type "str", Value.type "list", false, rfl, ClsV.ty _, TyX.base (TyOf.str _), kt_str_list, ?_⟩ | refine ⟨_, _, Value.type "NoneType", Value.type "list", false, rfl, ClsV.ty _, TyX.base TyOf.non, kt_NoneType_list, ?_⟩ | refine ⟨_, _, Value.type "list", Value.type "list", true, rfl, ClsV.ty _, tyx_L (by walk_at "sq"), kt_list_list, ?_⟩ | refine ⟨_, _, Value.type "tuple", Value.type "list", false, rfl, ClsV.ty _, tyx_T (by walk_at "sq"), kt_tuple_list, ?_⟩ | refine ⟨_, _, Value.type "int", Value.type "tuple", false, rfl, ClsV.ty _, TyX.base (TyOf.int _), kt_int_tuple, ?_⟩ | refine ⟨_, _, Value.type "bool", Value.type "tuple", false, rfl, ClsV.ty _, TyX.base (TyOf.bl _), kt_bool_tuple, ?_⟩ | refine ⟨_, _, Value.type "str", Value.type "tuple", false, rfl, ClsV.ty _, TyX.base (TyOf.str _), kt_str_tuple, ?_⟩ | refine ⟨_, _, Value.type "NoneType", Value.type "tuple", false, rfl, ClsV.ty _, TyX.base TyOf.non, kt_NoneType_tuple, ?_⟩ | refine ⟨_, _, Value.type "list", Value.type "tuple", false, rfl, ClsV.ty _, tyx_L (by walk_at "sq"), kt_list_tuple, ?_⟩ | refine ⟨_, _, Value.type "tuple", Value.type "tuple", true, rfl, ClsV.ty _, tyx_T (by walk_at "sq"), kt_tuple_tuple, ?_⟩ | refine ⟨_, _, Value.type "int", Value.type "bool", false, rfl, ClsV.ty _, TyX.base (TyOf.int _), kt_int_bool, ?_⟩ | refine ⟨_, _, Value.type "bool", Value.type "bool", true, rfl, ClsV.ty _, TyX.base (TyOf.bl _), kt_bool_bool, ?_⟩ | refine ⟨_, _, Value.type "str", Value.type "bool", false, rfl, ClsV.ty _, TyX.base (TyOf.str _), kt_str_bool, ?_⟩ | refine ⟨_, _, Value.type "NoneType", Value.type "bool", false, rfl, ClsV.ty _, TyX.base TyOf.non, kt_NoneType_bool, ?_⟩ | refine ⟨_, _, Value.type "list", Value.type "bool", false, rfl, ClsV.ty _, tyx_L (by walk_at "sq"), kt_list_bool, ?_⟩ | refine ⟨_, _, Value.type "tuple", Value.type "bool", false, rfl, ClsV.ty _, tyx_T (by walk_at "sq"), kt_tuple_bool, ?_⟩ | refine ⟨_, _, Value.type "int", Value.type "int", true, rfl, ClsV.ty _, TyX.base (TyOf.int _), kt_int_int, ?_⟩ | refine ⟨_, _, Value.type "bool", Value.type "int", true, rfl, ClsV.ty _, TyX.base (TyOf.bl _), kt_bool_int, ?_⟩ | refine ⟨_, _, Value.type "str", Value.type "int", false, rfl, ClsV.ty _, TyX.base (TyOf.str _), kt_str_int, ?_⟩ | refine ⟨_, _, Value.type "NoneType", Value.type "int", false, rfl, ClsV.ty _, TyX.base TyOf.non, kt_NoneType_int, ?_⟩ | refine ⟨_, _, Value.type "list", Value.type "int", false, rfl, ClsV.ty _, tyx_L (by walk_at "sq"), kt_list_int, ?_⟩ | refine ⟨_, _, Value.type "tuple", Value.type "int", false, rfl, ClsV.ty _, tyx_T (by walk_at "sq"), kt_tuple_int, ?_⟩ | refine ⟨_, _, Value.type "int", Value.type "str", false, rfl, ClsV.ty _, TyX.base (TyOf.int _), kt_int_str, ?_⟩ | refine ⟨_, _, Value.type "bool", Value.type "str", false, rfl, ClsV.ty _, TyX.base (TyOf.bl _), kt_bool_str, ?_⟩ | refine ⟨_, _, Value.type "str", Value.type "str", true, rfl, ClsV.ty _, TyX.base (TyOf.str _), kt_str_str, ?_⟩ | refine ⟨_, _, Value.type "NoneType", Value.type "str", false, rfl, ClsV.ty _, TyX.base TyOf.non, kt_NoneType_str, ?_⟩ | refine ⟨_, _, Value.type "list", Value.type "str", false, rfl, ClsV.ty _, tyx_L (by walk_at "sq"), kt_list_str, ?_⟩ | refine ⟨_, _, Value.type "tuple", Value.type "str", false, rfl, ClsV.ty _, tyx_T (by walk_at "sq"), kt_tuple_str, ?_⟩)
local macro_rules | `(tactic| walk_at "go1") => `(tactic| first
  | (refine ⟨_, rfl, ?_⟩)
  | (refine ⟨_, _, rfl, rfl, ?_⟩)
  | (refine ⟨_, _, _, _, rfl, rfl, SqL.of (by walk_at "hp"), rfl, ?_⟩)
  | (refine Or.inl ⟨_, rfl, ?_⟩)
  | (refine ⟨rfl, ?_⟩)
  | (refine ⟨_, _, rfl, .inl (SqL.of (by walk_at "hp")), ?_⟩)
  | (refine ⟨_, _, rfl, Or.inl (by assumption), ?_⟩)
  | (refine ⟨_, _, rfl, Or.inr (by assumption), ?_⟩)
  | (refine ⟨(by walk_at "ok"), ?_⟩)
  | (refine ⟨_, _, _, _, rfl, rfl, (by walk_at "hp"), rfl, ?_⟩))
local macro_rules | `(tactic| walk_at "go") => `(tactic| repeat (walk_at "go1"))
local macro_rules | `(tactic| walk_at "gt") => `(tactic| repeat (first | walk_at "go1" | walk_at "ty"))

section
variable {P : Program} {w : World} {K : PySem.W.Frag} {mg : Str → Option Value} {base : Heap}
/-! ### the operators as they stand in the class -/
theorem o_add (T : Tx K mg) : OpAt K T.C_Wedge T.f_Wedge_add (PySem.dunder Operator.Add.info.2) := ⟨T.sfW, by rw [d_add]; exact T.a_Wedge_add.at_, T.a_Wedge_add.fn⟩
theorem o_sub (T : Tx K mg) : OpAt K T.C_Wedge T.f_Wedge_sub (PySem.dunder Operator.Sub.info.2) := ⟨T.sfW, by rw [d_sub]; exact T.a_Wedge_sub.at_, T.a_Wedge_sub.fn⟩
theorem o_mulI (T : Tx K mg) {X : Cx} {k : Nat} {sp : Sp} (F : FnOk X.prog X.w X.K X.mg X.base CX0 k T.f_Wedge_mul T.d_Wedge_mul ["self", "k"] sp) (hr : Room k X.A) (hK : X.K = K := by rfl) : OpR X (binaryOp .Mult) (rOwI T.C_Wedge sp E0) := by
  subst hK
  obtain ⟨fo, h1⟩ := T.iM
  obtain ⟨ro, h2⟩ := T.iR
  exact op_owI (op := .Mult) (g := T.f_Wedge_rmul) ⟨T.sfW, by rw [d_mul]; exact T.a_Wedge_mul.at_, T.a_Wedge_mul.fn⟩ (by rw [d_rmul]; exact T.a_Wedge_rmul.at_) (by rw [d_mul]; exact h1) (by rw [d_rmul]; exact h2) T.sI F hr T.b_Wedge_mul pass0
theorem o_rmulI (T : Tx K mg) {X : Cx} {k : Nat} {sp : Sp} (F : FnOk X.prog X.w X.K X.mg X.base CX0 k T.f_Wedge_rmul T.d_Wedge_rmul ["self", "k"] sp) (hr : Room k X.A) (hK : X.K = K := by rfl) : OpR X (binaryOp .Mult) (rIOw T.C_Wedge sp E0) := by
  subst hK
  exact op_IOw (g := T.f_Wedge_mul) ⟨T.sfW, by rw [d_rmul']; exact T.a_Wedge_rmul.at_, T.a_Wedge_rmul.fn⟩ (by rw [d_mul']; exact T.a_Wedge_mul.at_) T.sC F hr T.b_Wedge_rmul pass0
def spLaw (K : PySem.W.Frag) : Sp := fun vs H Q _ => ∃ (a : Addr) (ns : List Int), vs = [.ref a] ∧ SqL K H a (ns.map V.int) ∧ ns.length ≤ 63 ∧ ∀ H', Q (.bl true) H'
/-! ### what evaluates to which wedge -/
def EvW (K : PySem.W.Frag) (C : Addr) (te : TE) (σ : L2.St) (H : Hp) (x : W2) : Prop := ∀ H1, Same H H1 → ∀ Q : VK, (∀ p H2, Same H1 H2 → WAt K C H2 p x → Q (.ref p) H2) → te σ H1 Q
def EvI (te : TE) (σ : L2.St) (H : Hp) (n : Int) : Prop := ∀ H1, Same H H1 → ∀ Q : VK, (∀ H2, Same H1 H2 → Q (.int n) H2) → te σ H1 Q
def EvB (te : TE) (σ : L2.St) (H : Hp) (b : Bool) : Prop := ∀ H1, Same H H1 → ∀ Q : VK, (∀ H2, Same H1 H2 → Q (.bl b) H2) → te σ H1 Q
def EvL (te : TE) (σ : L2.St) (H : Hp) (x : W2) : Prop := ∀ H1, Same H H1 → ∀ Q : VK, (∀ p H2, Same H1 H2 → LW H2 p x → Q (.ref p) H2) → te σ H1 Q
section
variable {C : Addr} {σ : L2.St} {H : Hp} {ta tb te : TE} {x y : W2} {n m : Int} {E : XK}
theorem ew_var {i : Nat} {p : Addr} (h : σ[i]? = some (some (.ref p))) (hw : WAt K C H p x) : EvW K C (tVar i) σ H x := fun H1 s Q q => ⟨_, h, q p H1 (Same.refl _) (hw.same s)⟩
theorem ew_op {f : W2 → W2 → W2} (ha : EvW K C ta σ H x) (hb : EvW K C tb σ H y) : EvW K C (tOp (rOw C (spOp2 K C f) E) ta tb) σ H (f x y) := fun H1 s1 Q q =>
  ha H1 s1 _ fun p H2 s2 hp => hb H2 (s1.trans s2) _ fun r H3 s3 hr => by
    have hp3 := hp.same s3
    obtain ⟨dx, _, _, e, _⟩ := hp3.ex
    obtain ⟨dy, _, _, g, _⟩ := hr.ex
    exact ⟨p, dx, _, r, dy, _, rfl, rfl, e, g, p, r, x, y, rfl, hp3, hr, fun t H4 s4 ht => q t H4 ((s2.trans s3).trans s4) ht⟩
theorem ew_neg (ha : EvW K C ta σ H x) : EvW K C (tUn (rNeg C (spNegW K C) E) ta) σ H (negW x) := fun H1 s1 Q q =>
  ha H1 s1 _ fun p H2 s2 hp => by
    obtain ⟨dx, _, _, e, _⟩ := hp.ex
    exact ⟨p, dx, _, rfl, e, p, x, rfl, hp, fun t H4 s4 ht => q t H4 (s2.trans s4) ht⟩
theorem ew_mul (ha : EvW K C ta σ H x) (hb : EvI tb σ H n) (hs : Small n x) : EvW K C (tOp (rOwI C (spMulW K C) E) ta tb) σ H (mulW n x) := fun H1 s1 Q q =>
  ha H1 s1 _ fun p H2 s2 hp => hb H2 (s1.trans s2) _ fun H3 s3 => by
    have hp3 := hp.same s3
    obtain ⟨dx, _, _, e, _⟩ := hp3.ex
    exact ⟨p, dx, _, n, rfl, rfl, e, p, n, x, rfl, hp3, hs, fun t H4 s4 ht => q t H4 ((s2.trans s3).trans s4) ht⟩
theorem ew_rmul (hb : EvI tb σ H n) (ha : EvW K C ta σ H x) (hs : Small n x) : EvW K C (tOp (rIOw C (spMulW K C) E) tb ta) σ H (mulW n x) := fun H1 s1 Q q =>
  hb H1 s1 _ fun H2 s2 => ha H2 (s1.trans s2) _ fun p H3 s3 hp => by
    obtain ⟨dx, _, _, e, _⟩ := hp.ex
    exact ⟨p, dx, _, n, rfl, rfl, e, p, n, x, rfl, hp, hs, fun t H4 s4 ht => q t H4 ((s2.trans s3).trans s4) ht⟩
theorem ew_nothing : EvW K C (tCall (spNothing K C) [] E tNil) σ H zeroW := fun H1 s1 Q q => ⟨rfl, fun t H2 s2 ht => q t H2 s2 ht⟩
theorem ei_var {i : Nat} (h : σ[i]? = some (some (.int n))) : EvI (tVar i) σ H n := fun H1 s Q q => ⟨_, h, q H1 (Same.refl _)⟩
theorem ei_c : EvI (tC (.int n)) σ H n := fun H1 s Q q => q H1 (Same.refl _)
theorem ei_neg (ha : EvI ta σ H n) : EvI (tUn (rU fun i => .int (-i)) ta) σ H (-n) := fun H1 s Q q => ha H1 s _ fun H2 s2 => ⟨n, rfl, q H2 s2⟩
theorem ei_add (ha : EvI ta σ H n) (hb : EvI tb σ H m) : EvI (tOp (rI0 fun i j => .int (i + j)) ta tb) σ H (n + m) := fun H1 s Q q => ha H1 s _ fun H2 s2 => hb H2 (s.trans s2) _ fun H3 s3 => ⟨n, m, rfl, rfl, q H3 (s2.trans s3)⟩
theorem ei_mul (ha : EvI ta σ H n) (hb : EvI tb σ H m) (hc : CMul n m) : EvI (tOp (rI CMul fun i j => .int (i * j)) ta tb) σ H (n * m) := fun H1 s Q q => ha H1 s _ fun H2 s2 => hb H2 (s.trans s2) _ fun H3 s3 => ⟨n, m, rfl, rfl, hc, q H3 (s2.trans s3)⟩
theorem eb_c {b : Bool} : EvB (tC (.bl b)) σ H b := fun H1 s Q q => q H1 (Same.refl _)
theorem eb_eq (ha : EvW K C ta σ H x) (hb : EvW K C tb σ H y) : EvB (tOp (rOw C (spEqW K C) E) ta tb) σ H (decide (x = y)) := fun H1 s1 Q q =>
  ha H1 s1 _ fun p H2 s2 hp => hb H2 (s1.trans s2) _ fun r H3 s3 hr => by
    have hp3 := hp.same s3
    obtain ⟨dx, _, _, e, _⟩ := hp3.ex
    obtain ⟨dy, _, _, g, _⟩ := hr.ex
    exact ⟨p, dx, _, r, dy, _, rfl, rfl, e, g, p, r, x, y, rfl, hp3, hr, q H3 (s2.trans s3)⟩
theorem eb_bool (ha : EvW K C ta σ H x) : EvB (tCB (rBoolOw C (spBoolW K C) E) (tCons ta tNil)) σ H (boolW x) := fun H1 s1 Q q =>
  ha H1 s1 _ fun p H2 s2 hp => by
    obtain ⟨dx, _, _, e, _⟩ := hp.ex
    exact ⟨p, dx, _, rfl, e, p, x, rfl, hp, _, rfl, q H2 s2⟩
theorem el_var {i : Nat} {p : Addr} (h : σ[i]? = some (some (.ref p))) (hw : LW H p x) : EvL (tVar i) σ H x := fun H1 s Q q => ⟨_, h, q p H1 (Same.refl _) (hw.same s)⟩
theorem el_added (ha : EvL ta σ H x) (hb : EvL tb σ H y) : EvL (tCall spAdded [] E (tCons ta (tCons tb tNil))) σ H (addW x y) := fun H1 s1 Q q =>
  ha H1 s1 _ fun p H2 s2 hp => hb H2 (s1.trans s2) _ fun r H3 s3 hr => ⟨p, r, x, y, rfl, hp.same s3, hr, fun t H4 s4 ht => q t H4 ((s2.trans s3).trans s4) ht⟩
theorem el_none : EvL (tCall (fun vs H Q _ => vs = [] ∧ ∀ t H', Same H H' → LW H' t zeroW → Q (.ref t) H') [] E tNil) σ H zeroW := fun H1 s1 Q q => ⟨rfl, fun t H2 s2 ht => q t H2 s2 ht⟩
theorem el_zero : EvL (tTup (tCons (tOp rRep (tLst (tCons (tC (.int 0)) tNil)) (tC (.int 15))) (tCons (tOp rRep (tLst (tCons (tC (.int 0)) tNil)) (tC (.int 6))) tNil))) σ H zeroW := fun H1 s1 Q q => by
  refine ⟨(by show 1 ≤ sizeLine; decide), fun p hp => ⟨p, _, _, rfl, rfl, upd_same, by decide, by decide, by decide, fun a ha => ?_⟩⟩
  have s1 := (Same.new (o := .lst [V.int 0]) hp).trans (Same.new (o := .lst (zeroW.1.map V.int)) ha)
  refine ⟨(by show 1 ≤ sizeLine; decide), fun p2 hp2 => ⟨p2, _, _, rfl, rfl, upd_same, by decide, by decide, by decide, fun b hb => ?_⟩⟩
  have s2 := (Same.new (o := .lst [V.int 0]) hp2).trans (Same.new (o := .lst (zeroW.2.map V.int)) hb)
  exact LW.mk2 (wd := zeroW) zeroW_ok (s2 _ _ upd_same) upd_same fun t H' s3 ht => q t H' ((s1.trans s2).trans s3) ht
theorem Wds.same {H' : Hp} {ps : List V} {ws : List W2} (h : Wds K C H ps ws) (s : Same H H') : Wds K C H' ps ws := ⟨h.1, fun i p hp => by
  obtain ⟨t, wd, e1, e2, e3⟩ := h.2 i p hp
  exact ⟨t, wd, e1, e2, e3.same s⟩⟩
theorem Lws.same {H' : Hp} {ps : List V} {ws : List W2} (h : Lws H ps ws) (s : Same H H') : Lws H' ps ws := ⟨h.1, fun i p hp => by
  obtain ⟨t, wd, e1, e2, e3⟩ := h.2 i p hp
  exact ⟨t, wd, e1, e2, e3.same s⟩⟩
def EvWs (K : PySem.W.Frag) (C : Addr) (ta : TA) (σ : L2.St) (H : Hp) (ws : List W2) : Prop := ∀ H1, Same H H1 → ∀ Q : List V → Hp → Prop, (∀ ps H2, Same H1 H2 → Wds K C H2 ps ws → Q ps H2) → ta σ H1 Q
def EvLs (ta : TA) (σ : L2.St) (H : Hp) (ws : List W2) : Prop := ∀ H1, Same H H1 → ∀ Q : List V → Hp → Prop, (∀ ps H2, Same H1 H2 → Lws H2 ps ws → Q ps H2) → ta σ H1 Q
def EvBs (ta : TA) (σ : L2.St) (H : Hp) (bs : List Bool) : Prop := ∀ H1, Same H H1 → ∀ Q : List V → Hp → Prop, (∀ H2, Same H1 H2 → Q (bs.map V.bl) H2) → ta σ H1 Q
theorem ews_nil : EvWs K C tNil σ H [] := fun H1 s Q q => q [] H1 (Same.refl _) ⟨rfl, fun i p h => by cases h⟩
theorem ews_cons {tr : TA} {ws : List W2} (h : EvW K C te σ H x) (hr : EvWs K C tr σ H ws) : EvWs K C (tCons te tr) σ H (x :: ws) := fun H1 s1 Q q =>
  h H1 s1 _ fun p H2 s2 hp => hr H2 (s1.trans s2) _ fun ps H3 s3 hps => q (.ref p :: ps) H3 (s2.trans s3) ⟨by simp [hps.1], fun i r hr' => by
    match i, hr' with
    | 0, hr' => cases hr'; exact ⟨p, x, rfl, rfl, hp.same s3⟩
    | i + 1, hr' => exact hps.2 i r hr'⟩
theorem els_nil : EvLs tNil σ H [] := fun H1 s Q q => q [] H1 (Same.refl _) ⟨rfl, fun i p h => by cases h⟩
theorem els_cons {tr : TA} {ws : List W2} (h : EvL te σ H x) (hr : EvLs tr σ H ws) : EvLs (tCons te tr) σ H (x :: ws) := fun H1 s1 Q q =>
  h H1 s1 _ fun p H2 s2 hp => hr H2 (s1.trans s2) _ fun ps H3 s3 hps => q (.ref p :: ps) H3 (s2.trans s3) ⟨by simp [hps.1], fun i r hr' => by
    match i, hr' with
    | 0, hr' => cases hr'; exact ⟨p, x, rfl, rfl, hp.same s3⟩
    | i + 1, hr' => exact hps.2 i r hr'⟩
theorem ebs_nil : EvBs tNil σ H [] := fun H1 s Q q => q H1 (Same.refl _)
theorem ebs_cons {tr : TA} {b : Bool} {bs : List Bool} (h : EvB te σ H b) (hr : EvBs tr σ H bs) : EvBs (tCons te tr) σ H (b :: bs) := fun H1 s1 Q q =>
  h H1 s1 _ fun H2 s2 => hr H2 (s1.trans s2) _ fun H3 s3 => q H3 (s2.trans s3)
/-! ### the lists of the law -/
theorem eb_so_v {C : Addr} {σ : L2.St} {H : Hp} {i j : Nat} {p q : Addr} {ps qs : List V} {ws : List W2} {E : XK} (hi : σ[i]? = some (some (.ref p))) (hj : σ[j]? = some (some (.ref q))) (hp : H p = some (.lst ps)) (hq : H q = some (.lst qs)) (hw : Wds K C H ps ws) (hl : Lws H qs ws) (hz : ws.length ≤ 1000) : EvB (tCall (spAllSo K C) [] E (tCons (tVar i) (tCons (tVar j) tNil))) σ H true := fun H1 s1 Q k =>
  ⟨_, hi, _, hj, p, q, ps, qs, ws, rfl, SqL.of (s1 _ _ hp), SqL.of (s1 _ _ hq), hz, hw.same s1, hl.same s1, k⟩
theorem eb_so_l {C : Addr} {σ : L2.St} {H : Hp} {ta tb : TA} {ws : List W2} {E : XK} (ha : EvWs K C ta σ H ws) (hb : EvLs tb σ H ws) (hz : ws.length ≤ 1000) : EvB (tCall (spAllSo K C) [] E (tCons (tLst ta) (tCons (tLst tb) tNil))) σ H true := fun H1 s1 Q k =>
  ha H1 s1 _ fun ps H2 s2 hw => ⟨by rw [hw.1]; exact Nat.le_of_lt (Nat.lt_of_le_of_lt hz (by decide)), fun p hp =>
    have s3 := Same.new (o := .lst ps) hp
    hb _ ((s1.trans s2).trans s3) _ fun qs H4 s4 hl => ⟨by rw [hl.1]; exact Nat.le_of_lt (Nat.lt_of_le_of_lt hz (by decide)), fun q hq =>
      have s5 := Same.new (o := .lst qs) hq
      ⟨p, q, ps, qs, ws, rfl, SqL.of (s5 _ _ (s4 _ _ upd_same)), SqL.of upd_same, hz, hw.same ((s3.trans s4).trans s5), hl.same s5, fun H' s' => k H' ((((s2.trans s3).trans s4).trans s5).trans s')⟩⟩⟩
theorem eb_same {σ : L2.St} {H : Hp} {i j : Nat} {p q : Addr} {bs : List Bool} {E : XK} (hi : σ[i]? = some (some (.ref p))) (hj : σ[j]? = some (some (.ref q))) (hp : H p = some (.lst (bs.map V.bl))) (hq : H q = some (.lst (bs.map V.bl))) (hz : bs.length ≤ 1000) : EvB (tCall (spSame K 4) [] E (tCons (tVar i) (tCons (tVar j) tNil))) σ H true := fun H1 s1 Q k =>
  ⟨_, hi, _, hj, 1, _, _, rfl, by decide, .lst (SqL.of (s1 _ _ hp)) (SqL.of (s1 _ _ hq)) (by rw [List.length_map]; omega) rfl (fun i x y hx hy => by
    rw [hx] at hy
    cases hy
    rw [List.getElem?_map] at hx
    obtain ⟨b, _, rfl⟩ := Option.map_eq_some_iff.mp hx
    exact .bl b), k⟩
theorem eb_and {σ : L2.St} {H : Hp} {ta tb : TE} (ha : EvB ta σ H true) (hb : EvB tb σ H true) : EvB (tAndV ta tb) σ H true := fun H1 s1 Q k =>
  ha H1 s1 _ fun H2 s2 => ⟨true, rfl, hb H2 (s1.trans s2) Q fun H3 s3 => k H3 (s2.trans s3)⟩
theorem if_so {σ : L2.St} {H : Hp} {te : TE} {t rest : TS} {D : Ends} (h : EvB te σ H true) (k : ∀ H', Same H H' → rest D σ H') : tSeq (tIfS (tNot (tB te)) t tNext) rest D σ H :=
  h H (Same.refl _) _ fun H1 s1 => ⟨true, rfl, k H1 s1⟩
theorem if_so2 {σ : L2.St} {H : Hp} {ta tb : TE} {t rest : TS} {D : Ends} (ha : EvB ta σ H true) (hb : EvB tb σ H true) (k : ∀ H', Same H H' → rest D σ H') : tSeq (tIfS (tOr (tNot (tB ta)) (tNot (tB tb))) t tNext) rest D σ H :=
  ha H (Same.refl _) _ fun H1 s1 => ⟨true, rfl, hb H1 s1 _ fun H2 s2 => ⟨true, rfl, k H2 (s1.trans s2)⟩⟩
theorem ret_so {σ : L2.St} {H : Hp} {te : TE} {D : Ends} (h : EvB te σ H true) (k : ∀ H', D.rt (.bl true) H') : tRet te D σ H :=
  h H (Same.refl _) _ fun H1 _ => k H1
theorem dp_lw {H : Hp} {p : Addr} {x : W2} (h : LW H p x) : Dp K H (.ref p) (.tuple [.list (x.1.map PyData.int), .list (x.2.map PyData.int)]) := by
  obtain ⟨l1, l2, h1, h2, h3⟩ := h.ex
  exact .tup (SqT.of h1) (.cons (.lst (SqL.of h2) (dpAll_ints _)) (.cons (.lst (SqL.of h3) (dpAll_ints _)) .nil))
theorem eb_eqL {σ : L2.St} {H : Hp} {ta tb : TE} {x y : W2} (ha : EvL ta σ H x) (hb : EvL tb σ H y) : EvB (tOp (rEqD K) ta tb) σ H (decide (x = y)) := fun H1 s1 Q k =>
  ha H1 s1 _ fun p H2 s2 hp => hb H2 (s1.trans s2) _ fun r H3 s3 hr =>
    ⟨_, _, dp_lw (hp.same s3), dp_lw hr, shaped_two _ _, shaped_two _ _, by rw [eqv_two]; exact k H3 (s2.trans s3)⟩
theorem eb_neL {σ : L2.St} {H : Hp} {ta tb : TE} {x y : W2} (ha : EvL ta σ H x) (hb : EvL tb σ H y) : EvB (tOp (rNeD K) ta tb) σ H (!decide (x = y)) := fun H1 s1 Q k =>
  ha H1 s1 _ fun p H2 s2 hp => hb H2 (s1.trans s2) _ fun r H3 s3 hr =>
    ⟨_, _, dp_lw (hp.same s3), dp_lw hr, shaped_two _ _, shaped_two _ _, by rw [eqv_two]; exact k H3 (s2.trans s3)⟩
theorem told_set {C : Addr} {σ : L2.St} {H : Hp} {ta : TA} {rest : TS} {D : Ends} {i : Nat} {ws : List W2} (h : EvWs K C ta σ H ws) (hz : ws.length ≤ 1000) (k : ∀ ps p H', Same H H' → Wds K C H' ps ws → H' p = some (.lst ps) → rest D (σ.set i (some (.ref p))) H') : tSeq (tAsg (tLst ta) (gName i)) rest D σ H :=
  h H (Same.refl _) _ fun ps H1 s1 hw => ⟨by rw [hw.1]; exact Nat.le_of_lt (Nat.lt_of_le_of_lt hz (by decide)), fun p hp =>
    have s2 := Same.new (o := .lst ps) hp
    k ps p _ (s1.trans s2) (hw.same s2) upd_same⟩
theorem lv_set {σ : L2.St} {H : Hp} {te : TE} {rest : TS} {D : Ends} {i : Nat} {x : W2} (h : EvL te σ H x) (k : ∀ p H', Same H H' → LW H' p x → rest D (σ.set i (some (.ref p))) H') : tSeq (tAsg te (gName i)) rest D σ H :=
  h H (Same.refl _) _ fun p H1 s1 hw => k p H1 s1 hw
theorem dues_set {σ : L2.St} {H : Hp} {ta : TA} {rest : TS} {D : Ends} {i : Nat} {ws : List W2} (h : EvLs ta σ H ws) (hz : ws.length ≤ 1000) (k : ∀ ps p H', Same H H' → Lws H' ps ws → H' p = some (.lst ps) → rest D (σ.set i (some (.ref p))) H') : tSeq (tAsg (tLst ta) (gName i)) rest D σ H :=
  h H (Same.refl _) _ fun ps H1 s1 hw => ⟨by rw [hw.1]; exact Nat.le_of_lt (Nat.lt_of_le_of_lt hz (by decide)), fun p hp =>
    have s2 := Same.new (o := .lst ps) hp
    k ps p _ (s1.trans s2) (hw.same s2) upd_same⟩
theorem bls_set {σ : L2.St} {H : Hp} {ta : TA} {rest : TS} {D : Ends} {i : Nat} {bs : List Bool} (h : EvBs ta σ H bs) (hz : bs.length ≤ 1000) (k : ∀ p H', Same H H' → H' p = some (.lst (bs.map V.bl)) → rest D (σ.set i (some (.ref p))) H') : tSeq (tAsg (tLst ta) (gName i)) rest D σ H :=
  h H (Same.refl _) _ fun H1 s1 => ⟨by rw [List.length_map]; exact Nat.le_of_lt (Nat.lt_of_le_of_lt hz (by decide)), fun p hp =>
    k p _ (s1.trans (Same.new (o := .lst (bs.map V.bl)) hp)) upd_same⟩
theorem dues_cat {σ : L2.St} {H : Hp} {ta : TA} {rest : TS} {D : Ends} {i j : Nat} {d : Addr} {qs : List V} {vs ws : List W2} (hv : σ[j]? = some (some (.ref d))) (hd : H d = some (.lst qs)) (hq : Lws H qs vs) (h : EvLs ta σ H ws) (hz : vs.length ≤ 1000) (hz2 : ws.length ≤ 1000)
    (k : ∀ ps p H', Same H H' → Lws H' ps (vs ++ ws) → H' p = some (.lst ps) → rest D (σ.set i (some (.ref p))) H') : tSeq (tAsg (tOp rCat (tVar j) (tLst ta)) (gName i)) rest D σ H :=
  ⟨_, hv, h H (Same.refl _) _ fun ps H1 s1 hw => ⟨by rw [hw.1]; exact Nat.le_of_lt (Nat.lt_of_le_of_lt hz2 (by decide)), fun p hp => by
    have s2 := Same.new (o := .lst ps) hp
    refine ⟨d, p, qs, ps, rfl, rfl, s2 _ _ (s1 _ _ hd), upd_same, ?_, fun r hr => ?_⟩
    · rw [hw.1, hq.1]
      exact Nat.le_of_lt (Nat.lt_of_le_of_lt (show vs.length + ws.length ≤ 2000 by omega) (by decide))
    · have s3 := Same.new (o := .lst (qs ++ ps)) hr
      have sA := (s1.trans s2).trans s3
      refine k (qs ++ ps) r _ sA ?_ upd_same
      have a := hq.same sA
      have b := hw.same (s2.trans s3)
      refine ⟨by rw [List.length_append, List.length_append, a.1, b.1], fun t v hv => ?_⟩
      rcases Nat.lt_or_ge t qs.length with q | q
      · rw [List.getElem?_append_left q] at hv
        rw [List.getElem?_append_left (by rw [← a.1]; exact q)]
        exact a.2 t v hv
      · rw [List.getElem?_append_right q] at hv
        rw [List.getElem?_append_right (by rw [← a.1]; exact q), ← a.1]
        exact b.2 _ v hv⟩⟩
end
end
end TL.W
namespace TL
open PySem L2

/-! ### steps of a reading -/
local macro_rules | `(tactic| walk_at "hp") => `(tactic| first | assumption | exact upd_same | (refine (upd_ne (by first | assumption | (exact Ne.symm (by assumption)))).trans ?_; walk_at "hp"))
local macro_rules | `(tactic| walk_at "ok") => `(tactic| first | (exact Or.inr ⟨by decide, by decide⟩) | (exact ⟨by decide, by decide⟩) | (exact ⟨by decide, by decide, by decide⟩) | (show _ ≠ _; omega) | (show _ ≠ _; decide) | (exact Or.inl ⟨by omega, by omega⟩) | decide)
local macro_rules | `(tactic| walk_at "sq") => `(tactic| first | assumption | exact SqL.of (by walk_at "hp") | exact SqT.of (by walk_at "hp"))
local macro_rules | `(tactic| walk_at "ty") => `(tactic| first | refine ⟨_, _, Value.type "int", Value.type "list", false, rfl, ClsV.ty _, TyX.base (TyOf.int _), kt_int_list, ?_⟩ | refine ⟨_, _, Value.type "bool", Value.type "list", false, rfl, ClsV.ty _, TyX.base (TyOf.bl _), kt_bool_list, ?_⟩ | refine ⟨_, _, Value.type "str", Value.type "list", false, rfl, ClsV.ty _, TyX.base (TyOf.str _), kt_str_list, ?_⟩ | refine ⟨_, _, Value.type "NoneType", Value.type "list", false, rfl, ClsV.ty _, TyX.base TyOf.non, kt_NoneType_list, ?_⟩ | refine ⟨_, _, Value.type "list", Value.type "list", true, rfl, ClsV.ty _, tyx_L (by walk_at "sq"), kt_list_list, ?_⟩ | refine ⟨_, _, Value.type "tuple", Value.type "list", false, rfl, ClsV.ty _, tyx_T (by walk_at "sq"), kt_tuple_list, ?_⟩ | refine ⟨_, _, Value.type "int", Value.type "tuple", false, rfl, ClsV.ty _, TyX.base (TyOf.int _), kt_int_tuple, ?_⟩ | refine ⟨_, _, Value.type "bool", Value.type "tuple", false, rfl, ClsV.ty _, TyX.base (TyOf.bl _), kt_bool_tuple, ?_⟩ | refine ⟨_, _, Value.type "str", Value.type "tuple", false, rfl, ClsV.ty _, TyX.base (TyOf.str _), kt_str_tuple, ?_⟩ | refine ⟨_, _, Value.type "NoneType", Value.type "tuple", false, rfl, ClsV.ty _, TyX.base TyOf.non, kt_NoneType_tuple, ?_⟩ | refine ⟨_, _, Value.type "list", Value.type "tuple", false, rfl, ClsV.ty _, tyx_L (by walk_at "sq"), kt_list_tuple, ?_⟩ | refine ⟨_, _, Value.type "tuple", Value.type "tuple", true, rfl, ClsV.ty _, tyx_T (by walk_at "sq"), kt_tuple_tuple, ?_⟩ | refine ⟨_, _, Value.type "int", Value.type "bool", false, rfl, ClsV.ty _, TyX.base (TyOf.int _), kt_int_bool, ?_⟩ | refine ⟨_, _, Value.type "bool", Value.type "bool", true, rfl, ClsV.ty _, TyX.base (TyOf.bl _), kt_bool_bool, ?_⟩ | refine ⟨_, _, Value.type "str", Value.type "bool", false, rfl, ClsV.ty _, TyX.base (TyOf.str _), kt_str_bool, ?_⟩ | refine ⟨_, _, Value.type "NoneType", Value.type "bool", false, rfl, ClsV.ty _, TyX.base TyOf.non, kt_NoneType_bool, ?_⟩ | refine ⟨_, _, Value.type "list", Value.type "bool", false, rfl, ClsV.ty _, tyx_L (by walk_at "sq"), kt_list_bool, ?_⟩ | refine ⟨_, _, Value.type "tuple", Value.type "bool", false, rfl, ClsV.ty _, tyx_T (by walk_at "sq"), kt_tuple_bool, ?_⟩ | refine ⟨_, _, Value.type "int", Value.type "int", true, rfl, ClsV.ty _, TyX.base (TyOf.int _), kt_int_int, ?_⟩ | refine ⟨_, _, Value.type "bool", Value.type "int", true, rfl, ClsV.ty _, TyX.base (TyOf.bl _), kt_bool_int, ?_⟩ | refine ⟨_, _, Value.type "str", Value.type "int", false, rfl, ClsV.ty _, TyX.base (TyOf.str _), kt_str_int, ?_⟩ | refine ⟨_, _, Value.type "NoneType", Value.type "int", false, rfl, ClsV.ty _, TyX.base TyOf.non, kt_NoneType_int, ?_⟩ | refine ⟨_, _, Value.type "list", Value.type "int", false, rfl, ClsV.ty _, tyx_L (by walk_at "sq"), kt_list_int, ?_⟩ | refine ⟨_, _, Value.type "tuple", Value.type "int", false, rfl, ClsV.ty _, tyx_T (by walk_at "sq"), kt_tuple_int, ?_⟩ | refine ⟨_, _, Value.type "int", Value.type "str", false, rfl, ClsV.ty _, TyX.base (TyOf.int _), kt_int_str, ?_⟩ | refine ⟨_, _, Value.type "bool", Value.type "str", false, rfl, ClsV.ty _, TyX.base (TyOf.bl _), kt_bool_str, ?_⟩ | refine ⟨_, _, Value.type "str", Value.type "str", true, rfl, ClsV.ty _, TyX.base (TyOf.str _), kt_str_str, ?_⟩ | refine ⟨_, _, Value.type "NoneType", Value.type "str", false, rfl, ClsV.ty _, TyX.base TyOf.non, kt_NoneType_str, ?_⟩ | refine ⟨_, _, Value.type "list", Value.type "str", false, rfl, ClsV.ty _, tyx_L (by walk_at "sq"), kt_list_str, ?_⟩ | refine ⟨_, _, Value.type "tuple", Value.type "str", false, rfl, ClsV.ty _, tyx_T (by walk_at "sq"), kt_tuple_str, ?_⟩)
local macro_rules | `(tactic| walk_at "go1") => `(tactic| first
  | (refine ⟨_, rfl, ?_⟩)
  | (refine ⟨_, _, rfl, rfl, ?_⟩)
  | (refine ⟨_, _, _, _, rfl, rfl, SqL.of (by walk_at "hp"), rfl, ?_⟩)
  | (refine Or.inl ⟨_, rfl, ?_⟩)
  | (refine ⟨rfl, ?_⟩)
  | (refine ⟨_, _, rfl, .inl (SqL.of (by walk_at "hp")), ?_⟩)
  | (refine ⟨_, _, rfl, Or.inl (by assumption), ?_⟩)
  | (refine ⟨_, _, rfl, Or.inr (by assumption), ?_⟩)
  | (refine ⟨(by walk_at "ok"), ?_⟩)
  | (refine ⟨_, _, _, _, rfl, rfl, (by walk_at "hp"), rfl, ?_⟩))
local macro_rules | `(tactic| walk_at "go") => `(tactic| repeat (walk_at "go1"))
local macro_rules | `(tactic| walk_at "gt") => `(tactic| repeat (first | walk_at "go1" | walk_at "ty"))

section
variable {P : Program} {w : World} {K : PySem.W.Frag} {mg : Str → Option Value} {base : Heap}
theorem d_fdiv : PySem.dunder Operator.FloorDiv.info.2 = ("__floordiv__" : Str) := by decide +kernel
theorem o_rmul (T : Tx K mg) : OpAt K T.C_Ratio T.f_Ratio_mul (PySem.dunder Operator.Mult.info.2) := ⟨T.sfR, by rw [d_mul]; exact T.a_Ratio_mul.at_, T.a_Ratio_mul.fn⟩
theorem o_rdiv (T : Tx K mg) : OpAt K T.C_Ratio T.f_Ratio_floordiv (PySem.dunder Operator.FloorDiv.info.2) := ⟨T.sfR, by rw [d_fdiv]; exact T.a_Ratio_floordiv.at_, T.a_Ratio_floordiv.fn⟩
theorem ints_of2 {R : Int → Prop} : ∀ ys : List V, (∀ y ∈ ys, ∃ d, y = V.int d ∧ R d) → ∃ ns : List Int, ys = ns.map V.int ∧ ns.length = ys.length ∧ ∀ d ∈ ns, R d
  | [], _ => ⟨[], rfl, rfl, fun d h => by cases h⟩
  | y :: ys, h => by
    obtain ⟨d, rfl, hd⟩ := h y List.mem_cons_self
    obtain ⟨ns, rfl, h2, h3⟩ := ints_of2 ys fun z hz => h z (List.mem_cons_of_mem _ hz)
    refine ⟨d :: ns, rfl, by simp, fun e he => ?_⟩
    rcases List.mem_cons.mp he with q | q
    · rw [q]
      exact hd
    · exact h3 e q
def EvR (K : PySem.W.Frag) (C : Addr) (te : TE) (σ : L2.St) (H : Hp) (e : List Int) : Prop := ∀ H1, Same H H1 → ∀ Q : VK, (∀ p H2, Same H1 H2 → RAt K C H2 p e → Q (.ref p) H2) → te σ H1 Q
def EvT (K : PySem.W.Frag) (te : TE) (σ : L2.St) (H : Hp) (e : List Int) : Prop := ∀ H1, Same H H1 → ∀ Q : VK, (∀ p H2, Same H1 H2 → TAt K H2 p e → Q (.ref p) H2) → te σ H1 Q
def TasI (K : PySem.W.Frag) (H : Hp) (ps : List V) (es : List (List Int)) : Prop := ps.length = es.length ∧ ∀ (i : Nat) p, ps[i]? = some p → ∃ t e, p = .ref t ∧ es[i]? = some e ∧ TAt K H t e
def EvRs (K : PySem.W.Frag) (C : Addr) (ta : TA) (σ : L2.St) (H : Hp) (es : List (List Int)) : Prop := ∀ H1, Same H H1 → ∀ Q : List V → Hp → Prop, (∀ ps H2, Same H1 H2 → Ras K C H2 ps es → Q ps H2) → ta σ H1 Q
def EvTI (K : PySem.W.Frag) (ta : TA) (σ : L2.St) (H : Hp) (es : List (List Int)) : Prop := ∀ H1, Same H H1 → ∀ Q : List V → Hp → Prop, (∀ ps H2, Same H1 H2 → TasI K H2 ps es → Q ps H2) → ta σ H1 Q
section
variable {C : Addr} {σ : L2.St} {H : Hp} {ta tb te : TE} {x y : List Int} {E : XK}
theorem er_var {i : Nat} {p : Addr} (h : σ[i]? = some (some (.ref p))) (hw : RAt K C H p x) : EvR K C (tVar i) σ H x := fun H1 s Q q => ⟨_, h, q p H1 (Same.refl _) (hw.same s)⟩
theorem er_op {f : List Int → List Int → List Int} (ha : EvR K C ta σ H x) (hb : EvR K C tb σ H y) (h1 : up (f x y) < 2 ^ 100000) (h2 : dn (f x y) < 2 ^ 100000) : EvR K C (tOp (rOw C (spR2 K C f) E) ta tb) σ H (f x y) := fun H1 s1 Q q =>
  ha H1 s1 _ fun p H2 s2 hp => hb H2 (s1.trans s2) _ fun r H3 s3 hr => by
    have hp3 := hp.same s3
    obtain ⟨dx, _, e, _⟩ := hp3.ex
    obtain ⟨dy, _, g, _⟩ := hr.ex
    exact ⟨p, dx, _, r, dy, _, rfl, rfl, e, g, p, r, x, y, rfl, hp3, hr, h1, h2, fun t H4 s4 ht => q t H4 ((s2.trans s3).trans s4) ht⟩
theorem er_one : EvR K C (tMake C (spRInit K C) [.int 1] E (tCons (tC (.int 1)) tNil)) σ H (List.replicate 6 0) := fun H1 s1 Q q => by
  refine fun x dx nx ndx nex => ⟨x, dx, 1, List.replicate 6 0, rfl, upd_same, by decide, by decide, rfl, fun H2 r2 kp => ⟨rfl, ?_⟩⟩
  have s0 : Same H1 (upd (upd H1 dx (.own x)) x (.ins C dx [])) := fun b o e => by
    rw [upd_ne (ne_of_none e nx), upd_ne (ne_of_none e ndx)]
    exact e
  exact q x H2 (fun b o e => kp b o (s0 b o e) (ne_of_none e nx)) r2
theorem ers_nil : EvRs K C tNil σ H [] := fun H1 s Q q => q [] H1 (Same.refl _) ⟨rfl, fun i p h => by cases h⟩
theorem ers_cons {tr : TA} {es : List (List Int)} (h : EvR K C te σ H x) (hr : EvRs K C tr σ H es) : EvRs K C (tCons te tr) σ H (x :: es) := fun H1 s1 Q q =>
  h H1 s1 _ fun p H2 s2 hp => hr H2 (s1.trans s2) _ fun ps H3 s3 hps => q (.ref p :: ps) H3 (s2.trans s3) ⟨by simp [hps.1], fun i r hr' => by
    match i, hr' with
    | 0, hr' => cases hr'; exact ⟨p, x, rfl, rfl, hp.same s3⟩
    | i + 1, hr' => exact hps.2 i r hr'⟩
theorem et_var {i : Nat} {p : Addr} (h : σ[i]? = some (some (.ref p))) (hw : TAt K H p x) : EvT K (tVar i) σ H x := fun H1 s Q q => ⟨_, h, q p H1 (Same.refl _) (hw.same s)⟩
theorem et_op {f : List Int → List Int → List Int} {i j : Nat} {p r : Addr} (hi : σ[i]? = some (some (.ref p))) (hj : σ[j]? = some (some (.ref r))) (hx : TAt K H p x) (hy : TAt K H r y) (fx : Fit x) (fy : Fit y) : EvT K (tCall (spL2 K f) [] E (tCons (tVar i) (tCons (tVar j) tNil))) σ H (f x y) := fun H1 s1 Q q =>
  ⟨_, hi, _, hj, p, r, x, y, rfl, hx.same s1, hy.same s1, fx, fy, fun t H2 s2 ht => q t H2 s2 ht⟩
theorem et_flip {i : Nat} {p : Addr} (hi : σ[i]? = some (some (.ref p))) (hx : TAt K H p x) : EvT K (tTup (tCons (tOp (rIxT K) (tVar i) (tC (.int 1))) (tCons (tOp (rIxT K) (tVar i) (tC (.int 0))) tNil))) σ H (negE x) := fun H1 s1 Q q => by
  have h1 := hx.same s1
  refine ⟨_, hi, _, _, _, _, rfl, rfl, h1.ex, rfl, _, hi, _, _, _, _, rfl, rfl, h1.ex, rfl, (by show 2 ≤ sizeLine; decide), fun p hp => ?_⟩
  exact q p _ (Same.new hp) ⟨SqT.of (by rw [up_neg, dn_neg]; exact upd_same), by simpa [negE] using hx.len⟩
theorem eti_nil : EvTI K tNil σ H [] := fun H1 s Q q => q [] H1 (Same.refl _) ⟨rfl, fun i p h => by cases h⟩
theorem TasI.same {H' : Hp} {ps : List V} {es : List (List Int)} (h : TasI K H ps es) (s : Same H H') : TasI K H' ps es := ⟨h.1, fun i p hp => by
  obtain ⟨t, e, e1, e2, e3⟩ := h.2 i p hp
  exact ⟨t, e, e1, e2, e3.same s⟩⟩
theorem Ras.same {H' : Hp} {ps : List V} {es : List (List Int)} (h : Ras K C H ps es) (s : Same H H') : Ras K C H' ps es := ⟨h.1, fun i p hp => by
  obtain ⟨t, e, e1, e2, e3⟩ := h.2 i p hp
  exact ⟨t, e, e1, e2, e3.same s⟩⟩
theorem eti_cons {tr : TA} {es : List (List Int)} (h : EvT K te σ H x) (hr : EvTI K tr σ H es) : EvTI K (tCons te tr) σ H (x :: es) := fun H1 s1 Q q =>
  h H1 s1 _ fun p H2 s2 hp => hr H2 (s1.trans s2) _ fun ps H3 s3 hps => q (.ref p :: ps) H3 (s2.trans s3) ⟨by simp [hps.1], fun i r hr' => by
    match i, hr' with
    | 0, hr' => cases hr'; exact ⟨p, x, rfl, rfl, hp.same s3⟩
    | i + 1, hr' => exact hps.2 i r hr'⟩
theorem seen_set {rest : TS} {D : Ends} {i : Nat} {ts : TA} {es : List (List Int)} (h : EvRs K C ts σ H es) (hz : es.length ≤ 1000) (k : ∀ qs p H', Same H H' → Iss K H' qs es → H' p = some (.lst qs) → rest D (σ.set i (some (.ref p))) H') :
    tSeq (tAsg (tCall (spSeen1 K C) [] E (tCons (tLst ts) tNil)) (gName i)) rest D σ H :=
  h H (Same.refl _) _ fun ps H1 s1 hw => ⟨by rw [hw.1]; exact Nat.le_of_lt (Nat.lt_of_le_of_lt hz (by decide)), fun p hp =>
    have s2 := Same.new (o := .lst ps) hp
    ⟨p, ps, es, rfl, SqL.of upd_same, hw.same s2, hz, fun t qs H' s3 ht hi => k qs t H' ((s1.trans s2).trans s3) hi ht⟩⟩
theorem fr_set {rest : TS} {D : Ends} {i : Nat} {ts : TA} {es : List (List Int)} (h : EvTI K ts σ H es) (hz : es.length ≤ 1000) (k : ∀ qs p H', Same H H' → TasI K H' qs es → H' p = some (.lst qs) → rest D (σ.set i (some (.ref p))) H') :
    tSeq (tAsg (tLst ts) (gName i)) rest D σ H :=
  h H (Same.refl _) _ fun ps H1 s1 hw => ⟨by rw [hw.1]; exact Nat.le_of_lt (Nat.lt_of_le_of_lt hz (by decide)), fun p hp =>
    have s2 := Same.new (o := .lst ps) hp
    k ps p _ (s1.trans s2) (hw.same s2) upd_same⟩
theorem is_deq {t t' : Addr} {e : List Int} {n : Nat} (h : IsAt K H t e) (h' : IsAt K H t' e) : DEq K H (n + 1) (.ref t) (.ref t') := .tup h h' (by show 3 ≤ 100000; decide) rfl fun i u v hu hv => by
  match i, hu, hv with
  | 0, hu, hv => cases hu; cases hv; exact .str _
  | 1, hu, hv => cases hu; cases hv; exact .int _
  | 2, hu, hv => cases hu; cases hv; exact .int _
theorem iss_deq {a b : Addr} {ps qs : List V} {es : List (List Int)} {n : Nat} (ha : SqL K H a ps) (hb : SqL K H b qs) (h : Iss K H ps es) (h' : Iss K H qs es) (hz : es.length ≤ 1000) : DEq K H (n + 2) (.ref a) (.ref b) :=
  .lst ha hb (by rw [h.1]; omega) (by rw [h.1, h'.1]) fun i u v hu hv => by
    obtain ⟨t, e, rfl, e1, e2⟩ := h.2 i u hu
    obtain ⟨t', e', rfl, g1, g2⟩ := h'.2 i v hv
    obtain rfl : e = e' := Option.some.inj (e1.symm.trans g1)
    exact is_deq e2 g2
end
end
end TL
namespace TL.W
open TL
open PySem L2
/-! ### the wedge of two ratios, reckoned -/
theorem zip_same {α : Type} (F : Int → Int → Int) (f g : α → Int) : ∀ l : List α, List.zipWith F (l.map f) (l.map g) = l.map fun a => F (f a) (g a)
  | [] => rfl
  | a :: l => by simp only [List.map_cons, List.zipWith_cons_cons, zip_same F f g l]
theorem gd_add {x y : List Int} (h : x.length = y.length) (i : Nat) : (addE x y).getD i 0 = x.getD i 0 + y.getD i 0 := by
  unfold addE
  simp only [List.getD_eq_getElem?_getD, List.getElem?_zipWith]
  rcases Nat.lt_or_ge i x.length with c | c
  · rw [List.getElem?_eq_getElem c, List.getElem?_eq_getElem (by omega)]
    rfl
  · rw [List.getElem?_eq_none c, List.getElem?_eq_none (by omega)]
    rfl
theorem gd_neg (x : List Int) (i : Nat) : (negE x).getD i 0 = - x.getD i 0 := by
  unfold negE
  simp only [List.getD_eq_getElem?_getD, List.getElem?_map]
  cases x[i]? <;> simp
theorem gd_mul (n : Int) (x : List Int) (i : Nat) : (mulE n x).getD i 0 = n * x.getD i 0 := by
  unfold mulE
  simp only [List.getD_eq_getElem?_getD, List.getElem?_map]
  cases x[i]? <;> simp
theorem gd_zero (i : Nat) : (List.replicate 6 (0 : Int)).getD i 0 = 0 := by
  simp only [List.getD_eq_getElem?_getD, List.getElem?_replicate]
  split <;> rfl
theorem w_ext {f g : Nat → Nat → Int} {a b : Nat → Int} (h1 : ∀ i j, f i j = g i j) (h2 : ∀ i, a i = b i) : ((PR.map fun p => f p.1 p.2, (List.range 6).map a) : W2) = (PR.map fun p => g p.1 p.2, (List.range 6).map b) := by
  have e1 : f = g := funext fun i => funext fun j => h1 i j
  have e2 : a = b := funext h2
  rw [e1, e2]
theorem wed_add_r {x y z : List Int} (h : y.length = z.length) : addW (wedE x y) (wedE x z) = wedE x (addE y z) := by
  unfold addW wedE
  dsimp only
  rw [zip_same, zip_same]
  refine w_ext (f := fun i j => ct x y i j + ct x z i j) (g := fun i j => ct x (addE y z) i j) (fun i j => ?_) fun i => ?_
  · unfold ct
    rw [gd_add h, gd_add h, Int.mul_add, Int.mul_add]
    omega
  · rw [gd_add h, Int.mul_add, fm2, fm2, fm2, fm2]
    omega
theorem wed_add_l {x y z : List Int} (h : x.length = z.length) : addW (wedE x y) (wedE z y) = wedE (addE x z) y := by
  unfold addW wedE
  dsimp only
  rw [zip_same, zip_same]
  refine w_ext (f := fun i j => ct x y i j + ct z y i j) (g := fun i j => ct (addE x z) y i j) (fun i j => ?_) fun i => ?_
  · unfold ct
    rw [gd_add h, gd_add h, Int.add_mul, Int.add_mul]
    omega
  · rw [gd_add h, Int.add_mul, fm2, fm2, fm2, fm2]
    omega
theorem wed_sub_r {x y z : List Int} (h : y.length = z.length) : subW (wedE x y) (wedE x z) = wedE x (subE y z) := by
  have hz : y.length = (negE z).length := by simp [negE, h]
  unfold subW wedE
  dsimp only
  rw [zip_same, zip_same, sub_addE]
  refine w_ext (f := fun i j => ct x y i j - ct x z i j) (g := fun i j => ct x (addE y (negE z)) i j) (fun i j => ?_) fun i => ?_
  · unfold ct
    rw [gd_add hz, gd_add hz, gd_neg, gd_neg, Int.mul_add, Int.mul_add, Int.mul_neg, Int.mul_neg]
    omega
  · rw [gd_add hz, gd_neg, Int.mul_add, Int.mul_neg, fm2, fm2, fm2, fm2]
    omega
theorem wed_mul (n : Int) (x y : List Int) : wedE (mulE n x) y = mulW n (wedE x y) := by
  unfold mulW wedE
  dsimp only
  rw [List.map_map, List.map_map]
  refine w_ext (f := fun i j => ct (mulE n x) y i j) (g := fun i j => n * ct x y i j) (fun i j => ?_) fun i => ?_
  · unfold ct
    rw [gd_mul, gd_mul, Int.mul_sub, Int.mul_assoc, Int.mul_assoc]
  · show ((mulE n x).getD i 0 * y.getD i 0).fmod 2 = (n * (x.getD i 0 * y.getD i 0).fmod 2).fmod 2
    rw [gd_mul, Int.mul_assoc]
    generalize x.getD i 0 * y.getD i 0 = u
    rw [fm2, fm2, fm2, Int.mul_emod n (u % 2), Int.emod_emod, ← Int.mul_emod]
theorem wed_neg (x y : List Int) : wedE y x = negW (wedE x y) := by
  unfold negW wedE
  dsimp only
  rw [List.map_map]
  refine w_ext (f := fun i j => ct y x i j) (g := fun i j => - ct x y i j) (fun i j => ?_) fun i => ?_
  · unfold ct
    rw [Int.mul_comm (y.getD i 0), Int.mul_comm (y.getD j 0)]
    omega
  · rw [Int.mul_comm]
theorem wed_self {x : List Int} (h6 : x.length = 6) : wedE x x = (List.replicate 15 0, bitsE x) := by
  have e1 : (wedE x x).1 = List.replicate 15 0 := (wedE_zero x x).mpr fun i j _ _ => by
    unfold gg
    rw [Int.mul_comm]
    omega
  have e2 : (wedE x x).2 = bitsE x := by
    unfold wedE bitsE
    dsimp only
    apply List.ext_getElem
    · simp [h6]
    · intro i h1 h2
      simp only [List.getElem_map, List.getElem_range]
      rw [List.getD_eq_getElem?_getD, List.getElem?_eq_getElem (by simpa using h2)]
      simp only [Option.getD_some]
      rw [fm2, fm2]
      have hi : i < x.length := by simpa using h2
      generalize x[i] = u
      rcases Int.emod_two_eq u with e | e
      · rw [Int.mul_emod, e]; rfl
      · rw [Int.mul_emod, e]; rfl
  exact Prod.ext e1 e2
theorem wed_zero_r (x : List Int) : wedE x (List.replicate 6 0) = zeroW := by
  have : wedE x (List.replicate 6 0) = (PR.map fun p => (fun _ _ => (0 : Int)) p.1 p.2, (List.range 6).map fun _ => 0) := w_ext (f := fun i j => ct x (List.replicate 6 0) i j) (g := fun _ _ => 0) (fun i j => by
    unfold ct
    rw [gd_zero, gd_zero, Int.mul_zero, Int.mul_zero]
    rfl) fun i => by
    rw [gd_zero, Int.mul_zero]
    rfl
  rw [this]
  rfl
theorem wed_zero_l (y : List Int) : wedE (List.replicate 6 0) y = zeroW := by
  rw [wed_neg, wed_zero_r]
  rfl
theorem wed_back (x y : List Int) : addW (wedE x y) (wedE y x) = zeroW := by
  rw [wed_neg x y, ← sub_add, sub_self (wedE_ok x y)]
end TL.W
namespace TL.W
open TL
open PySem L2

/-! ### steps of a reading -/
local macro_rules | `(tactic| walk_at "hp") => `(tactic| first | assumption | exact upd_same | (refine (upd_ne (by first | assumption | (exact Ne.symm (by assumption)))).trans ?_; walk_at "hp"))
local macro_rules | `(tactic| walk_at "ok") => `(tactic| first | (exact Or.inr ⟨by decide, by decide⟩) | (exact ⟨by decide, by decide⟩) | (exact ⟨by decide, by decide, by decide⟩) | (show _ ≠ _; omega) | (show _ ≠ _; decide) | (exact Or.inl ⟨by omega, by omega⟩) | decide)
local macro_rules | `(tactic| walk_at "sq") => `(tactic| first | assumption | exact SqL.of (by walk_at "hp") | exact SqT.of (by walk_at "hp"))
local macro_rules | `(tactic| walk_at "ty") => `(tactic| first | refine ⟨_, _, Value.type "int", Value.type "list", false, rfl, ClsV.ty _, TyX.base (TyOf.int _), kt_int_list, ?_⟩ | refine ⟨_, _, Value.type "bool", Value.type "list", false, rfl, ClsV.ty _, TyX.base (TyOf.bl _), kt_bool_list, ?_⟩ | refine ⟨_, _, Value.type "str", Value.type "list", false, rfl, ClsV.ty _, TyX.base (TyOf.str _), kt_str_list, ?_⟩ | refine ⟨_, _, Value.type "NoneType", Value.type "list", false, rfl, ClsV.ty _, TyX.base TyOf.non, kt_NoneType_list, ?_⟩ | refine ⟨_, _, Value.type "list", Value.type "list", true, rfl, ClsV.ty _, tyx_L (by walk_at "sq"), kt_list_list, ?_⟩ | refine ⟨_, _, Value.type "tuple", Value.type "list", false, rfl, ClsV.ty _, tyx_T (by walk_at "sq"), kt_tuple_list, ?_⟩ | refine ⟨_, _, Value.type "int", Value.type "tuple", false, rfl, ClsV.ty _, TyX.base (TyOf.int _), kt_int_tuple, ?_⟩ | refine ⟨_, _, Value.type "bool", Value.type "tuple", false, rfl, ClsV.ty _, TyX.base (TyOf.bl _), kt_bool_tuple, ?_⟩ | refine ⟨_, _, Value.type "str", Value.type "tuple", false, rfl, ClsV.ty _, TyX.base (TyOf.str _), kt_str_tuple, ?_⟩ | refine ⟨_, _, Value.type "NoneType", Value.type "tuple", false, rfl, ClsV.ty _, TyX.base TyOf.non, kt_NoneType_tuple, ?_⟩ | refine ⟨_, _, Value.type "list", Value.type "tuple", false, rfl, ClsV.ty _, tyx_L (by walk_at "sq"), kt_list_tuple, ?_⟩ | refine ⟨_, _, Value.type "tuple", Value.type "tuple", true, rfl, ClsV.ty _, tyx_T (by walk_at "sq"), kt_tuple_tuple, ?_⟩ | refine ⟨_, _, Value.type "int", Value.type "bool", false, rfl, ClsV.ty _, TyX.base (TyOf.int _), kt_int_bool, ?_⟩ | refine ⟨_, _, Value.type "bool", Value.type "bool", true, rfl, ClsV.ty _, TyX.base (TyOf.bl _), kt_bool_bool, ?_⟩ | refine ⟨_, _, Value.type "str", Value.type "bool", false, rfl, ClsV.ty _, TyX.base (TyOf.str _), kt_str_bool, ?_⟩ | refine ⟨_, _, Value.type "NoneType", Value.type "bool", false, rfl, ClsV.ty _, TyX.base TyOf.non, kt_NoneType_bool, ?_⟩ | refine ⟨_, _, Value.type "list", Value.type "bool", false, rfl, ClsV.ty _, tyx_L (by walk_at "sq"), kt_list_bool, ?_⟩ | refine ⟨_, _, Value.type "tuple", Value.type "bool", false, rfl, ClsV.ty _, tyx_T (by walk_at "sq"), kt_tuple_bool, ?_⟩ | refine ⟨_, _, Value.type "int", Value.type "int", true, rfl, ClsV.ty _, TyX.base (TyOf.int _), kt_int_int, ?_⟩ | refine ⟨_, _, Value.type "bool", Value.type "int", true, rfl, ClsV.ty _, TyX.base (TyOf.bl _), kt_bool_int, ?_⟩ | refine ⟨_, _, Value.type "str", Value.type "int", false, rfl, ClsV.ty _, TyX.base (TyOf.str _), kt_str_int, ?_⟩ | refine ⟨_, _, Value.type "NoneType", Value.type "int", false, rfl, ClsV.ty _, TyX.base TyOf.non, kt_NoneType_int, ?_⟩ | refine ⟨_, _, Value.type "list", Value.type "int", false, rfl, ClsV.ty _, tyx_L (by walk_at "sq"), kt_list_int, ?_⟩ | refine ⟨_, _, Value.type "tuple", Value.type "int", false, rfl, ClsV.ty _, tyx_T (by walk_at "sq"), kt_tuple_int, ?_⟩ | refine ⟨_, _, Value.type "int", Value.type "str", false, rfl, ClsV.ty _, TyX.base (TyOf.int _), kt_int_str, ?_⟩ | refine ⟨_, _, Value.type "bool", Value.type "str", false, rfl, ClsV.ty _, TyX.base (TyOf.bl _), kt_bool_str, ?_⟩ | refine ⟨_, _, Value.type "str", Value.type "str", true, rfl, ClsV.ty _, TyX.base (TyOf.str _), kt_str_str, ?_⟩ | refine ⟨_, _, Value.type "NoneType", Value.type "str", false, rfl, ClsV.ty _, TyX.base TyOf.non, kt_NoneType_str, ?_⟩ | refine ⟨_, _, Value.type "list", Value.type "str", false, rfl, ClsV.ty _, tyx_L (by walk_at "sq"), kt_list_str, ?_⟩ | refine ⟨_, _, Value.type "tuple", Value.type "str", false, rfl, ClsV.ty _, tyx_T (by walk_at "sq"), kt_tuple_str, ?_⟩)
local macro_rules | `(tactic| walk_at "go1") => `(tactic| first
  | (refine ⟨_, rfl, ?_⟩)
  | (refine ⟨_, _, rfl, rfl, ?_⟩)
  | (refine ⟨_, _, _, _, rfl, rfl, SqL.of (by walk_at "hp"), rfl, ?_⟩)
  | (refine Or.inl ⟨_, rfl, ?_⟩)
  | (refine ⟨rfl, ?_⟩)
  | (refine ⟨_, _, rfl, .inl (SqL.of (by walk_at "hp")), ?_⟩)
  | (refine ⟨_, _, rfl, Or.inl (by assumption), ?_⟩)
  | (refine ⟨_, _, rfl, Or.inr (by assumption), ?_⟩)
  | (refine ⟨(by walk_at "ok"), ?_⟩)
  | (refine ⟨_, _, _, _, rfl, rfl, (by walk_at "hp"), rfl, ?_⟩))
local macro_rules | `(tactic| walk_at "go") => `(tactic| repeat (walk_at "go1"))
local macro_rules | `(tactic| walk_at "gt") => `(tactic| repeat (first | walk_at "go1" | walk_at "ty"))

section
variable {P : Program} {w : World} {K : PySem.W.Frag} {mg : Str → Option Value} {base : Heap}
/-- small ratios: below 30030 to the third -/
def Sd (e : List Int) : Prop := Sm (30030 ^ 3) e
def spRDrawn (K : PySem.W.Frag) : Sp := fun vs H Q _ => ∃ (B : Bg), vs = [.ref B.b] ∧ Bag B H ∧ ∀ t e H', Bag B H' → Kb B.b H H' → TAt K H' t e → Sd e → Q (.ref t) H'
theorem sd_sm {e : List Int} (h : Sm 625 e) : Sd e := ⟨Nat.le_trans h.1 (by decide), Nat.le_trans h.2 (by decide)⟩
theorem sd_neg {x : List Int} (h : Sd x) : Sd (negE x) := ⟨by rw [up_neg]; exact h.2, by rw [dn_neg]; exact h.1⟩
theorem sd_ex {e : List Int} (ex : Ex 3 e) : Sd e := ⟨ex_up ex, ex_dn ex⟩
theorem ok_rdrawn (T : Tx K mg) : FnOk P w K mg base CX0 5 T.f_l_ratio_drawn T.d_l_ratio_drawn ["_law_bag_here"] (spRDrawn K) := by
  have G_l_length := ok_l_length (P := P) (w := w) (base := base) T
  have G_l_draw := ok_draw (P := P) (w := w) (base := base) T
  have G_l_built := ok_l_built (P := P) (w := w) (base := base) T
  refine T.F_l_ratio_drawn.ok sc_l_ratio_drawn (fun vs H Q E h => ?_) (fun cdv A outer s H vs Q E hr h => ?_)
  · obtain ⟨B, rfl, _⟩ := h
    rfl
  obtain ⟨B, rfl, hB, q⟩ := h
  have nd := sc_l_ratio_drawn.nd
  refine ⟨_, (pss_cons (ps_set (i := 1) nd rfl (Or.inl rfl) (pe_call G_l_draw (hr.mono (by decide)) (by rfl) T.m_l_draw T.F_l_draw.kp T.b_l_draw .nil pass0 (pa_cons (pv 0) (pa_cons pe_int pa_nil))))
    (pss_cons (ps_if (pt_cmpR op_eq (pv 1) pe_int (nomark _)) (pss_one (ps_ret (pe_tup (pa_cons pe_int (pa_cons pe_int pa_nil))))) pss_nil)
    (pss_cons (ps_if (pt_cmpR op_eq (pv 1) pe_int (nomark _)) (pss_one (ps_ret (pe_call G_l_built (hr.mono (by decide)) (by rfl) T.m_l_built T.F_l_built.kp T.b_l_built .nil pass0 (pa_cons (pe_lc (own := [("_law_turn", 3)]) (g := (gName 3)) rfl nd (pi_range1 (by rfl) T.z_range (pa_cons pe_int pa_nil)) (blkOk_by (own := [("_law_turn", 3)]) (N := N_l_ratio_drawn) (sc := defScope s_l_ratio_drawn) (by decide +kernel)) (fun _ _ _ _ _ => by exact (pg_name (i := 3) nd rfl (Or.inl rfl))) (fun _ _ _ _ _ => by exact pts_nil) (fun _ _ _ _ _ => by exact (pe_op op_sub (pe_call G_l_draw (hr.mono (by decide)) (by rfl) T.m_l_draw T.F_l_draw.kp T.b_l_draw .nil pass0 (pa_cons (pv 0) (pa_cons pe_int pa_nil))) pe_int))) pa_nil)))) pss_nil)
    (pss_cons (ps_set (i := 2) nd rfl (Or.inl rfl) (pe_call G_l_length hr (by rfl) T.m_l_length T.F_l_length.kp T.b_l_length .nil pass0 (pa_cons (pv 0) pa_nil)))
    (pss_one (ps_ret (pe_ifExp (pt_cmpR op_eq (pv 1) pe_int (nomark _)) (pe_tup (pa_cons (pe_ix (show IxR _ (rIxT K) from ix_tup) (pv 2) pe_int (fun _ _ => rfl)) (pa_cons (pe_ix (show IxR _ (rIxT K) from ix_tup) (pv 2) pe_int (fun _ _ => rfl)) pa_nil))) (pv 2)))))))), ?_⟩
  refine ⟨_, rfl, B, 6, rfl, by decide, by decide, hB, fun kind H0 k0 k1 hB0 kb0 => ?_⟩
  refine ⟨_, rfl, rfl, _, rfl, ?_⟩
  refine ite2 (fun c => ?_) (fun c => ?_)
  · refine ⟨(by show 2 ≤ sizeLine; decide), fun p hp => ?_⟩
    have s3 := Same.new (o := .tup [.int 1, .int 1]) hp
    exact q p (List.replicate 6 0) _ (hB0.same s3) (kb0.trans (Kb.same s3)) ⟨SqT.of upd_same, rfl⟩ ⟨by decide, by decide⟩
  refine ⟨_, rfl, rfl, _, rfl, ?_⟩
  refine ite2 (fun c2 => ?_) (fun c2 => ?_)
  · refine ⟨6, rfl, by decide, by decide, fun D hD => ?_⟩
    refine lcb (walk_range (lo := 0) (n := 6)) (fun y => ∃ d : Int, y = .int d ∧ d.natAbs ≤ 3) (by decide) hB0 hD (fun _ _ => trivial) ?_ ?_
    · rintro j y H5 H6 hj kb7 hB6 ⟨rfl, rfl⟩ k hk
      refine ⟨rfl, ?_⟩
      refine ⟨_, rfl, B, 7, rfl, by decide, by decide, hB6, fun d H7 d0 d1 hB7 kb8 => ⟨_, _, rfl, rfl, hk _ H7 ⟨d - 3, rfl, by omega⟩ kb8 hB7⟩⟩
    intro ys H3 hl hys kb3 hB3 hD3
    obtain ⟨e, rfl, hb1, hb2⟩ := ints_of2 ys hys
    have hl6 : e.length = 6 := by omega
    have ex : Ex 3 e := hb2
    refine ⟨D, e, rfl, SqL.of hD3, hl6, fun x hx => by have := hb2 x hx; omega, ⟨Nat.lt_of_le_of_lt (ex_up ex) (big (by decide)), Nat.lt_of_le_of_lt (ex_dn ex) (big (by decide))⟩, fun t H4 s4 ht => ?_⟩
    exact q t e H4 (hB3.same s4) ((kb0.trans kb3).trans (Kb.same s4)) ht (sd_ex ex)
  · refine ⟨_, rfl, B, rfl, hB0, fun t e H1 hB1 kb1 ht he => ?_⟩
    refine ⟨_, rfl, rfl, _, rfl, ?_⟩
    refine ite2 (fun o => ?_) (fun o => ?_)
    · refine ⟨_, rfl, _, _, _, _, rfl, rfl, ht.ex, rfl, _, rfl, _, _, _, _, rfl, rfl, ht.ex, rfl, (by show 2 ≤ sizeLine; decide), fun p hp => ?_⟩
      have s3 := Same.new (o := .tup [.int ((dn e : Nat) : Int), .int ((up e : Nat) : Int)]) hp
      exact q p (negE e) _ (hB1.same s3) ((kb0.trans kb1).trans (Kb.same s3)) ⟨SqT.of (by rw [up_neg, dn_neg]; exact upd_same), by simpa [negE] using ht.len⟩ (sd_neg (sd_sm he))
    · exact ⟨_, rfl, q t e H1 hB1 (kb0.trans kb1) ht (sd_sm he)⟩
/-! ### what evaluates to what -/
section
variable {C C2 : Addr} {σ : L2.St} {H : Hp} {ta tb te : TE} {x y : List Int} {u : W2} {E : XK}
theorem ew_wof (ha : EvR K C ta σ H x) (hb : EvR K C tb σ H y) (he : Ex (10 ^ 6) x) : EvW K C2 (tCall (spWedgeOf K C C2) [] E (tCons ta (tCons tb tNil))) σ H (wedE x y) := fun H1 s1 Q q =>
  ha H1 s1 _ fun p H2 s2 hp => hb H2 (s1.trans s2) _ fun r H3 s3 hr => ⟨p, r, x, y, rfl, hp.same s3, hr, he, fun t H4 s4 ht => q t H4 ((s2.trans s3).trans s4) ht⟩
theorem ew_wofK (hb : EvR K C tb σ H y) (ha : EvR K C ta σ H x) (he : Ex (10 ^ 6) x) : EvW K C2 (tCallK0 (spWedgeOf K C C2) g02s E (tCons tb (tCons ta tNil))) σ H (wedE x y) := fun H1 s1 Q q =>
  hb H1 s1 _ fun r H2 s2 hr => ha H2 (s1.trans s2) _ fun p H3 s3 hp => ⟨p, r, x, y, rfl, hp, hr.same s3, he, fun t H4 s4 ht => q t H4 ((s2.trans s3).trans s4) ht⟩
def Pw (k : Int) (e : List Int) : Prop := (∀ x ∈ e, CMulW k x) ∧ up (mulE k e) < 2 ^ 100000 ∧ dn (mulE k e) < 2 ^ 100000
theorem rf_power {u d : Nat} {t : Addr} : (rf u d t).lookup ("power" : Str) = none := rf_no (by decide +kernel) (by decide +kernel) (by decide +kernel)
theorem er_pow {k : Int} (h : EvR K C te σ H x) (hk : EvI ta σ H k) (hp : Pw k x) : EvR K C (tMeth C "power" (spPower K C) [] E te (tCons ta tNil)) σ H (mulE k x) := fun H1 s1 Q q =>
  h H1 s1 _ fun p H2 s2 hr => by
    obtain ⟨dx, t, h1, h2⟩ := hr.ex
    exact ⟨p, dx, _, rfl, h1, rf_power, hk H2 (s1.trans s2) _ fun H3 s3 => ⟨p, k, x, rfl, hr.same s3, hp.1, hp.2.1, hp.2.2, fun t H4 s4 ht => q t H4 ((s2.trans s3).trans s4) ht⟩⟩
theorem el_two (ha : EvT K ta σ H x) (hb : EvT K tb σ H y) (xe : Ex (10 ^ 6) x) (ye : Ex (10 ^ 6) y) : EvL (tCall (spTwo K) [] E (tCons ta (tCons tb tNil))) σ H (wedE x y) := fun H1 s1 Q q =>
  ha H1 s1 _ fun p H2 s2 hp => hb H2 (s1.trans s2) _ fun r H3 s3 hr => ⟨p, r, x, y, rfl, hp.same s3, hr, xe, ye, fun t H4 s4 ht => q t H4 ((s2.trans s3).trans s4) ht⟩
theorem bitsE_ok (h6 : x.length = 6) : WOk (List.replicate 15 0, bitsE x) := by
  rw [← wed_self h6]
  exact wedE_ok x x
theorem el_bits (ha : EvT K te σ H x) : EvL (tTup (tCons (tOp rRep (tLst (tCons (tC (.int 0)) tNil)) (tC (.int 15))) (tCons (tCB (rListOf K) (tCons (tCall (spLBits K) [] E (tCons te tNil)) tNil)) tNil))) σ H (List.replicate 15 0, bitsE x) := fun H1 s1 Q q => by
  refine ⟨(by show 1 ≤ sizeLine; decide), fun p hp => ⟨p, _, _, rfl, rfl, upd_same, by decide, by decide, by decide, fun a ha1 => ?_⟩⟩
  have s2 := (Same.new (o := .lst [V.int 0]) hp).trans (Same.new (o := .lst (zeroW.1.map V.int)) ha1)
  refine ha _ (s1.trans s2) _ fun r H3 s3 hr => ⟨r, x, rfl, hr, fun tb H4 s4 htb => ⟨tb, _, rfl, .inr htb, fun l hl => ?_⟩⟩
  have s5 := Same.new (o := .lst ((bitsE x).map V.int)) hl
  exact LW.mk2 (wd := (List.replicate 15 0, bitsE x)) (bitsE_ok hr.len) (s5 _ _ (s4 _ _ (s3 _ _ upd_same))) upd_same fun t H' s6 ht => q t H' ((((s2.trans s3).trans s4).trans s5).trans s6) ht
theorem el_negT {i k : Nat} {p : Addr} (h : σ[i]? = some (some (.ref p))) (hw : LW H p u) (hk : k < σ.length) : EvL (tTup (tCons (tLc (iList K (tOp (rIxT K) (tVar i) (tC (.int 0)))) (gName k) tYes (tUn (rU fun i => .int (-i)) (tVar k)) [k]) (tCons (tOp (rIxT K) (tVar i) (tC (.int 1))) tNil))) σ H (negW u) := fun H1 s1 Q q => by
  obtain ⟨l1, l2, e1, e2, e3⟩ := (hw.same s1).ex
  refine ⟨_, h, _, _, _, _, rfl, rfl, SqT.of e1, rfl, l1, rfl, ⟨_, SqL.of e2⟩, fun D hD => ?_⟩
  refine lc_mapL (f := fun u => -u) (SqL.of e2) (by rw [hw.ok.l1]; decide) hD (fun u => by simp [wipe]) (fun v H2 kk hu hkk => ⟨_, by simp [wipe, hk], _, rfl, hkk⟩) fun H2 s2 hD2 => ?_
  exact ⟨_, h, _, _, _, _, rfl, rfl, SqT.of (s2 _ _ e1), rfl, LW.mk2 (wd := negW u) (negW_ok hw.ok) hD2 (s2 _ _ e3) fun t H' s3 ht => q t H' (s2.trans s3) ht⟩
theorem el_mulT {i j k : Nat} {p : Addr} {n : Int} (h : σ[i]? = some (some (.ref p))) (hj : σ[j]? = some (some (.int n))) (hn : n.natAbs ≤ 1000) (hw : LW H p u) (hk : k < σ.length) (hjk : k ≠ j) : EvL (tTup (tCons (tLc (iList K (tOp (rIxT K) (tVar i) (tC (.int 0)))) (gName k) tYes (tOp (rI CMul fun i j => .int (i * j)) (tVar j) (tVar k)) [k])
    (tCons (tLc (iList K (tOp (rIxT K) (tVar i) (tC (.int 1)))) (gName k) tYes (tOp (rI0 fun i j => .int (Builtin.bitAnd i j)) (tOp (rI CMul fun i j => .int (i * j)) (tVar j) (tVar k)) (tC (.int 1))) [k]) tNil))) σ H (mulW n u) := fun H1 s1 Q q => by
  obtain ⟨l1, l2, e1, e2, e3⟩ := (hw.same s1).ex
  have rj : ∀ v : V, ((wipe σ [k]).set k (some v))[j]? = some (some (.int n)) := fun v => by
    simp only [wipe]
    rw [List.getElem?_set_ne hjk, List.getElem?_set_ne hjk]
    exact hj
  have rk : ∀ v : V, ((wipe σ [k]).set k (some v))[k]? = some (some v) := fun v => by simp [wipe, hk]
  refine ⟨_, h, _, _, _, _, rfl, rfl, SqT.of e1, rfl, l1, rfl, ⟨_, SqL.of e2⟩, fun D hD => ?_⟩
  refine lc_mapL (f := fun u => n * u) (SqL.of e2) (by rw [hw.ok.l1]; decide) hD (fun u => by simp [wipe]) (fun v H2 kk hu hkk => ⟨_, rj _, _, rk _, n, v, rfl, rfl, cm hn, hkk⟩) fun H2 s2 hD2 => ?_
  refine ⟨_, h, _, _, _, _, rfl, rfl, SqT.of (s2 _ _ e1), rfl, l2, rfl, ⟨_, SqL.of (s2 _ _ e3)⟩, fun D2 hD2' => ?_⟩
  refine lc_mapL (f := fun b => (n * b).fmod 2) (SqL.of (s2 _ _ e3)) (by rw [hw.ok.l2]; decide) hD2' (fun u => by simp [wipe]) (fun v H3 kk hu hkk => ⟨_, rj _, _, rk _, n, v, rfl, rfl, cm hn, _, _, rfl, rfl, by show kk (.int (Builtin.bitAnd (n * v) 1)) _; rw [and1]; exact hkk⟩) fun H3 s3 hD3 => ?_
  exact LW.mk2 (wd := mulW n u) (mulW_ok hw.ok) (s3 _ _ hD2) hD3 fun t H' s4 ht => q t H' ((s2.trans s3).trans s4) ht
theorem if_so_ne {t rest : TS} {D : Ends} (ha : EvB ta σ H true) (hb : EvB tb σ H false) (k : ∀ H', Same H H' → rest D σ H') : tSeq (tIfS (tOr (tNot (tB ta)) (tTest tb)) t tNext) rest D σ H :=
  ha H (Same.refl _) _ fun H1 s1 => ⟨true, rfl, hb H1 s1 _ fun H2 s2 => ⟨false, rfl, k H2 (s1.trans s2)⟩⟩
theorem eb_so_vl {i : Nat} {p : Addr} {ps : List V} {ws : List W2} {tl : TA} (hi : σ[i]? = some (some (.ref p))) (hp : H p = some (.lst ps)) (hw : Wds K C H ps ws) (hb : EvLs tl σ H ws) (hz : ws.length ≤ 1000) : EvB (tCall (spAllSo K C) [] E (tCons (tVar i) (tCons (tLst tl) tNil))) σ H true := fun H1 s1 Q k =>
  ⟨_, hi, hb H1 s1 _ fun qs H2 s2 hl => ⟨by rw [hl.1]; exact Nat.le_of_lt (Nat.lt_of_le_of_lt hz (by decide)), fun q hq =>
    have s3 := Same.new (o := .lst qs) hq
    ⟨p, q, ps, qs, ws, rfl, SqL.of ((s1.trans s2).trans s3 _ _ hp), SqL.of upd_same, hz, hw.same ((s1.trans s2).trans s3), hl.same s3, fun H' s' => k H' ((s2.trans s3).trans s')⟩⟩⟩
def EvIss (K : PySem.W.Frag) (ta : TA) (σ : L2.St) (H : Hp) (es : List (List Int)) : Prop := ∀ H1, Same H H1 → ∀ Q : List V → Hp → Prop, (∀ ps H2, Same H1 H2 → Iss K H2 ps es → Q ps H2) → ta σ H1 Q
theorem ei_nil : EvIss K tNil σ H [] := fun H1 s Q q => q [] H1 (Same.refl _) ⟨rfl, fun i p h => by cases h⟩
theorem ei_cons {tr : TA} {es : List (List Int)} (h : EvT K te σ H x) (hr : EvIss K tr σ H es) : EvIss K (tCons (tCall (spIs K) [] E (tCons te tNil)) tr) σ H (x :: es) := fun H1 s1 Q q =>
  h H1 s1 _ fun p H2 s2 hp => ⟨p, x, rfl, hp, fun t H3 s3 ht => hr H3 ((s1.trans s2).trans s3) _ fun ps H4 s4 hps => q (.ref t :: ps) H4 ((s2.trans s3).trans s4) ⟨by simp [hps.1], fun i r hr' => by
    match i, hr' with
    | 0, hr' => cases hr'; exact ⟨t, x, rfl, rfl, seqT s4 ht⟩
    | i + 1, hr' => exact hps.2 i r hr'⟩⟩
theorem eb_seen {E2 : XK} {tl tm : TA} {es : List (List Int)} (ha : EvRs K C tl σ H es) (hb : EvIss K tm σ H es) (hz : es.length ≤ 1000) : EvB (tCall (spSame K 4) [] E (tCons (tCall (spSeen1 K C) [] E2 (tCons (tLst tl) tNil)) (tCons (tLst tm) tNil))) σ H true := fun H1 s1 Q k =>
  ha H1 s1 _ fun ps H2 s2 hps => ⟨by rw [hps.1]; exact Nat.le_of_lt (Nat.lt_of_le_of_lt hz (by decide)), fun p hp =>
    have s3 := Same.new (o := .lst ps) hp
    ⟨p, ps, es, rfl, SqL.of upd_same, hps.same s3, hz, fun t qs H4 s4 ht hi => hb H4 (((s1.trans s2).trans s3).trans s4) _ fun rs H5 s5 hrs => ⟨by rw [hrs.1]; exact Nat.le_of_lt (Nat.lt_of_le_of_lt hz (by decide)), fun r hr =>
      have s6 := Same.new (o := .lst rs) hr
      have hi6 : Iss K (upd H5 r (.lst rs)) qs es := ⟨hi.1, fun i v hv => by
        obtain ⟨t', e', a1, a2, a3⟩ := hi.2 i v hv
        exact ⟨t', e', a1, a2, seqT (s5.trans s6) a3⟩⟩
      have hr6 : Iss K (upd H5 r (.lst rs)) rs es := ⟨hrs.1, fun i v hv => by
        obtain ⟨t', e', a1, a2, a3⟩ := hrs.2 i v hv
        exact ⟨t', e', a1, a2, seqT s6 a3⟩⟩
      ⟨2, .ref t, .ref r, rfl, by decide, iss_deq (n := 0) (SqL.of ((s5.trans s6) _ _ ht)) (SqL.of upd_same) hi6 hr6 hz, fun H' s' => k H' (((((s2.trans s3).trans s4).trans s5).trans s6).trans s')⟩⟩⟩⟩
end
theorem ex_zero : Ex (10 ^ 6) (List.replicate 6 0) := fun v hv => by
  rw [(List.mem_replicate.mp hv).2]
  decide
def Sq9 (e : List Int) : Prop := Sm (30030 ^ 9) e
theorem sd_sq {e : List Int} (h : Sd e) : Sq9 e := ⟨Nat.le_trans h.1 (Nat.pow_le_pow_right (by decide) (by decide)), Nat.le_trans h.2 (Nat.pow_le_pow_right (by decide) (by decide))⟩
theorem sq_kd {e : List Int} (h : Sq9 e) : Kd e := ⟨Nat.lt_of_le_of_lt h.1 (by decide), Nat.lt_of_le_of_lt h.2 (by decide)⟩
theorem sq_fit {e : List Int} (h : Sq9 e) : Fit e := ⟨Nat.lt_trans (sq_kd h).1 (Nat.pow_lt_pow_right (by decide) (by decide)), Nat.lt_trans (sq_kd h).2 (Nat.pow_lt_pow_right (by decide) (by decide))⟩
theorem sq_ex {e : List Int} (h6 : e.length = 6) (h : Sq9 e) : Ex (10 ^ 6) e := fun v hv => Nat.le_trans (ex_of_up h6 (sq_kd h).1 (sq_kd h).2 v hv) (by decide)
theorem pow3 {b n : Nat} (h : b ≤ 30030 ^ 3) (hn : n ≤ 3) : b ^ n ≤ 30030 ^ 9 := by
  have h1 : b ^ n ≤ (30030 ^ 3) ^ n := Nat.pow_le_pow_left h n
  rw [← Nat.pow_mul] at h1
  exact Nat.le_trans h1 (Nat.pow_le_pow_right (by decide) (by omega))
theorem lt5 {b : Nat} (h : b ≤ 30030 ^ 9) : b < 2 ^ 50000 := Nat.lt_of_le_of_lt h (Nat.lt_trans (by decide : 30030 ^ 9 < 2 ^ 200) (Nat.pow_lt_pow_right (by decide) (by decide)))
theorem sd_pow {x : List Int} {n : Int} (h : Sd x) (hn : n.natAbs ≤ 3) : up x ^ n.natAbs < 2 ^ 50000 ∧ dn x ^ n.natAbs < 2 ^ 50000 ∧ Sq9 (mulE n x) := by
  have a1 := pow3 h.1 hn
  have a2 := pow3 h.2 hn
  refine ⟨lt5 a1, lt5 a2, ?_⟩
  rcases Int.natAbs_eq n with e | e
  · rw [e]
    rw [up_pow] at a1
    rw [dn_pow] at a2
    exact ⟨a1, a2⟩
  · rw [e, ← neg_mulE]
    rw [up_pow] at a1
    rw [dn_pow] at a2
    exact ⟨by rw [up_neg]; exact a2, by rw [dn_neg]; exact a1⟩
theorem eb_neLf {σ : L2.St} {H : Hp} {ta tb : TE} {x y : W2} (ha : EvL ta σ H x) (hb : EvL tb σ H y) (e : x = y) : EvB (tOp (rNeD K) ta tb) σ H false := by
  have := eb_neL (K := K) ha hb
  rw [decide_eq_true e] at this
  exact this
theorem par_lv {σ : L2.St} {H : Hp} {i j : Nat} {ta tb : TE} {u v : W2} {rest : TS} {D : Ends} (ha : EvL ta σ H u) (hb : EvL tb σ H v) (k : ∀ p q H', Same H H' → LW H' p u → LW H' q v → rest D ((σ.set i (some (.ref p))).set j (some (.ref q))) H') : tSeq (tPar i j (tCons ta (tCons tb tNil))) rest D σ H :=
  ha H (Same.refl _) _ fun p H1 s1 h1 => hb H1 s1 _ fun q H2 s2 h2 => ⟨_, _, rfl, k p q H2 (s1.trans s2) (h1.same s2) h2⟩
theorem up_add_le {e f : List Int} (h : e.length = f.length) : up (addE e f) ≤ up e * up f := by
  rw [up_mul e f h]
  exact Nat.le_mul_of_pos_left _ (pp_pos _ pc_prs)
theorem dn_add_le {e f : List Int} (h : e.length = f.length) : dn (addE e f) ≤ dn e * dn f := by
  rw [dn_mul e f h]
  exact Nat.le_mul_of_pos_left _ (pp_pos _ pc_prs)
theorem sq_lt {a b : Nat} (h1 : a ≤ 30030 ^ 9) (h2 : b ≤ 30030 ^ 9) : a * b < 2 ^ 400 := Nat.lt_of_le_of_lt (Nat.mul_le_mul h1 h2) (by decide)
theorem lt400 {a : Nat} (h : a < 2 ^ 400) : a < 2 ^ 100000 := Nat.lt_trans h (Nat.pow_lt_pow_right (by decide) (by decide))
theorem sq_add {e f : List Int} (h : e.length = f.length) (a : Sq9 e) (b : Sq9 f) : up (addE e f) < 2 ^ 100000 ∧ dn (addE e f) < 2 ^ 100000 ∧ ((addE e f).length = 6 → Ex (10 ^ 6) (addE e f)) := by
  have h1 := Nat.lt_of_le_of_lt (up_add_le h) (sq_lt a.1 b.1)
  have h2 := Nat.lt_of_le_of_lt (dn_add_le h) (sq_lt a.2 b.2)
  exact ⟨lt400 h1, lt400 h2, fun h6 v hv => Nat.le_trans (ex_of_up h6 h1 h2 v hv) (by decide)⟩
theorem sq_neg {f : List Int} (b : Sq9 f) : Sq9 (negE f) := ⟨by rw [up_neg]; exact b.2, by rw [dn_neg]; exact b.1⟩
theorem sq_sub {e f : List Int} (h : e.length = f.length) (a : Sq9 e) (b : Sq9 f) : up (subE e f) < 2 ^ 100000 ∧ dn (subE e f) < 2 ^ 100000 ∧ ((subE e f).length = 6 → Ex (10 ^ 6) (subE e f)) := by
  rw [sub_addE]
  exact sq_add (by simp [negE, h]) a (sq_neg b)
theorem sd_pw {x : List Int} {n : Int} (h6 : x.length = 6) (h : Sd x) (hn : n.natAbs ≤ 3) : Pw n x := by
  have s := (sd_pow h hn).2.2
  have xe := sq_ex h6 (sd_sq h)
  refine ⟨fun v hv => wide_mul (a := 10) (b := 30) (Nat.lt_of_le_of_lt hn (by decide)) (Nat.lt_of_le_of_lt (xe v hv) (by decide)) (by decide) (by decide) (by decide), ?_, ?_⟩
  · exact Nat.lt_of_le_of_lt s.1 (Nat.lt_trans (by decide : 30030 ^ 9 < 2 ^ 200) (Nat.pow_lt_pow_right (by decide) (by decide)))
  · exact Nat.lt_of_le_of_lt s.2 (Nat.lt_trans (by decide : 30030 ^ 9 < 2 ^ 200) (Nat.pow_lt_pow_right (by decide) (by decide)))
theorem getD_le {u : List Int} {b : Nat} (h : Ex b u) (i : Nat) : (u.getD i 0).natAbs ≤ b := by
  rw [List.getD_eq_getElem?_getD]
  rcases Nat.lt_or_ge i u.length with c | c
  · rw [List.getElem?_eq_getElem c]
    exact h _ (List.getElem_mem c)
  · rw [List.getElem?_eq_none c]
    exact Nat.zero_le _
theorem wed_bnd {x y : List Int} (hx : Ex (10 ^ 6) x) (hy : Ex (10 ^ 6) y) : ∀ u ∈ (wedE x y).1, u.natAbs < 2 ^ 50 := fun u hu => by
  obtain ⟨p, _, rfl⟩ := List.mem_map.mp hu
  unfold ct
  have a1 : (x.getD p.1 0 * y.getD p.2 0).natAbs ≤ 10 ^ 6 * 10 ^ 6 := by rw [Int.natAbs_mul]; exact Nat.mul_le_mul (getD_le hx _) (getD_le hy _)
  have a2 : (x.getD p.2 0 * y.getD p.1 0).natAbs ≤ 10 ^ 6 * 10 ^ 6 := by rw [Int.natAbs_mul]; exact Nat.mul_le_mul (getD_le hx _) (getD_le hy _)
  generalize x.getD p.1 0 * y.getD p.2 0 = u at *
  generalize x.getD p.2 0 * y.getD p.1 0 = v at *
  omega
theorem wed_small {x y : List Int} {n : Int} (hx : Ex (10 ^ 6) x) (hy : Ex (10 ^ 6) y) (hn : n.natAbs ≤ 3) : Small n (wedE x y) := fun u hu =>
  wide_mul (a := 10) (b := 50) (Nat.lt_of_le_of_lt hn (by decide)) (wed_bnd hx hy u hu) (by decide) (by decide) (by decide)
theorem gn {i : Nat} {v : V} {σ : L2.St} {H : Hp} {Q : L2.St → Hp → Prop} (h : Q (σ.set i (some v)) H) : gName i v σ H Q := h
/-! ### values that are no objects -/
def EvX (te : TE) (σ : L2.St) (H : Hp) (v : V) : Prop := ∀ H1, Same H H1 → ∀ Q : VK, (∀ H2, Same H1 H2 → Q v H2) → te σ H1 Q
def EvXs (ta : TA) (σ : L2.St) (H : Hp) (vs : List V) : Prop := ∀ H1, Same H H1 → ∀ Q : List V → Hp → Prop, (∀ H2, Same H1 H2 → Q vs H2) → ta σ H1 Q
section
variable {C : Addr} {σ : L2.St} {H : Hp} {ta tb te : TE} {u : W2} {E : XK} {v : V}
theorem evx_nil : EvXs tNil σ H [] := fun H1 s Q q => q H1 (Same.refl _)
theorem evx_cons {tr : TA} {vs : List V} (h : EvX te σ H v) (hr : EvXs tr σ H vs) : EvXs (tCons te tr) σ H (v :: vs) := fun H1 s1 Q q =>
  h H1 s1 _ fun H2 s2 => hr H2 (s1.trans s2) _ fun H3 s3 => q H3 (s2.trans s3)
theorem vals_set {ts : TA} {rest : TS} {D : Ends} {i : Nat} {vs : List V} (h : EvXs ts σ H vs) (hz : vs.length ≤ 1000) (k : ∀ p H', Same H H' → H' p = some (.lst vs) → rest D (σ.set i (some (.ref p))) H') : tSeq (tAsg (tLst ts) (gName i)) rest D σ H :=
  h H (Same.refl _) _ fun H1 s1 => ⟨Nat.le_of_lt (Nat.lt_of_le_of_lt hz (by decide)), fun p hp => k p _ (s1.trans (Same.new (o := .lst vs) hp)) upd_same⟩
theorem bx_set {rest : TS} {D : Ends} {i : Nat} (h : EvX te σ H v) (k : ∀ H', Same H H' → rest D (σ.set i (some v)) H') : tSeq (tAsg te (gName i)) rest D σ H := h H (Same.refl _) _ fun H1 s1 => k H1 s1
theorem wv_set {rest : TS} {D : Ends} {i : Nat} (h : EvW K C te σ H u) (k : ∀ p H', Same H H' → WAt K C H' p u → rest D (σ.set i (some (.ref p))) H') : tSeq (tAsg te (gName i)) rest D σ H :=
  h H (Same.refl _) _ fun p H1 s1 hw => k p H1 s1 hw
theorem eb_flat (h : EvW K C te σ H u) : EvB (tProp C (spFlat K C) [] E te) σ H (!u.1.any (fun n => n != 0)) := fun H1 s1 Q q =>
  h H1 s1 _ fun p H2 s2 hp => by
    obtain ⟨dx, _, _, e, _⟩ := hp.ex
    exact ⟨p, dx, _, rfl, e, p, u, rfl, hp, q H2 s2⟩
theorem ei_rank {f : Nat → Int} (h : EvW K C te σ H u) (hk : RkOk u) : EvX (tProp C (spRankW K C f) [] E te) σ H (.int (f (clrRank (wmat u.1)))) := fun H1 s1 Q q =>
  h H1 s1 _ fun p H2 s2 hp => by
    obtain ⟨dx, _, _, e, _⟩ := hp.ex
    exact ⟨p, dx, _, rfl, e, p, u, rfl, hp, hk, fun H3 s3 => q H3 (s2.trans s3)⟩
theorem ex_c : EvX (tC v) σ H v := fun H1 s Q q => q H1 (Same.refl _)
theorem ex_var {i : Nat} (h : σ[i]? = some (some v)) : EvX (tVar i) σ H v := fun H1 s Q q => ⟨_, h, q H1 (Same.refl _)⟩
theorem eb_level {i : Nat} {p : Addr} (h : σ[i]? = some (some (.ref p))) (hw : LW H p u) : EvB (tOp (rEqD K) (tOp (rIxT K) (tVar i) (tC (.int 0))) (tOp rRep (tLst (tCons (tC (.int 0)) tNil)) (tC (.int 15)))) σ H (decide (u.1 = List.replicate 15 0)) := fun H1 s1 Q q => by
  obtain ⟨l1, l2, e1, e2, e3⟩ := (hw.same s1).ex
  refine ⟨_, h, _, _, _, _, rfl, rfl, SqT.of e1, rfl, (by show 1 ≤ sizeLine; decide), fun p hp => ⟨p, _, _, rfl, rfl, upd_same, by decide, by decide, by decide, fun a ha1 => ?_⟩⟩
  have s2 := (Same.new (o := .lst [V.int 0]) hp).trans (Same.new (o := .lst (zeroW.1.map V.int)) ha1)
  refine ⟨_, _, .lst (SqL.of (s2 _ _ e2)) (dpAll_ints u.1), .lst (SqL.of upd_same) (dpAll_ints (List.replicate 15 0)), shaped_lstI _, shaped_lstI _, ?_⟩
  rw [eqv_lstI]
  exact q _ s2
theorem ex_not {i : Nat} {b : Bool} (h : σ[i]? = some (some (.bl b))) : EvX (tCB (fun xs H Q => (∃ i, xs = [V.int i] ∧ Q (V.int i) H) ∨ ∃ k, xs = [V.bl k] ∧ Q (V.int (if k = true then 1 else 0)) H) (tCons (tNotV (tVar i)) tNil)) σ H (.int (if (!b) = true then 1 else 0)) := fun H1 s1 Q q =>
  ⟨_, h, _, rfl, .inr ⟨_, rfl, q H1 (Same.refl _)⟩⟩
theorem ex_two {i : Nat} {b : Bool} (h : σ[i]? = some (some (.bl b))) : EvX (tOp (rI CMul fun i j => .int (i * j)) (tC (.int 2)) (tCB (fun xs H Q => (∃ i, xs = [V.int i] ∧ Q (V.int i) H) ∨ ∃ k, xs = [V.bl k] ∧ Q (V.int (if k = true then 1 else 0)) H) (tCons (tNotV (tVar i)) tNil))) σ H (.int (2 * if (!b) = true then 1 else 0)) := fun H1 s1 Q q =>
  ⟨_, h, _, rfl, .inr ⟨_, rfl, _, _, rfl, rfl, cm (by decide), q H1 (Same.refl _)⟩⟩
theorem eb_samev {i : Nat} {p : Addr} {vs : List V} {tl : TA} (h : σ[i]? = some (some (.ref p))) (hp : H p = some (.lst vs)) (hl : EvXs tl σ H vs) (hs : vs.length ≤ 1000 ∧ ∀ (H : Hp) (i : Nat) x, vs[i]? = some x → DEq K H 0 x x) : EvB (tCall (spSame K 4) [] E (tCons (tVar i) (tCons (tLst tl) tNil))) σ H true := fun H1 s1 Q k =>
  ⟨_, h, hl H1 s1 _ fun H2 s2 => ⟨Nat.le_of_lt (Nat.lt_of_le_of_lt hs.1 (by decide)), fun q hq =>
    have s3 := Same.new (o := .lst vs) hq
    ⟨1, .ref p, .ref q, rfl, by decide, .lst (SqL.of (((s1.trans s2).trans s3) _ _ hp)) (SqL.of upd_same) (by have := hs.1; omega) rfl (fun i x y hx hy => by
      rw [hx] at hy
      cases hy
      exact hs.2 _ i x hx), fun H' s' => k H' ((s2.trans s3).trans s')⟩⟩⟩
theorem scal4 {a b : Bool} {n m : Int} : ([V.bl a, V.bl b, V.int n, V.int m] : List V).length ≤ 1000 ∧ ∀ (H : Hp) (i : Nat) x, ([V.bl a, V.bl b, V.int n, V.int m] : List V)[i]? = some x → DEq K H 0 x x := ⟨by show 4 ≤ 1000; decide, fun H i x hx => by
  match i, hx with
  | 0, hx => cases hx; exact .bl _
  | 1, hx => cases hx; exact .bl _
  | 2, hx => cases hx; exact .int _
  | 3, hx => cases hx; exact .int _
  | i + 4, hx => cases hx⟩
theorem told4 (x y : List Int) : ([.bl (decide (addW (wedE x y) (wedE y x) = zeroW)), .bl (!(wedE x y).1.any (fun n => n != 0)), .int ((clrRank (wmat (wedE x y).1) / 2 : Nat) : Int), .int ((clrRank (wmat (wedE x y).1) : Nat) : Int)] : List V) =
    [.bl true, .bl (decide ((wedE x y).1 = List.replicate 15 0)), .int (if (!decide ((wedE x y).1 = List.replicate 15 0)) = true then 1 else 0), .int (2 * if (!decide ((wedE x y).1 = List.replicate 15 0)) = true then 1 else 0)] := by
  rw [decide_eq_true (wed_back x y), all_zero _ 15 (wedE_ok x y).l1, wedE_rank, Bool.not_not]
  by_cases h : (wedE x y).1 = List.replicate 15 0
  · rw [if_pos h, decide_eq_true h]
    rfl
  · rw [if_neg h, decide_eq_false h]
    rfl
end
set_option maxHeartbeats 4000000 in
theorem law_tail {C1 C2 : Addr} {px py pz pa pb pc pw : Addr} {x y z : List Int} {n : Int} {x0 x1 x10 x11 x12 x13 x14 x15 x16 x17 x18 x19 x20 : Option V} {H20 : Hp} {D : Ends}
    (hx : TAt K H20 px x) (hy : TAt K H20 py y) (hz : TAt K H20 pz z) (ra : RAt K C1 H20 pa x) (rb : RAt K C1 H20 pb y) (rc : RAt K C1 H20 pc z) (hw : LW H20 pw (wedE x y))
    (xe : Ex (10 ^ 6) x) (ye : Ex (10 ^ 6) y) (ze : Ex (10 ^ 6) z) (q : ∀ H', D.rt (.bl true) H') :
    (tSeq (tAsg (tLst (tCons (tOp (rOw C2 (spEqW K C2) E0) (tOp (rOw C2 (spOp2 K C2 addW) E0) (tCall (spWedgeOf K C1 C2) [] E0 (tCons (tVar 6) (tCons (tVar 7) tNil))) (tCall (spWedgeOf K C1 C2) [] E0 (tCons (tVar 7) (tCons (tVar 6) tNil)))) (tCall (spNothing K C2) [] E0 tNil)) (tCons (tProp C2 (spFlat K C2) [] E0 (tCall (spWedgeOf K C1 C2) [] E0 (tCons (tVar 6) (tCons (tVar 7) tNil)))) (tCons (tProp C2 (spRankW K C2 fun n => ((n / 2 : Nat) : Int)) [] E0 (tCall (spWedgeOf K C1 C2) [] E0 (tCons (tVar 6) (tCons (tVar 7) tNil)))) (tCons (tProp C2 (spRankW K C2 fun n => ((n : Nat) : Int)) [] E0 (tCall (spWedgeOf K C1 C2) [] E0 (tCons (tVar 6) (tCons (tVar 7) tNil)))) tNil))))) (gName 11)) (tSeq (tAsg (tOp (rEqD K) (tOp (rIxT K) (tVar 9) (tC (V.int 0))) (tOp rRep (tLst (tCons (tC (V.int 0)) tNil)) (tC (V.int 15)))) (gName 17)) (tSeq (tIfS (tNot (tB (tCall (spSame K 4) [] E0 (tCons (tVar 11) (tCons (tLst (tCons (tC (V.bl true)) (tCons (tVar 17) (tCons (tCB (fun xs H Q => (∃ i, xs = [V.int i] ∧ Q (V.int i) H) ∨ ∃ k, xs = [V.bl k] ∧ Q (V.int (if k = true then 1 else 0)) H) (tCons (tNotV (tVar 17)) tNil)) (tCons (tOp (rI CMul fun i j => V.int (i * j)) (tC (V.int 2)) (tCB (fun xs H Q => (∃ i, xs = [V.int i] ∧ Q (V.int i) H) ∨ ∃ k, xs = [V.bl k] ∧ Q (V.int (if k = true then 1 else 0)) H) (tCons (tNotV (tVar 17)) tNil))) tNil))))) tNil))))) (tRet (tC (V.bl false))) tNext) (tSeq (tAsg (tOp (rOw C2 (spOp2 K C2 addW) E0) (tOp (rOw C2 (spOp2 K C2 addW) E0) (tCall (spWedgeOf K C1 C2) [] E0 (tCons (tVar 6) (tCons (tVar 7) tNil))) (tCall (spWedgeOf K C1 C2) [] E0 (tCons (tVar 7) (tCons (tVar 8) tNil)))) (tCall (spWedgeOf K C1 C2) [] E0 (tCons (tVar 8) (tCons (tVar 6) tNil)))) (gName 18)) (tSeq (tAsg (tCall spAdded [] E0 (tCons (tCall (spTwo K) [] E0 (tCons (tVar 2) (tCons (tVar 3) tNil))) (tCons (tCall spAdded [] E0 (tCons (tCall (spTwo K) [] E0 (tCons (tVar 3) (tCons (tVar 4) tNil))) (tCons (tCall (spTwo K) [] E0 (tCons (tVar 4) (tCons (tVar 2) tNil))) tNil))) tNil))) (gName 19)) (tRet (tAndV (tCall (spAllSo K C2) [] E0 (tCons (tLst (tCons (tVar 18) (tCons (tCall (spWedgeOf K C1 C2) [] E0 (tCons (tVar 6) (tCons (tVar 7) tNil))) tNil))) (tCons (tLst (tCons (tVar 19) (tCons (tVar 9) tNil))) tNil))) (tCall (spSame K 4) [] E0 (tCons (tCall (spSeen1 K C1) [] E0 (tCons (tLst (tCons (tVar 6) (tCons (tVar 7) (tCons (tVar 8) tNil)))) tNil)) (tCons (tLst (tCons (tCall (spIs K) [] E0 (tCons (tVar 2) tNil)) (tCons (tCall (spIs K) [] E0 (tCons (tVar 3) tNil)) (tCons (tCall (spIs K) [] E0 (tCons (tVar 4) tNil)) tNil)))) tNil)))))))))) D [x0, x1, some (.ref px), some (.ref py), some (.ref pz), some (.int n), some (.ref pa), some (.ref pb), some (.ref pc), some (.ref pw), x10, x11, x12, x13, x14, x15, x16, x17, x18, x19, x20] H20 := by
  have hk : RkOk (wedE x y) := fun u hu => Nat.lt_of_lt_of_le (wed_bnd xe ye u hu) (by decide)
  refine vals_set (vs := [.bl (decide (addW (wedE x y) (wedE y x) = zeroW)), .bl (!(wedE x y).1.any (fun n => n != 0)), .int ((clrRank (wmat (wedE x y).1) / 2 : Nat) : Int), .int ((clrRank (wmat (wedE x y).1) : Nat) : Int)])
    (evx_cons (eb_eq (ew_op (ew_wof (er_var rfl ra) (er_var rfl rb) xe) (ew_wof (er_var rfl rb) (er_var rfl ra) ye)) ew_nothing) (evx_cons (eb_flat (ew_wof (er_var rfl ra) (er_var rfl rb) xe)) (evx_cons (ei_rank (f := fun n => ((n / 2 : Nat) : Int)) (ew_wof (er_var rfl ra) (er_var rfl rb) xe) hk) (evx_cons (ei_rank (f := fun n => ((n : Nat) : Int)) (ew_wof (er_var rfl ra) (er_var rfl rb) xe) hk) evx_nil)))) (by show 4 ≤ 1000; decide) fun p11 H21 s21 h11 => ?_
  rw [told4 x y] at h11
  replace hx := hx.same s21
  replace hy := hy.same s21
  replace hz := hz.same s21
  replace ra := ra.same s21
  replace rb := rb.same s21
  replace rc := rc.same s21
  replace hw := hw.same s21
  clear s21
  refine bx_set (v := .bl (decide ((wedE x y).1 = List.replicate 15 0))) (eb_level rfl hw) fun H22 s22 => ?_
  replace hx := hx.same s22
  replace hy := hy.same s22
  replace hz := hz.same s22
  replace ra := ra.same s22
  replace rb := rb.same s22
  replace rc := rc.same s22
  replace hw := hw.same s22
  replace h11 := s22 _ _ h11
  clear s22
  generalize hlev : decide ((wedE x y).1 = List.replicate 15 0) = lev at *
  refine if_so (eb_samev rfl h11 (evx_cons (ex_c (v := .bl true)) (evx_cons (ex_var (v := .bl lev) rfl) (evx_cons (ex_not rfl) (evx_cons (ex_two rfl) evx_nil)))) scal4) fun H23 s23 => ?_
  replace hx := hx.same s23
  replace hy := hy.same s23
  replace hz := hz.same s23
  replace ra := ra.same s23
  replace rb := rb.same s23
  replace rc := rc.same s23
  replace hw := hw.same s23
  clear s23 h11
  refine wv_set (ew_op (ew_op (ew_wof (er_var rfl ra) (er_var rfl rb) xe) (ew_wof (er_var rfl rb) (er_var rfl rc) ye)) (ew_wof (er_var rfl rc) (er_var rfl ra) ze)) fun p18 H24 s24 h18 => ?_
  replace hx := hx.same s24
  replace hy := hy.same s24
  replace hz := hz.same s24
  replace ra := ra.same s24
  replace rb := rb.same s24
  replace rc := rc.same s24
  replace hw := hw.same s24
  clear s24
  refine lv_set (el_added (el_two (et_var rfl hx) (et_var rfl hy) xe ye) (el_added (el_two (et_var rfl hy) (et_var rfl hz) ye ze) (el_two (et_var rfl hz) (et_var rfl hx) ze xe))) fun p19 H25 s25 h19 => ?_
  rw [add_assoc] at h19
  replace hx := hx.same s25
  replace hy := hy.same s25
  replace hz := hz.same s25
  replace ra := ra.same s25
  replace rb := rb.same s25
  replace rc := rc.same s25
  replace hw := hw.same s25
  replace h18 := h18.same s25
  clear s25
  exact ret_so (eb_and (eb_so_l (ews_cons (ew_var rfl h18) (ews_cons (ew_wof (er_var rfl ra) (er_var rfl rb) xe) ews_nil)) (els_cons (el_var rfl h19) (els_cons (el_var rfl hw) els_nil)) (by show 2 ≤ 1000; decide))
    (eb_seen (ers_cons (er_var rfl ra) (ers_cons (er_var rfl rb) (ers_cons (er_var rfl rc) ers_nil))) (ei_cons (et_var rfl hx) (ei_cons (et_var rfl hy) (ei_cons (et_var rfl hz) ei_nil))) (by show 3 ≤ 1000; decide))) q
end
end TL.W
namespace TL.W
open TL
open PySem L2

/-! ### steps of a reading -/
local macro_rules | `(tactic| walk_at "hp") => `(tactic| first | assumption | exact upd_same | (refine (upd_ne (by first | assumption | (exact Ne.symm (by assumption)))).trans ?_; walk_at "hp"))
local macro_rules | `(tactic| walk_at "ok") => `(tactic| first | (exact Or.inr ⟨by decide, by decide⟩) | (exact ⟨by decide, by decide⟩) | (exact ⟨by decide, by decide, by decide⟩) | (show _ ≠ _; omega) | (show _ ≠ _; decide) | (exact Or.inl ⟨by omega, by omega⟩) | decide)
local macro_rules | `(tactic| walk_at "sq") => `(tactic| first | assumption | exact SqL.of (by walk_at "hp") | exact SqT.of (by walk_at "hp"))
local macro_rules | `(tactic| walk_at "ty") => `(tactic| first | refine ⟨_, _, Value.type "int", Value.type "list", false, rfl, ClsV.ty _, TyX.base (TyOf.int _), kt_int_list, ?_⟩ | refine ⟨_, _, Value.type "bool", Value.type "list", false, rfl, ClsV.ty _, TyX.base (TyOf.bl _), kt_bool_list, ?_⟩ | refine ⟨_, _, Value.type "str", Value.type "list", false, rfl, ClsV.ty _, TyX.base (TyOf.str _), kt_str_list, ?_⟩ | refine ⟨_, _, Value.type "NoneType", Value.type "list", false, rfl, ClsV.ty _, TyX.base TyOf.non, kt_NoneType_list, ?_⟩ | refine ⟨_, _, Value.type "list", Value.type "list", true, rfl, ClsV.ty _, tyx_L (by walk_at "sq"), kt_list_list, ?_⟩ | refine ⟨_, _, Value.type "tuple", Value.type "list", false, rfl, ClsV.ty _, tyx_T (by walk_at "sq"), kt_tuple_list, ?_⟩ | refine ⟨_, _, Value.type "int", Value.type "tuple", false, rfl, ClsV.ty _, TyX.base (TyOf.int _), kt_int_tuple, ?_⟩ | refine ⟨_, _, Value.type "bool", Value.type "tuple", false, rfl, ClsV.ty _, TyX.base (TyOf.bl _), kt_bool_tuple, ?_⟩ | refine ⟨_, _, Value.type "str", Value.type "tuple", false, rfl, ClsV.ty _, TyX.base (TyOf.str _), kt_str_tuple, ?_⟩ | refine ⟨_, _, Value.type "NoneType", Value.type "tuple", false, rfl, ClsV.ty _, TyX.base TyOf.non, kt_NoneType_tuple, ?_⟩ | refine ⟨_, _, Value.type "list", Value.type "tuple", false, rfl, ClsV.ty _, tyx_L (by walk_at "sq"), kt_list_tuple, ?_⟩ | refine ⟨_, _, Value.type "tuple", Value.type "tuple", true, rfl, ClsV.ty _, tyx_T (by walk_at "sq"), kt_tuple_tuple, ?_⟩ | refine ⟨_, _, Value.type "int", Value.type "bool", false, rfl, ClsV.ty _, TyX.base (TyOf.int _), kt_int_bool, ?_⟩ | refine ⟨_, _, Value.type "bool", Value.type "bool", true, rfl, ClsV.ty _, TyX.base (TyOf.bl _), kt_bool_bool, ?_⟩ | refine ⟨_, _, Value.type "str", Value.type "bool", false, rfl, ClsV.ty _, TyX.base (TyOf.str _), kt_str_bool, ?_⟩ | refine ⟨_, _, Value.type "NoneType", Value.type "bool", false, rfl, ClsV.ty _, TyX.base TyOf.non, kt_NoneType_bool, ?_⟩ | refine ⟨_, _, Value.type "list", Value.type "bool", false, rfl, ClsV.ty _, tyx_L (by walk_at "sq"), kt_list_bool, ?_⟩ | refine ⟨_, _, Value.type "tuple", Value.type "bool", false, rfl, ClsV.ty _, tyx_T (by walk_at "sq"), kt_tuple_bool, ?_⟩ | refine ⟨_, _, Value.type "int", Value.type "int", true, rfl, ClsV.ty _, TyX.base (TyOf.int _), kt_int_int, ?_⟩ | refine ⟨_, _, Value.type "bool", Value.type "int", true, rfl, ClsV.ty _, TyX.base (TyOf.bl _), kt_bool_int, ?_⟩ | refine ⟨_, _, Value.type "str", Value.type "int", false, rfl, ClsV.ty _, TyX.base (TyOf.str _), kt_str_int, ?_⟩ | refine ⟨_, _, Value.type "NoneType", Value.type "int", false, rfl, ClsV.ty _, TyX.base TyOf.non, kt_NoneType_int, ?_⟩ | refine ⟨_, _, Value.type "list", Value.type "int", false, rfl, ClsV.ty _, tyx_L (by walk_at "sq"), kt_list_int, ?_⟩ | refine ⟨_, _, Value.type "tuple", Value.type "int", false, rfl, ClsV.ty _, tyx_T (by walk_at "sq"), kt_tuple_int, ?_⟩ | refine ⟨_, _, Value.type "int", Value.type "str", false, rfl, ClsV.ty _, TyX.base (TyOf.int _), kt_int_str, ?_⟩ | refine ⟨_, _, Value.type "bool", Value.type "str", false, rfl, ClsV.ty _, TyX.base (TyOf.bl _), kt_bool_str, ?_⟩ | refine ⟨_, _, Value.type "str", Value.type "str", true, rfl, ClsV.ty _, TyX.base (TyOf.str _), kt_str_str, ?_⟩ | refine ⟨_, _, Value.type "NoneType", Value.type "str", false, rfl, ClsV.ty _, TyX.base TyOf.non, kt_NoneType_str, ?_⟩ | refine ⟨_, _, Value.type "list", Value.type "str", false, rfl, ClsV.ty _, tyx_L (by walk_at "sq"), kt_list_str, ?_⟩ | refine ⟨_, _, Value.type "tuple", Value.type "str", false, rfl, ClsV.ty _, tyx_T (by walk_at "sq"), kt_tuple_str, ?_⟩)
local macro_rules | `(tactic| walk_at "go1") => `(tactic| first
  | (refine ⟨_, rfl, ?_⟩)
  | (refine ⟨_, _, rfl, rfl, ?_⟩)
  | (refine ⟨_, _, _, _, rfl, rfl, SqL.of (by walk_at "hp"), rfl, ?_⟩)
  | (refine Or.inl ⟨_, rfl, ?_⟩)
  | (refine ⟨rfl, ?_⟩)
  | (refine ⟨_, _, rfl, .inl (SqL.of (by walk_at "hp")), ?_⟩)
  | (refine ⟨_, _, rfl, Or.inl (by assumption), ?_⟩)
  | (refine ⟨_, _, rfl, Or.inr (by assumption), ?_⟩)
  | (refine ⟨(by walk_at "ok"), ?_⟩)
  | (refine ⟨_, _, _, _, rfl, rfl, (by walk_at "hp"), rfl, ?_⟩))
local macro_rules | `(tactic| walk_at "go") => `(tactic| repeat (walk_at "go1"))
local macro_rules | `(tactic| walk_at "gt") => `(tactic| repeat (first | walk_at "go1" | walk_at "ty"))

section
variable {P : Program} {w : World} {K : PySem.W.Frag} {mg : Str → Option Value} {base : Heap}
set_option maxHeartbeats 4000000 in
theorem ok_law (T : Tx K mg) : FnOk P w K mg base CX0 8 T.f_law T.d_law ["_law_script"] (spLaw K) := by
  have G_l_bag := ok_bag (P := P) (w := w) (base := base) T
  have G_l_draw := ok_draw (P := P) (w := w) (base := base) T
  have G_l_ratio_drawn := ok_rdrawn (P := P) (w := w) (base := base) T
  have G_l_ratio := ok_l_ratio (P := P) (w := w) (base := base) T
  have G_l_raised := ok_l_raised (P := P) (w := w) (base := base) T
  have G_l_two := ok_l_two (P := P) (w := w) (base := base) T
  have G_l_bits := ok_l_bits (P := P) (w := w) (base := base) T
  have G_l_quo := ok_l_quo (P := P) (w := w) (base := base) T
  have G_l_none := ok_l_none (P := P) (w := w) (base := base) T
  have G_l_added := ok_l_added (P := P) (w := w) (base := base) T
  have G_l_all_so := ok_l_all_so (P := P) (w := w) (base := base) T
  have G_l_same := ok_same (P := P) (w := w) (base := base) T 4
  have G_l_seen := ok_seen1 (P := P) (w := w) (base := base) T
  have G_l_is := ok_l_is (P := P) (w := w) (base := base) T
  have G_wedge_of := ok_wedge_of (P := P) (w := w) (base := base) T
  have G_nothing := ok_nothing (P := P) (w := w) (base := base) T
  have G_Wedge_add := ok_add (P := P) (w := w) (base := base) T
  have G_Wedge_sub := ok_sub (P := P) (w := w) (base := base) T
  have G_Wedge_neg := ok_neg (P := P) (w := w) (base := base) T
  have G_Wedge_rmul := W.ok_rmul (P := P) (w := w) (base := base) T
  have G_Wedge_eq := ok_eq (P := P) (w := w) (base := base) T
  have G_Wedge_flat := ok_flat (P := P) (w := w) (base := base) T
  have G_Wedge_rank := ok_rankW (P := P) (w := w) (base := base) T
  have G_Wedge_owed := ok_owed (P := P) (w := w) (base := base) T
  have G_Ratio_power := ok_power (P := P) (w := w) (base := base) T
  have G_Ratio_mul := TL.ok_rmul (P := P) (w := w) (base := base) T
  have G_Ratio_floordiv := ok_rdiv (P := P) (w := w) (base := base) T
  have G_Ratio_init := ok_rinit (P := P) (w := w) (base := base) T
  refine T.F_law.ok sc_law (fun vs H Q E h => ?_) (fun cdv A outer s H vs Q E hr h => ?_)
  · obtain ⟨a, ns, rfl, _⟩ := h
    rfl
  obtain ⟨a, ns, rfl, hS, h63, q⟩ := h
  have nd := sc_law.nd
  refine ⟨_, (pss_cons (ps_set (i := 1) nd rfl (Or.inl rfl) (pe_call G_l_bag (hr.mono (by decide)) (by rfl) T.m_l_bag T.F_l_bag.kp T.b_l_bag .nil pass0 (pa_cons (pv 0) pa_nil)))
    (pss_cons (ps_par3 (i := 2) (j := 3) (l := 4) rfl nd rfl rfl rfl (by decide) (by decide) (by decide) rfl rfl rfl (pa_cons (pe_call G_l_ratio_drawn (hr.mono (by decide)) (by rfl) T.m_l_ratio_drawn T.F_l_ratio_drawn.kp T.b_l_ratio_drawn .nil pass0 (pa_cons (pv 1) pa_nil)) (pa_cons (pe_call G_l_ratio_drawn (hr.mono (by decide)) (by rfl) T.m_l_ratio_drawn T.F_l_ratio_drawn.kp T.b_l_ratio_drawn .nil pass0 (pa_cons (pv 1) pa_nil)) (pa_cons (pe_call G_l_ratio_drawn (hr.mono (by decide)) (by rfl) T.m_l_ratio_drawn T.F_l_ratio_drawn.kp T.b_l_ratio_drawn .nil pass0 (pa_cons (pv 1) pa_nil)) pa_nil))) rfl)
    (pss_cons (ps_set (i := 5) nd rfl (Or.inr rfl) (pe_op op_sub (pe_call G_l_draw (hr.mono (by decide)) (by rfl) T.m_l_draw T.F_l_draw.kp T.b_l_draw .nil pass0 (pa_cons (pv 1) (pa_cons pe_int pa_nil))) pe_int))
    (pss_cut (ps_if (pt_cmpR op_eq (pe_call G_l_draw (hr.mono (by decide)) (by rfl) T.m_l_draw T.F_l_draw.kp T.b_l_draw .nil pass0 (pa_cons (pv 1) (pa_cons pe_int pa_nil))) pe_int (nomark _)) (pss_one (ps_set (i := 3) nd rfl (Or.inl rfl) (pe_call G_l_raised (hr.mono (by decide)) (by rfl) T.m_l_raised T.F_l_raised.kp T.b_l_raised .nil pass0 (pa_cons (pv 2) (pa_cons (pv 5) pa_nil))))) pss_nil)
    (pss_cons (ps_par3 (i := 6) (j := 7) (l := 8) rfl nd rfl rfl rfl (by decide) (by decide) (by decide) rfl rfl rfl (pa_cons (pe_call G_l_ratio (hr.mono (by decide)) (by rfl) T.m_l_ratio T.F_l_ratio.kp T.b_l_ratio .nil pass0 (pa_cons (pv 1) (pa_cons (pv 2) pa_nil))) (pa_cons (pe_call G_l_ratio (hr.mono (by decide)) (by rfl) T.m_l_ratio T.F_l_ratio.kp T.b_l_ratio .nil pass0 (pa_cons (pv 1) (pa_cons (pv 3) pa_nil))) (pa_cons (pe_call G_l_ratio (hr.mono (by decide)) (by rfl) T.m_l_ratio T.F_l_ratio.kp T.b_l_ratio .nil pass0 (pa_cons (pv 1) (pa_cons (pv 4) pa_nil))) pa_nil))) rfl)
    (pss_cons (ps_par (i := 9) (j := 10) rfl nd rfl rfl (by decide) rfl rfl (pa_cons (pe_call G_l_two (hr.mono (by decide)) (by rfl) T.m_l_two T.F_l_two.kp T.b_l_two .nil pass0 (pa_cons (pv 2) (pa_cons (pv 3) pa_nil))) (pa_cons (pe_call G_l_two (hr.mono (by decide)) (by rfl) T.m_l_two T.F_l_two.kp T.b_l_two .nil pass0 (pa_cons (pv 3) (pa_cons (pv 2) pa_nil))) pa_nil)) rfl)
    (pss_cons (ps_set (i := 11) nd rfl (Or.inl rfl) (pe_lst (pa_cons (pe_call G_wedge_of hr (by rfl) T.m_wedge_of T.F_wedge_of.kp T.b_wedge_of .nil pass0 (pa_cons (pv 6) (pa_cons (pv 7) pa_nil))) (pa_cons (pe_callK0 G_wedge_of hr (by rfl) T.m_wedge_of T.F_wedge_of.kp T.kb_wedge_of pass0 (pk_cons (pv 7) (pk_cons (pv 6) pk_nil))) (pa_cons (pe_call G_wedge_of hr (by rfl) T.m_wedge_of T.F_wedge_of.kp T.b_wedge_of .nil pass0 (pa_cons (pv 7) (pa_cons (pv 6) pa_nil))) (pa_cons (pe_call G_wedge_of hr (by rfl) T.m_wedge_of T.F_wedge_of.kp T.b_wedge_of .nil pass0 (pa_cons (pv 6) (pa_cons (pv 6) pa_nil))) (pa_cons (pe_call G_wedge_of hr (by rfl) T.m_wedge_of T.F_wedge_of.kp T.b_wedge_of .nil pass0 (pa_cons (pv 6) (pa_cons (pe_make T.k_Ratio G_Ratio_init (hr.mono (by decide)) (by rfl) T.g_Ratio T.b1_Ratio_init T.v_Ratio_init pass0 (pa_cons pe_int pa_nil)) pa_nil))) (pa_cons (pe_call G_wedge_of hr (by rfl) T.m_wedge_of T.F_wedge_of.kp T.b_wedge_of .nil pass0 (pa_cons (pe_make T.k_Ratio G_Ratio_init (hr.mono (by decide)) (by rfl) T.g_Ratio T.b1_Ratio_init T.v_Ratio_init pass0 (pa_cons pe_int pa_nil)) (pa_cons (pv 7) pa_nil))) pa_nil))))))))
    (pss_cons (ps_set (i := 12) nd rfl (Or.inl rfl) (pe_lst (pa_cons (pv 9) (pa_cons (pv 9) (pa_cons (pv 10) (pa_cons (pe_tup (pa_cons (pe_op op_rep (pe_lst (pa_cons pe_int pa_nil)) pe_int) (pa_cons (pe_callTy (show CallR _ _ (rListOf K) from call_list_of) (by rfl) T.z_list (by decide +kernel) (pa_cons (pe_call G_l_bits (hr.mono (by decide)) (by rfl) T.m_l_bits T.F_l_bits.kp T.b_l_bits .nil pass0 (pa_cons (pv 2) pa_nil)) pa_nil)) pa_nil))) (pa_cons (pe_call0 G_l_none (hr.mono (by decide)) (by rfl) T.m_l_none T.F_l_none.kp T.b_l_none .nil pass0) (pa_cons (pe_call0 G_l_none (hr.mono (by decide)) (by rfl) T.m_l_none T.F_l_none.kp T.b_l_none .nil pass0) pa_nil))))))))
    (pss_cons (ps_if (PW.pt (pw_or (pt_not (pt_val (pe_call G_l_all_so (hr.mono (by decide)) (by rfl) T.m_l_all_so T.F_l_all_so.kp T.b_l_all_so .nil pass0 (pa_cons (pv 11) (pa_cons (pv 12) pa_nil))))) (pw_or1 (pt_cmpR (show OpR _ _ (rNeD K) from op_neD hr.units) (pv 10) (pe_tup (pa_cons (pe_lc (own := [("_law_m", 20)]) (g := (gName 20)) rfl nd (show PI _ _ _ (iList K _) from pi_list (pe_ix (show IxR _ (rIxT K) from ix_tup) (pv 9) pe_int (fun _ _ => rfl))) (blkOk_by (own := [("_law_m", 20)]) (N := N_law) (sc := defScope s_law) (by decide +kernel)) (fun _ _ _ _ _ => by exact (pg_name (i := 20) nd rfl (Or.inl rfl))) (fun _ _ _ _ _ => by exact pts_nil) (fun _ _ _ _ _ => by exact (pe_un un_neg (pv 20)))) (pa_cons (pe_ix (show IxR _ (rIxT K) from ix_tup) (pv 9) pe_int (fun _ _ => rfl)) pa_nil))) (nomark _))))) (pss_one (ps_ret pe_bl)) pss_nil)
    (pss_cons (ps_set (i := 11) nd rfl (Or.inl rfl) (pe_lst (pa_cons (pe_call G_wedge_of hr (by rfl) T.m_wedge_of T.F_wedge_of.kp T.b_wedge_of .nil pass0 (pa_cons (pv 6) (pa_cons (pe_op (op_ow (op := .Mult) (o_rmul T) G_Ratio_mul hr T.b_Ratio_mul pass0) (pv 7) (pv 8)) pa_nil))) (pa_cons (pe_op (op_ow (op := .Add) (o_add T) G_Wedge_add (hr.mono (by decide)) T.b_Wedge_add pass0) (pe_call G_wedge_of hr (by rfl) T.m_wedge_of T.F_wedge_of.kp T.b_wedge_of .nil pass0 (pa_cons (pv 6) (pa_cons (pv 7) pa_nil))) (pe_call G_wedge_of hr (by rfl) T.m_wedge_of T.F_wedge_of.kp T.b_wedge_of .nil pass0 (pa_cons (pv 6) (pa_cons (pv 8) pa_nil)))) (pa_cons (pe_call G_wedge_of hr (by rfl) T.m_wedge_of T.F_wedge_of.kp T.b_wedge_of .nil pass0 (pa_cons (pe_op (op_ow (op := .Mult) (o_rmul T) G_Ratio_mul hr T.b_Ratio_mul pass0) (pv 6) (pv 8)) (pa_cons (pv 7) pa_nil))) (pa_cons (pe_op (op_ow (op := .Add) (o_add T) G_Wedge_add (hr.mono (by decide)) T.b_Wedge_add pass0) (pe_call G_wedge_of hr (by rfl) T.m_wedge_of T.F_wedge_of.kp T.b_wedge_of .nil pass0 (pa_cons (pv 6) (pa_cons (pv 7) pa_nil))) (pe_call G_wedge_of hr (by rfl) T.m_wedge_of T.F_wedge_of.kp T.b_wedge_of .nil pass0 (pa_cons (pv 8) (pa_cons (pv 7) pa_nil)))) pa_nil))))))
    (pss_cons (ps_par (i := 13) (j := 14) rfl nd rfl rfl (by decide) rfl rfl (pa_cons (pe_call G_l_added (hr.mono (by decide)) (by rfl) T.m_l_added T.F_l_added.kp T.b_l_added .nil pass0 (pa_cons (pv 9) (pa_cons (pe_call G_l_two (hr.mono (by decide)) (by rfl) T.m_l_two T.F_l_two.kp T.b_l_two .nil pass0 (pa_cons (pv 2) (pa_cons (pv 4) pa_nil))) pa_nil))) (pa_cons (pe_call G_l_added (hr.mono (by decide)) (by rfl) T.m_l_added T.F_l_added.kp T.b_l_added .nil pass0 (pa_cons (pv 9) (pa_cons (pe_call G_l_two (hr.mono (by decide)) (by rfl) T.m_l_two T.F_l_two.kp T.b_l_two .nil pass0 (pa_cons (pv 4) (pa_cons (pv 3) pa_nil))) pa_nil))) pa_nil)) rfl)
    (pss_cons (ps_if (pt_not (pt_val (pe_call G_l_all_so (hr.mono (by decide)) (by rfl) T.m_l_all_so T.F_l_all_so.kp T.b_l_all_so .nil pass0 (pa_cons (pv 11) (pa_cons (pe_lst (pa_cons (pv 13) (pa_cons (pv 13) (pa_cons (pv 14) (pa_cons (pv 14) pa_nil))))) pa_nil))))) (pss_one (ps_ret pe_bl)) pss_nil)
    (pss_cons (ps_set (i := 11) nd rfl (Or.inl rfl) (pe_lst (pa_cons (pe_call G_wedge_of hr (by rfl) T.m_wedge_of T.F_wedge_of.kp T.b_wedge_of .nil pass0 (pa_cons (pe_meth (pv 6) T.c_Ratio T.a_Ratio_power G_Ratio_power hr T.b_Ratio_power .nil pass0 (pa_cons (pv 5) pa_nil)) (pa_cons (pv 7) pa_nil))) (pa_cons (pe_op (o_rmulI T G_Wedge_rmul (hr.mono (by decide))) (pv 5) (pe_call G_wedge_of hr (by rfl) T.m_wedge_of T.F_wedge_of.kp T.b_wedge_of .nil pass0 (pa_cons (pv 6) (pa_cons (pv 7) pa_nil)))) (pa_cons (pe_call G_wedge_of hr (by rfl) T.m_wedge_of T.F_wedge_of.kp T.b_wedge_of .nil pass0 (pa_cons (pv 6) (pa_cons (pe_op (op_ow (op := .FloorDiv) (o_rdiv T) G_Ratio_floordiv hr T.b_Ratio_floordiv pass0) (pv 7) (pv 8)) pa_nil))) (pa_cons (pe_op (op_ow (op := .Sub) (o_sub T) G_Wedge_sub (hr.mono (by decide)) T.b_Wedge_sub pass0) (pe_call G_wedge_of hr (by rfl) T.m_wedge_of T.F_wedge_of.kp T.b_wedge_of .nil pass0 (pa_cons (pv 6) (pa_cons (pv 7) pa_nil))) (pe_call G_wedge_of hr (by rfl) T.m_wedge_of T.F_wedge_of.kp T.b_wedge_of .nil pass0 (pa_cons (pv 6) (pa_cons (pv 8) pa_nil)))) (pa_cons (pe_un (un_ow T.a_Wedge_neg.at_ T.a_Wedge_neg.fn G_Wedge_neg (hr.mono (by decide)) T.b_Wedge_neg pass0) (pe_call G_wedge_of hr (by rfl) T.m_wedge_of T.F_wedge_of.kp T.b_wedge_of .nil pass0 (pa_cons (pv 6) (pa_cons (pv 7) pa_nil)))) pa_nil)))))))
    (pss_cons (ps_set (i := 15) nd rfl (Or.inl rfl) (pe_tup (pa_cons (pe_lc (own := [("_law_m", 20)]) (g := (gName 20)) rfl nd (show PI _ _ _ (iList K _) from pi_list (pe_ix (show IxR _ (rIxT K) from ix_tup) (pv 9) pe_int (fun _ _ => rfl))) (blkOk_by (own := [("_law_m", 20)]) (N := N_law) (sc := defScope s_law) (by decide +kernel)) (fun _ _ _ _ _ => by exact (pg_name (i := 20) nd rfl (Or.inl rfl))) (fun _ _ _ _ _ => by exact pts_nil) (fun _ _ _ _ _ => by exact (pe_op op_mul (pv 5) (pv 20)))) (pa_cons (pe_lc (own := [("_law_m", 20)]) (g := (gName 20)) rfl nd (show PI _ _ _ (iList K _) from pi_list (pe_ix (show IxR _ (rIxT K) from ix_tup) (pv 9) pe_int (fun _ _ => rfl))) (blkOk_by (own := [("_law_m", 20)]) (N := N_law) (sc := defScope s_law) (by decide +kernel)) (fun _ _ _ _ _ => by exact (pg_name (i := 20) nd rfl (Or.inl rfl))) (fun _ _ _ _ _ => by exact pts_nil) (fun _ _ _ _ _ => by exact (pe_op op_and (pe_op op_mul (pv 5) (pv 20)) pe_int))) pa_nil))))
    (pss_cons (ps_set (i := 16) nd rfl (Or.inl rfl) (pe_call G_l_two (hr.mono (by decide)) (by rfl) T.m_l_two T.F_l_two.kp T.b_l_two .nil pass0 (pa_cons (pv 2) (pa_cons (pe_call G_l_quo (hr.mono (by decide)) (by rfl) T.m_l_quo T.F_l_quo.kp T.b_l_quo .nil pass0 (pa_cons (pv 3) (pa_cons (pv 4) pa_nil))) pa_nil))))
    (pss_cons (ps_if (pt_not (pt_val (pe_call G_l_all_so (hr.mono (by decide)) (by rfl) T.m_l_all_so T.F_l_all_so.kp T.b_l_all_so .nil pass0 (pa_cons (pv 11) (pa_cons (pe_lst (pa_cons (pv 15) (pa_cons (pv 15) (pa_cons (pv 16) (pa_cons (pv 16) (pa_cons (pe_tup (pa_cons (pe_lc (own := [("_law_m", 20)]) (g := (gName 20)) rfl nd (show PI _ _ _ (iList K _) from pi_list (pe_ix (show IxR _ (rIxT K) from ix_tup) (pv 9) pe_int (fun _ _ => rfl))) (blkOk_by (own := [("_law_m", 20)]) (N := N_law) (sc := defScope s_law) (by decide +kernel)) (fun _ _ _ _ _ => by exact (pg_name (i := 20) nd rfl (Or.inl rfl))) (fun _ _ _ _ _ => by exact pts_nil) (fun _ _ _ _ _ => by exact (pe_un un_neg (pv 20)))) (pa_cons (pe_ix (show IxR _ (rIxT K) from ix_tup) (pv 9) pe_int (fun _ _ => rfl)) pa_nil))) pa_nil)))))) pa_nil))))) (pss_one (ps_ret pe_bl)) pss_nil)
    (pss_cons (ps_set (i := 11) nd rfl (Or.inl rfl) (pe_lst (pa_cons (pe_cmpR (op_owEq T.a_Wedge_eq.at_ T.a_Wedge_eq.fn G_Wedge_eq (hr.mono (by decide)) T.b_Wedge_eq pass0) (pe_op (op_ow (op := .Add) (o_add T) G_Wedge_add (hr.mono (by decide)) T.b_Wedge_add pass0) (pe_call G_wedge_of hr (by rfl) T.m_wedge_of T.F_wedge_of.kp T.b_wedge_of .nil pass0 (pa_cons (pv 6) (pa_cons (pv 7) pa_nil))) (pe_call G_wedge_of hr (by rfl) T.m_wedge_of T.F_wedge_of.kp T.b_wedge_of .nil pass0 (pa_cons (pv 7) (pa_cons (pv 6) pa_nil)))) (pe_call0 G_nothing (hr.mono (by decide)) (by rfl) T.m_nothing T.F_nothing.kp T.b_nothing .nil pass0) (nomark _)) (pa_cons (pe_prop (pe_call G_wedge_of hr (by rfl) T.m_wedge_of T.F_wedge_of.kp T.b_wedge_of .nil pass0 (pa_cons (pv 6) (pa_cons (pv 7) pa_nil))) T.c_Wedge T.P_Wedge_flat G_Wedge_flat (hr.mono (by decide)) T.b_Wedge_flat .nil pass0 rfl) (pa_cons (pe_prop (pe_call G_wedge_of hr (by rfl) T.m_wedge_of T.F_wedge_of.kp T.b_wedge_of .nil pass0 (pa_cons (pv 6) (pa_cons (pv 7) pa_nil))) T.c_Wedge T.P_Wedge_owed G_Wedge_owed (hr.mono (by decide)) T.b_Wedge_owed .nil pass0 rfl) (pa_cons (pe_prop (pe_call G_wedge_of hr (by rfl) T.m_wedge_of T.F_wedge_of.kp T.b_wedge_of .nil pass0 (pa_cons (pv 6) (pa_cons (pv 7) pa_nil))) T.c_Wedge T.P_Wedge_rank G_Wedge_rank (hr.mono (by decide)) T.b_Wedge_rank .nil pass0 rfl) pa_nil))))))
    (pss_cons (ps_set (i := 17) nd rfl (Or.inl rfl) (pe_cmpR (show OpR _ _ (rEqD K) from op_eqD hr.units) (pe_ix (show IxR _ (rIxT K) from ix_tup) (pv 9) pe_int (fun _ _ => rfl)) (pe_op op_rep (pe_lst (pa_cons pe_int pa_nil)) pe_int) (nomark _)))
    (pss_cons (ps_if (pt_not (pt_val (pe_call G_l_same (hr.mono (by decide)) (by rfl) T.m_l_same T.F_l_same.kp T.b_l_same .nil pass0 (pa_cons (pv 11) (pa_cons (pe_lst (pa_cons pe_bl (pa_cons (pv 17) (pa_cons (pe_callTy call_int1 (by rfl) T.z_int (by decide +kernel) (pa_cons (pe_not (pv 17)) pa_nil)) (pa_cons (pe_op op_mul pe_int (pe_callTy call_int1 (by rfl) T.z_int (by decide +kernel) (pa_cons (pe_not (pv 17)) pa_nil))) pa_nil))))) pa_nil))))) (pss_one (ps_ret pe_bl)) pss_nil)
    (pss_cons (ps_set (i := 18) nd rfl (Or.inl rfl) (pe_op (op_ow (op := .Add) (o_add T) G_Wedge_add (hr.mono (by decide)) T.b_Wedge_add pass0) (pe_op (op_ow (op := .Add) (o_add T) G_Wedge_add (hr.mono (by decide)) T.b_Wedge_add pass0) (pe_call G_wedge_of hr (by rfl) T.m_wedge_of T.F_wedge_of.kp T.b_wedge_of .nil pass0 (pa_cons (pv 6) (pa_cons (pv 7) pa_nil))) (pe_call G_wedge_of hr (by rfl) T.m_wedge_of T.F_wedge_of.kp T.b_wedge_of .nil pass0 (pa_cons (pv 7) (pa_cons (pv 8) pa_nil)))) (pe_call G_wedge_of hr (by rfl) T.m_wedge_of T.F_wedge_of.kp T.b_wedge_of .nil pass0 (pa_cons (pv 8) (pa_cons (pv 6) pa_nil)))))
    (pss_cons (ps_set (i := 19) nd rfl (Or.inl rfl) (pe_call G_l_added (hr.mono (by decide)) (by rfl) T.m_l_added T.F_l_added.kp T.b_l_added .nil pass0 (pa_cons (pe_call G_l_two (hr.mono (by decide)) (by rfl) T.m_l_two T.F_l_two.kp T.b_l_two .nil pass0 (pa_cons (pv 2) (pa_cons (pv 3) pa_nil))) (pa_cons (pe_call G_l_added (hr.mono (by decide)) (by rfl) T.m_l_added T.F_l_added.kp T.b_l_added .nil pass0 (pa_cons (pe_call G_l_two (hr.mono (by decide)) (by rfl) T.m_l_two T.F_l_two.kp T.b_l_two .nil pass0 (pa_cons (pv 3) (pa_cons (pv 4) pa_nil))) (pa_cons (pe_call G_l_two (hr.mono (by decide)) (by rfl) T.m_l_two T.F_l_two.kp T.b_l_two .nil pass0 (pa_cons (pv 4) (pa_cons (pv 2) pa_nil))) pa_nil))) pa_nil))))
    (pss_one (ps_ret (pe_and (pe_call G_l_all_so (hr.mono (by decide)) (by rfl) T.m_l_all_so T.F_l_all_so.kp T.b_l_all_so .nil pass0 (pa_cons (pe_lst (pa_cons (pv 18) (pa_cons (pe_call G_wedge_of hr (by rfl) T.m_wedge_of T.F_wedge_of.kp T.b_wedge_of .nil pass0 (pa_cons (pv 6) (pa_cons (pv 7) pa_nil))) pa_nil))) (pa_cons (pe_lst (pa_cons (pv 19) (pa_cons (pv 9) pa_nil))) pa_nil))) (pe_one (pe_call G_l_same (hr.mono (by decide)) (by rfl) T.m_l_same T.F_l_same.kp T.b_l_same .nil pass0 (pa_cons (pe_call G_l_seen (hr.mono (by decide)) (by rfl) T.m_l_seen T.F_l_seen.kp T.b_l_seen .nil pass0 (pa_cons (pe_lst (pa_cons (pv 6) (pa_cons (pv 7) (pa_cons (pv 8) pa_nil)))) pa_nil)) (pa_cons (pe_lst (pa_cons (pe_call G_l_is (hr.mono (by decide)) (by rfl) T.m_l_is T.F_l_is.kp T.b_l_is .nil pass0 (pa_cons (pv 2) pa_nil)) (pa_cons (pe_call G_l_is (hr.mono (by decide)) (by rfl) T.m_l_is T.F_l_is.kp T.b_l_is .nil pass0 (pa_cons (pv 3) pa_nil)) (pa_cons (pe_call G_l_is (hr.mono (by decide)) (by rfl) T.m_l_is T.F_l_is.kp T.b_l_is .nil pass0 (pa_cons (pv 4) pa_nil)) pa_nil)))) pa_nil)))))))))))))))))))))))))))), ?_⟩
  refine ⟨_, rfl, a, ns, rfl, hS, h63, fun B H1 s1 hB1 _ => ?_⟩
  refine ⟨_, rfl, B, rfl, hB1, fun px x H2 hB2 kb2 hx dx => ⟨_, rfl, B, rfl, hB2, fun py y H3 hB3 kb3 hy dy => ⟨_, rfl, B, rfl, hB3, fun pz z H4 hB4 kb4 hz dz => ⟨_, _, _, rfl, ?_⟩⟩⟩⟩
  refine ⟨_, rfl, B, 7, rfl, by decide, by decide, hB4, fun d H5 d0 d1 hB5 kb5 => ⟨_, _, rfl, rfl, ?_⟩⟩
  replace hx := ((hx.kb hB2 kb3).kb hB3 kb4).kb hB4 kb5
  replace hy := (hy.kb hB3 kb4).kb hB4 kb5
  replace hz := hz.kb hB4 kb5
  clear hB1 hB2 hB3 hB4 kb2 kb3 kb4 kb5 s1 hS
  have hn : (d - 3).natAbs ≤ 3 := by omega
  dsimp only
  generalize d - 3 = n at *
  clear d0 d1
  refine ⟨fun σ' H' => (∃ py y, σ' = [some (.ref a), some (.ref B.b), some (.ref px), some (.ref py), some (.ref pz), some (.int n), none, none, none, none, none, none, none, none, none, none, none, none, none, none, none] ∧ TAt K H' py y ∧ Sq9 y) ∧ Bag B H' ∧ TAt K H' px x ∧ TAt K H' pz z, ?_, ?_⟩
  · refine ⟨_, rfl, B, 5, rfl, by decide, by decide, hB5, fun d H6 d0 d1 hB6 kb6 => ?_⟩
    replace hx := hx.kb hB5 kb6
    replace hy := hy.kb hB5 kb6
    replace hz := hz.kb hB5 kb6
    refine ⟨rfl, _, rfl, ?_⟩
    refine ite2 (fun c => ?_) (fun c => ?_)
    · have u1 := sd_pow dx hn
      refine ⟨_, rfl, _, rfl, px, n, x, rfl, hx, by omega, u1.1, u1.2.1, fun t H7 s7 ht => ?_⟩
      exact ⟨⟨t, mulE n x, rfl, ht, u1.2.2⟩, hB6.same s7, hx.same s7, hz.same s7⟩
    · exact ⟨⟨py, y, rfl, hy, sd_sq dy⟩, hB6, hx, hz⟩
  clear hx hy hz hB5 dy y py H5
  rintro σ' H5 ⟨⟨py, y, rfl, hy, dy⟩, hB5, hx, hz⟩
  have dx9 := sd_sq dx
  have dz9 := sd_sq dz
  have hx6 := hx.len
  have hy6 := hy.len
  have hz6 := hz.len
  have xe := sq_ex hx6 dx9
  have ye := sq_ex hy6 dy
  have ze := sq_ex hz6 dz9
  refine ⟨_, rfl, _, rfl, B, px, x, rfl, hB5, hx, sq_fit dx9, fun pa H6 hB6 kb6 ra => ?_⟩
  replace hx := hx.kb hB5 kb6
  replace hy := hy.kb hB5 kb6
  replace hz := hz.kb hB5 kb6
  refine ⟨_, rfl, _, rfl, B, py, y, rfl, hB6, hy, sq_fit dy, fun pb H7 hB7 kb7 rb => ?_⟩
  replace hx := hx.kb hB6 kb7
  replace hy := hy.kb hB6 kb7
  replace hz := hz.kb hB6 kb7
  replace ra := ra.kb hB6 kb7
  refine ⟨_, rfl, _, rfl, B, pz, z, rfl, hB7, hz, sq_fit dz9, fun pc H8 hB8 kb8 rc => ⟨_, _, _, rfl, ?_⟩⟩
  replace hx := hx.kb hB7 kb8
  replace hy := hy.kb hB7 kb8
  replace hz := hz.kb hB7 kb8
  replace ra := ra.kb hB7 kb8
  replace rb := rb.kb hB7 kb8
  clear hB5 hB6 hB7 hB8 kb6 kb7 kb8
  refine ⟨_, rfl, _, rfl, px, py, x, y, rfl, hx, hy, xe, ye, fun pw H9 s9 hw => ⟨_, rfl, _, rfl, py, px, y, x, rfl, hy.same s9, hx.same s9, ye, xe, fun po H10 s10 ho => ⟨_, _, rfl, ?_⟩⟩⟩
  have s910 := s9.trans s10
  replace hx := hx.same s910
  replace hy := hy.same s910
  replace hz := hz.same s910
  replace ra := ra.same s910
  replace rb := rb.same s910
  replace rc := rc.same s910
  replace hw := hw.same s10
  clear s9 s10 s910
  dsimp only
  refine told_set (ws := [wedE x y, wedE x y, wedE y x, wedE x x, wedE x (List.replicate 6 0), wedE (List.replicate 6 0) y]) (ews_cons (ew_wof (er_var rfl ra) (er_var rfl rb) xe) (ews_cons (ew_wofK (er_var rfl rb) (er_var rfl ra) xe) (ews_cons (ew_wof (er_var rfl rb) (er_var rfl ra) ye) (ews_cons (ew_wof (er_var rfl ra) (er_var rfl ra) xe) (ews_cons (ew_wof (er_var rfl ra) er_one xe) (ews_cons (ew_wof er_one (er_var rfl rb) ex_zero) ews_nil)))))) (by show 6 ≤ 1000; decide) fun ps1 p1 H11 s11 w1 h1 => ?_
  rw [wed_self hx6, wed_zero_r, wed_zero_l] at w1
  replace hx := hx.same s11
  replace hy := hy.same s11
  replace hz := hz.same s11
  replace ra := ra.same s11
  replace rb := rb.same s11
  replace rc := rc.same s11
  replace hw := hw.same s11
  replace ho := ho.same s11
  clear s11
  refine dues_set (ws := [wedE x y, wedE x y, wedE y x, (List.replicate 15 0, bitsE x), zeroW, zeroW]) (els_cons (el_var rfl hw) (els_cons (el_var rfl hw) (els_cons (el_var rfl ho) (els_cons (el_bits (et_var rfl hx)) (els_cons el_none (els_cons el_none els_nil)))))) (by show 6 ≤ 1000; decide) fun ps2 p2 H12 s12 w2 h2 => ?_
  replace hx := hx.same s12
  replace hy := hy.same s12
  replace hz := hz.same s12
  replace ra := ra.same s12
  replace rb := rb.same s12
  replace rc := rc.same s12
  replace hw := hw.same s12
  replace ho := ho.same s12
  replace w1 := w1.same s12
  replace h1 := s12 _ _ h1
  clear s12
  refine if_so_ne (eb_so_v rfl rfl h1 h2 w1 w2 (by show 6 ≤ 1000; decide)) (eb_neLf (el_var rfl ho) (el_negT rfl hw (by show 20 < 21; decide)) (wed_neg x y)) fun H13 s13 => ?_
  replace hx := hx.same s13
  replace hy := hy.same s13
  replace hz := hz.same s13
  replace ra := ra.same s13
  replace rb := rb.same s13
  replace rc := rc.same s13
  replace hw := hw.same s13
  clear s13 h1 h2 w1 w2 ho
  have bxz := sq_add (hx6.trans hz6.symm) dx9 dz9
  have byz := sq_add (hy6.trans hz6.symm) dy dz9
  have syz := sq_sub (hy6.trans hz6.symm) dy dz9
  have xze : Ex (10 ^ 6) (addE x z) := bxz.2.2 (by simp [addE, hx6, hz6])
  have nxe : Ex (10 ^ 6) (mulE n x) := sq_ex (by rw [mulE, List.length_map, hx6]) (sd_pow dx hn).2.2
  have nxp : Pw n x := sd_pw hx6 dx hn
  refine told_set (ws := [wedE x (addE y z), addW (wedE x y) (wedE x z), wedE (addE x z) y, addW (wedE x y) (wedE z y)]) (ews_cons (ew_wof (er_var rfl ra) (er_op (er_var rfl rb) (er_var rfl rc) byz.1 byz.2.1) xe) (ews_cons (ew_op (ew_wof (er_var rfl ra) (er_var rfl rb) xe) (ew_wof (er_var rfl ra) (er_var rfl rc) xe)) (ews_cons (ew_wof (er_op (er_var rfl ra) (er_var rfl rc) bxz.1 bxz.2.1) (er_var rfl rb) xze) (ews_cons (ew_op (ew_wof (er_var rfl ra) (er_var rfl rb) xe) (ew_wof (er_var rfl rc) (er_var rfl rb) ze)) ews_nil)))) (by show 4 ≤ 1000; decide) fun ps1 p1 H14 s14 w1 h1 => ?_
  rw [wed_add_r (hy6.trans hz6.symm), wed_add_l (hx6.trans hz6.symm)] at w1
  replace hx := hx.same s14
  replace hy := hy.same s14
  replace hz := hz.same s14
  replace ra := ra.same s14
  replace rb := rb.same s14
  replace rc := rc.same s14
  replace hw := hw.same s14
  clear s14
  refine par_lv (el_added (el_var rfl hw) (el_two (et_var rfl hx) (et_var rfl hz) xe ze)) (el_added (el_var rfl hw) (el_two (et_var rfl hz) (et_var rfl hy) ze ye)) fun p13 p14 H15 s15 h13 h14 => ?_
  rw [wed_add_r (hy6.trans hz6.symm)] at h13
  rw [wed_add_l (hx6.trans hz6.symm)] at h14
  replace hx := hx.same s15
  replace hy := hy.same s15
  replace hz := hz.same s15
  replace ra := ra.same s15
  replace rb := rb.same s15
  replace rc := rc.same s15
  replace hw := hw.same s15
  replace w1 := w1.same s15
  replace h1 := s15 _ _ h1
  clear s15
  refine if_so (eb_so_vl rfl h1 w1 (els_cons (el_var rfl h13) (els_cons (el_var rfl h13) (els_cons (el_var rfl h14) (els_cons (el_var rfl h14) els_nil)))) (by show 4 ≤ 1000; decide)) fun H16 s16 => ?_
  replace hx := hx.same s16
  replace hy := hy.same s16
  replace hz := hz.same s16
  replace ra := ra.same s16
  replace rb := rb.same s16
  replace rc := rc.same s16
  replace hw := hw.same s16
  clear s16 h1 w1 h13 h14
  refine told_set (ws := [wedE (mulE n x) y, mulW n (wedE x y), wedE x (subE y z), subW (wedE x y) (wedE x z), negW (wedE x y)]) (ews_cons (ew_wof (er_pow (er_var rfl ra) (ei_var rfl) nxp) (er_var rfl rb) nxe) (ews_cons (ew_rmul (ei_var rfl) (ew_wof (er_var rfl ra) (er_var rfl rb) xe) (wed_small xe ye hn)) (ews_cons (ew_wof (er_var rfl ra) (er_op (er_var rfl rb) (er_var rfl rc) syz.1 syz.2.1) xe) (ews_cons (ew_op (ew_wof (er_var rfl ra) (er_var rfl rb) xe) (ew_wof (er_var rfl ra) (er_var rfl rc) xe)) (ews_cons (ew_neg (ew_wof (er_var rfl ra) (er_var rfl rb) xe)) ews_nil))))) (by show 5 ≤ 1000; decide) fun ps1 p1 H17 s17 w1 h1 => ?_
  rw [wed_mul, wed_sub_r (hy6.trans hz6.symm)] at w1
  replace hx := hx.same s17
  replace hy := hy.same s17
  replace hz := hz.same s17
  replace ra := ra.same s17
  replace rb := rb.same s17
  replace rc := rc.same s17
  replace hw := hw.same s17
  clear s17
  refine lv_set (el_mulT rfl rfl (by omega) hw (by show 20 < 21; decide) (by decide)) fun p15 H18 s18 h15 => ?_
  replace hx := hx.same s18
  replace hy := hy.same s18
  replace hz := hz.same s18
  replace ra := ra.same s18
  replace rb := rb.same s18
  replace rc := rc.same s18
  replace hw := hw.same s18
  replace w1 := w1.same s18
  replace h1 := s18 _ _ h1
  clear s18
  refine lv_set (el_two (et_var rfl hx) (et_op rfl rfl hy hz (sq_fit dy) (sq_fit dz9)) xe (syz.2.2 (by simp [subE, hy6, hz6]))) fun p16 H19 s19 h16 => ?_
  replace hx := hx.same s19
  replace hy := hy.same s19
  replace hz := hz.same s19
  replace ra := ra.same s19
  replace rb := rb.same s19
  replace rc := rc.same s19
  replace hw := hw.same s19
  replace w1 := w1.same s19
  replace h15 := h15.same s19
  replace h1 := s19 _ _ h1
  clear s19
  refine if_so (eb_so_vl rfl h1 w1 (els_cons (el_var rfl h15) (els_cons (el_var rfl h15) (els_cons (el_var rfl h16) (els_cons (el_var rfl h16) (els_cons (el_negT rfl hw (by show 20 < 21; decide)) els_nil))))) (by show 5 ≤ 1000; decide)) fun H20 s20 => ?_
  replace hx := hx.same s20
  replace hy := hy.same s20
  replace hz := hz.same s20
  replace ra := ra.same s20
  replace rb := rb.same s20
  replace rc := rc.same s20
  replace hw := hw.same s20
  clear s20 h1 w1 h15 h16
  exact law_tail hx hy hz ra rb rc hw xe ye ze q
end
end TL.W
namespace TL
open PySem
theorem kit_no {K : PySem.W.Frag} {t : String} {C : Addr} (h1 : PySem.W.isClsIn K C = true) (h2 : PySem.W.typeIn K (.ref C) = some (.type "type")) (h3 : PySem.W.subIn K (.type t) (.ref C) = some false) : PySem.W.kitOne K (.type t) (.ref C) = some false := by
  unfold PySem.W.kitOne
  have hn : ¬ (Value.type t == Value.ref C) = true := fun e => by cases (beq_iff_eq.mp e)
  rw [if_neg hn]
  show (if ((PySem.W.clsIn K C).isSome && PySem.W.typeIn K (.ref C) == some (.type "type")) = true then PySem.W.subIn K (.type t) (.ref C) else none) = _
  rw [if_pos ?_, h3]
  rw [h2, show (PySem.W.clsIn K C).isSome = true from h1, beq_self_eq_true]
  rfl
end TL
namespace TL.W
open TL
open PySem L2
/-! ### the end -/
def TupO (o : Obj) (xs : List V) : Prop := ∃ (its : Array Value) (n : Nat), o.cls = .type "tuple" ∧ o.data = .seq its n ∧ its.size ≤ sizeLine ∧ Vals xs its.toList
theorem tupO_sq {K : PySem.W.Frag} {H : Hp} {a : Addr} {o : Obj} {xs : List V} (l : K.lookup a = some o) (v : TupO o xs) : SqT K H a xs := by
  obtain ⟨its, n, h1, h2, h3, h4⟩ := v
  exact .inr ⟨o, its, n, l, h1, h2, h3, h4⟩
set_option maxHeartbeats 0 in
theorem all_mk {P : Program} {w : World} {K : PySem.W.Frag} {h : Heap} {mg : Str → Option Value} {fa : Addr} {C_Ratio : Addr} {C_Wedge : Addr} {e_PRIMES : Addr} {o_PRIMES : Obj} {e_NO_POWERS : Addr} {o_NO_POWERS : Obj} {t_MANY : Tok} {e_PAIRS : Addr} {o_PAIRS : Obj} {ap0 : Addr} {op0 : Obj} {ap1 : Addr} {op1 : Obj} {ap2 : Addr} {op2 : Obj} {ap3 : Addr} {op3 : Obj} {ap4 : Addr} {op4 : Obj} {ap5 : Addr} {op5 : Obj} {ap6 : Addr} {op6 : Obj} {ap7 : Addr} {op7 : Obj} {ap8 : Addr} {op8 : Obj} {ap9 : Addr} {op9 : Obj} {ap10 : Addr} {op10 : Obj} {ap11 : Addr} {op11 : Obj} {ap12 : Addr} {op12 : Obj} {ap13 : Addr} {op13 : Obj} {ap14 : Addr} {op14 : Obj} {f1 : Addr} {od1 an1 : Option Addr} {sl1 : Array (Option Value)} {oc1 kV1 dc1 pm1 cd1 ct1 : Value} {f2 : Addr} {od2 an2 : Option Addr} {sl2 : Array (Option Value)} {oc2 kV2 dc2 pm2 cd2 ct2 : Value} {f3 : Addr} {od3 an3 : Option Addr} {sl3 : Array (Option Value)} {oc3 kV3 dc3 pm3 cd3 ct3 : Value} {f4 : Addr} {od4 an4 : Option Addr} {sl4 : Array (Option Value)} {oc4 kV4 dc4 pm4 cd4 ct4 : Value} {f5 : Addr} {od5 an5 : Option Addr} {sl5 : Array (Option Value)} {oc5 kV5 dc5 pm5 cd5 ct5 : Value} {dT5 : Addr} {oT5 : Obj} {f6 : Addr} {od6 an6 : Option Addr} {sl6 : Array (Option Value)} {oc6 kV6 dc6 pm6 cd6 ct6 : Value} {f7 : Addr} {od7 an7 : Option Addr} {sl7 : Array (Option Value)} {oc7 kV7 dc7 pm7 cd7 ct7 : Value} {f8 : Addr} {od8 an8 : Option Addr} {sl8 : Array (Option Value)} {oc8 kV8 dc8 pm8 cd8 ct8 : Value} {f9 : Addr} {od9 an9 : Option Addr} {sl9 : Array (Option Value)} {oc9 kV9 dc9 pm9 cd9 ct9 : Value} {f10 : Addr} {od10 an10 : Option Addr} {sl10 : Array (Option Value)} {oc10 kV10 dc10 pm10 cd10 ct10 : Value} {f11 : Addr} {od11 an11 : Option Addr} {sl11 : Array (Option Value)} {oc11 kV11 dc11 pm11 cd11 ct11 : Value} {f12 : Addr} {od12 an12 : Option Addr} {sl12 : Array (Option Value)} {oc12 kV12 dc12 pm12 cd12 ct12 : Value} {f13 : Addr} {od13 an13 : Option Addr} {sl13 : Array (Option Value)} {oc13 kV13 dc13 pm13 cd13 ct13 : Value} {f14 : Addr} {od14 an14 : Option Addr} {sl14 : Array (Option Value)} {oc14 kV14 dc14 pm14 cd14 ct14 : Value} {f15 : Addr} {od15 an15 : Option Addr} {sl15 : Array (Option Value)} {oc15 kV15 dc15 pm15 cd15 ct15 : Value} {f16 : Addr} {od16 an16 : Option Addr} {sl16 : Array (Option Value)} {oc16 kV16 dc16 pm16 cd16 ct16 : Value} {f17 : Addr} {od17 an17 : Option Addr} {sl17 : Array (Option Value)} {oc17 kV17 dc17 pm17 cd17 ct17 : Value} {dT17 : Addr} {oT17 : Obj} {e_bits : Addr} {o_bits : Obj} {f18 : Addr} {od18 an18 : Option Addr} {sl18 : Array (Option Value)} {oc18 kV18 dc18 pm18 cd18 ct18 : Value} {f19 : Addr} {od19 an19 : Option Addr} {sl19 : Array (Option Value)} {oc19 kV19 dc19 pm19 cd19 ct19 : Value} {f20 : Addr} {od20 an20 : Option Addr} {sl20 : Array (Option Value)} {oc20 kV20 dc20 pm20 cd20 ct20 : Value} {f21 : Addr} {od21 an21 : Option Addr} {sl21 : Array (Option Value)} {oc21 kV21 dc21 pm21 cd21 ct21 : Value} {p21 : Addr} {rs21 : List Value} {f22 : Addr} {od22 an22 : Option Addr} {sl22 : Array (Option Value)} {oc22 kV22 dc22 pm22 cd22 ct22 : Value} {p22 : Addr} {rs22 : List Value} {f23 : Addr} {od23 an23 : Option Addr} {sl23 : Array (Option Value)} {oc23 kV23 dc23 pm23 cd23 ct23 : Value} {p23 : Addr} {rs23 : List Value} {f24 : Addr} {od24 an24 : Option Addr} {sl24 : Array (Option Value)} {oc24 kV24 dc24 pm24 cd24 ct24 : Value} {f25 : Addr} {od25 an25 : Option Addr} {sl25 : Array (Option Value)} {oc25 kV25 dc25 pm25 cd25 ct25 : Value} {f26 : Addr} {od26 an26 : Option Addr} {sl26 : Array (Option Value)} {oc26 kV26 dc26 pm26 cd26 ct26 : Value} {f27 : Addr} {od27 an27 : Option Addr} {sl27 : Array (Option Value)} {oc27 kV27 dc27 pm27 cd27 ct27 : Value} {f28 : Addr} {od28 an28 : Option Addr} {sl28 : Array (Option Value)} {oc28 kV28 dc28 pm28 cd28 ct28 : Value} {f29 : Addr} {od29 an29 : Option Addr} {sl29 : Array (Option Value)} {oc29 kV29 dc29 pm29 cd29 ct29 : Value} {f30 : Addr} {od30 an30 : Option Addr} {sl30 : Array (Option Value)} {oc30 kV30 dc30 pm30 cd30 ct30 : Value} {f31 : Addr} {od31 an31 : Option Addr} {sl31 : Array (Option Value)} {oc31 kV31 dc31 pm31 cd31 ct31 : Value} {f32 : Addr} {od32 an32 : Option Addr} {sl32 : Array (Option Value)} {oc32 kV32 dc32 pm32 cd32 ct32 : Value} {f33 : Addr} {od33 an33 : Option Addr} {sl33 : Array (Option Value)} {oc33 kV33 dc33 pm33 cd33 ct33 : Value} {f34 : Addr} {od34 an34 : Option Addr} {sl34 : Array (Option Value)} {oc34 kV34 dc34 pm34 cd34 ct34 : Value} {f35 : Addr} {od35 an35 : Option Addr} {sl35 : Array (Option Value)} {oc35 kV35 dc35 pm35 cd35 ct35 : Value} {f36 : Addr} {od36 an36 : Option Addr} {sl36 : Array (Option Value)} {oc36 kV36 dc36 pm36 cd36 ct36 : Value} {f37 : Addr} {od37 an37 : Option Addr} {sl37 : Array (Option Value)} {oc37 kV37 dc37 pm37 cd37 ct37 : Value} {f38 : Addr} {od38 an38 : Option Addr} {sl38 : Array (Option Value)} {oc38 kV38 dc38 pm38 cd38 ct38 : Value} {f39 : Addr} {od39 an39 : Option Addr} {sl39 : Array (Option Value)} {oc39 kV39 dc39 pm39 cd39 ct39 : Value} {f40 : Addr} {od40 an40 : Option Addr} {sl40 : Array (Option Value)} {oc40 kV40 dc40 pm40 cd40 ct40 : Value} {f41 : Addr} {od41 an41 : Option Addr} {sl41 : Array (Option Value)} {oc41 kV41 dc41 pm41 cd41 ct41 : Value} {f42 : Addr} {od42 an42 : Option Addr} {sl42 : Array (Option Value)} {oc42 kV42 dc42 pm42 cd42 ct42 : Value} {f43 : Addr} {od43 an43 : Option Addr} {sl43 : Array (Option Value)} {oc43 kV43 dc43 pm43 cd43 ct43 : Value} {f44 : Addr} {od44 an44 : Option Addr} {sl44 : Array (Option Value)} {oc44 kV44 dc44 pm44 cd44 ct44 : Value} {f45 : Addr} {od45 an45 : Option Addr} {sl45 : Array (Option Value)} {oc45 kV45 dc45 pm45 cd45 ct45 : Value} {f46 : Addr} {od46 an46 : Option Addr} {sl46 : Array (Option Value)} {oc46 kV46 dc46 pm46 cd46 ct46 : Value} {f47 : Addr} {od47 an47 : Option Addr} {sl47 : Array (Option Value)} {oc47 kV47 dc47 pm47 cd47 ct47 : Value} {f48 : Addr} {od48 an48 : Option Addr} {sl48 : Array (Option Value)} {oc48 kV48 dc48 pm48 cd48 ct48 : Value} {f49 : Addr} {od49 an49 : Option Addr} {sl49 : Array (Option Value)} {oc49 kV49 dc49 pm49 cd49 ct49 : Value} {f50 : Addr} {od50 an50 : Option Addr} {sl50 : Array (Option Value)} {oc50 kV50 dc50 pm50 cd50 ct50 : Value} {f51 : Addr} {od51 an51 : Option Addr} {sl51 : Array (Option Value)} {oc51 kV51 dc51 pm51 cd51 ct51 : Value} {f52 : Addr} {od52 an52 : Option Addr} {sl52 : Array (Option Value)} {oc52 kV52 dc52 pm52 cd52 ct52 : Value} {f53 : Addr} {od53 an53 : Option Addr} {sl53 : Array (Option Value)} {oc53 kV53 dc53 pm53 cd53 ct53 : Value} {f54 : Addr} {od54 an54 : Option Addr} {sl54 : Array (Option Value)} {oc54 kV54 dc54 pm54 cd54 ct54 : Value} {f55 : Addr} {od55 an55 : Option Addr} {sl55 : Array (Option Value)} {oc55 kV55 dc55 pm55 cd55 ct55 : Value} {f56 : Addr} {od56 an56 : Option Addr} {sl56 : Array (Option Value)} {oc56 kV56 dc56 pm56 cd56 ct56 : Value} {f57 : Addr} {od57 an57 : Option Addr} {sl57 : Array (Option Value)} {oc57 kV57 dc57 pm57 cd57 ct57 : Value} {f58 : Addr} {od58 an58 : Option Addr} {sl58 : Array (Option Value)} {oc58 kV58 dc58 pm58 cd58 ct58 : Value} {f59 : Addr} {od59 an59 : Option Addr} {sl59 : Array (Option Value)} {oc59 kV59 dc59 pm59 cd59 ct59 : Value} {f60 : Addr} {od60 an60 : Option Addr} {sl60 : Array (Option Value)} {oc60 kV60 dc60 pm60 cd60 ct60 : Value} {f61 : Addr} {od61 an61 : Option Addr} {sl61 : Array (Option Value)} {oc61 kV61 dc61 pm61 cd61 ct61 : Value} {f62 : Addr} {od62 an62 : Option Addr} {sl62 : Array (Option Value)} {oc62 kV62 dc62 pm62 cd62 ct62 : Value} {f63 : Addr} {od63 an63 : Option Addr} {sl63 : Array (Option Value)} {oc63 kV63 dc63 pm63 cd63 ct63 : Value} {x_iM : Option Value} {x_iR : Option Value} (X : K.In h) (G : h.Ns mainGlobals mg) (hfa : mg "law" = some (.ref fa))
    (z_len : PySem.W.nsIn K mainGlobals "len" = some none)
    (z_abs : PySem.W.nsIn K mainGlobals "abs" = some none)
    (z_int : PySem.W.nsIn K mainGlobals "int" = some none)
    (z_isinstance : PySem.W.nsIn K mainGlobals "isinstance" = some none)
    (z_list : PySem.W.nsIn K mainGlobals "list" = some none)
    (z_tuple : PySem.W.nsIn K mainGlobals "tuple" = some none)
    (z_bool : PySem.W.nsIn K mainGlobals "bool" = some none)
    (z_str : PySem.W.nsIn K mainGlobals "str" = some none)
    (z_all : PySem.W.nsIn K mainGlobals "all" = some none)
    (z_any : PySem.W.nsIn K mainGlobals "any" = some none)
    (z_zip : PySem.W.nsIn K mainGlobals "zip" = some none)
    (z_range : PySem.W.nsIn K mainGlobals "range" = some none)
    (z_enumerate : PySem.W.nsIn K mainGlobals "enumerate" = some none)
    (z_divmod : PySem.W.nsIn K mainGlobals "divmod" = some none)
    (z_max : PySem.W.nsIn K mainGlobals "max" = some none)
    (z_min : PySem.W.nsIn K mainGlobals "min" = some none)
    (z_reversed : PySem.W.nsIn K mainGlobals "reversed" = some none)
    (aC_Ratio : PySem.W.nsIn K mainGlobals "Ratio" = some (some (.ref C_Ratio)))
    (pg_Ratio : PySem.W.plainGet K C_Ratio Str.empty = true)
    (hd_Ratio : PySem.W.hasDictIn K C_Ratio = true)
    (po_Ratio : PySem.W.plainOver K C_Ratio = true)
    (sa_Ratio : PySem.W.findIn K (.ref C_Ratio) "__setattr__" = some (some (.builtin "object.__setattr__")))
    (n_Ratio_over : PySem.W.findIn K (.ref C_Ratio) "over" = some none)
    (n_Ratio_under : PySem.W.findIn K (.ref C_Ratio) "under" = some none)
    (n_Ratio_powers : PySem.W.findIn K (.ref C_Ratio) "_powers" = some none)
    (ca_Ratio : PySem.W.findIn K (.ref C_Ratio) "__class__" = some (some (.builtin "object.__class__")))
    (cm_Ratio : PySem.W.mroIn K C_Ratio (.type "object") = some true)
    (cn_Ratio : PySem.W.specialIn K (.builtin "object.__class__") "__get__" = some (some (.builtin "getset_descriptor.__get__")))
    (ct_Ratio : PySem.W.takesIn K (.builtin "object.__class__") = some true)
    (aC_Wedge : PySem.W.nsIn K mainGlobals "Wedge" = some (some (.ref C_Wedge)))
    (pg_Wedge : PySem.W.plainGet K C_Wedge Str.empty = true)
    (hd_Wedge : PySem.W.hasDictIn K C_Wedge = true)
    (po_Wedge : PySem.W.plainOver K C_Wedge = true)
    (sa_Wedge : PySem.W.findIn K (.ref C_Wedge) "__setattr__" = some (some (.builtin "object.__setattr__")))
    (n_Wedge_pairs : PySem.W.findIn K (.ref C_Wedge) "_pairs" = some none)
    (n_Wedge_bits : PySem.W.findIn K (.ref C_Wedge) "_bits" = some none)
    (ca_Wedge : PySem.W.findIn K (.ref C_Wedge) "__class__" = some (some (.builtin "object.__class__")))
    (cm_Wedge : PySem.W.mroIn K C_Wedge (.type "object") = some true)
    (cn_Wedge : PySem.W.specialIn K (.builtin "object.__class__") "__get__" = some (some (.builtin "getset_descriptor.__get__")))
    (ct_Wedge : PySem.W.takesIn K (.builtin "object.__class__") = some true)
    (aE_PRIMES : PySem.W.nsIn K mainGlobals "PRIMES" = some (some (.ref e_PRIMES)))
    (lE_PRIMES : K.lookup e_PRIMES = some o_PRIMES)
    (vE_PRIMES : TupO o_PRIMES [.int 2, .int 3, .int 5, .int 7, .int 11, .int 13])
    (aE_NO_POWERS : PySem.W.nsIn K mainGlobals "NO_POWERS" = some (some (.ref e_NO_POWERS)))
    (lE_NO_POWERS : K.lookup e_NO_POWERS = some o_NO_POWERS)
    (vE_NO_POWERS : TupO o_NO_POWERS [.int 0, .int 0, .int 0, .int 0, .int 0, .int 0])
    (gb_gcd : PySem.W.nsIn K mainGlobals "gcd" = some (some (.builtin "math.gcd")))
    (gi_MANY : PySem.W.nsIn K mainGlobals "MANY" = some (some (.int 500 t_MANY)))
    (aE_PAIRS : PySem.W.nsIn K mainGlobals "PAIRS" = some (some (.ref e_PAIRS)))
    (lE_PAIRS : K.lookup e_PAIRS = some o_PAIRS)
    (vE_PAIRS : TupO o_PAIRS [V.ref ap0, V.ref ap1, V.ref ap2, V.ref ap3, V.ref ap4, V.ref ap5, V.ref ap6, V.ref ap7, V.ref ap8, V.ref ap9, V.ref ap10, V.ref ap11, V.ref ap12, V.ref ap13, V.ref ap14])
    (lP0 : K.lookup ap0 = some op0)
    (vP0 : TupO op0 [V.int 0, V.int 1])
    (lP1 : K.lookup ap1 = some op1)
    (vP1 : TupO op1 [V.int 0, V.int 2])
    (lP2 : K.lookup ap2 = some op2)
    (vP2 : TupO op2 [V.int 0, V.int 3])
    (lP3 : K.lookup ap3 = some op3)
    (vP3 : TupO op3 [V.int 0, V.int 4])
    (lP4 : K.lookup ap4 = some op4)
    (vP4 : TupO op4 [V.int 0, V.int 5])
    (lP5 : K.lookup ap5 = some op5)
    (vP5 : TupO op5 [V.int 1, V.int 2])
    (lP6 : K.lookup ap6 = some op6)
    (vP6 : TupO op6 [V.int 1, V.int 3])
    (lP7 : K.lookup ap7 = some op7)
    (vP7 : TupO op7 [V.int 1, V.int 4])
    (lP8 : K.lookup ap8 = some op8)
    (vP8 : TupO op8 [V.int 1, V.int 5])
    (lP9 : K.lookup ap9 = some op9)
    (vP9 : TupO op9 [V.int 2, V.int 3])
    (lP10 : K.lookup ap10 = some op10)
    (vP10 : TupO op10 [V.int 2, V.int 4])
    (lP11 : K.lookup ap11 = some op11)
    (vP11 : TupO op11 [V.int 2, V.int 5])
    (lP12 : K.lookup ap12 = some op12)
    (vP12 : TupO op12 [V.int 3, V.int 4])
    (lP13 : K.lookup ap13 = some op13)
    (vP13 : TupO op13 [V.int 3, V.int 5])
    (lP14 : K.lookup ap14 = some op14)
    (vP14 : TupO op14 [V.int 4, V.int 5])
    (ic_C_Ratio : PySem.W.isClsIn K C_Ratio = true)
    (it_C_Ratio : PySem.W.typeIn K (.ref C_Ratio) = some (.type "type"))
    (h_kList : PySem.W.subIn K (.type "list") (.ref C_Ratio) = some false)
    (a1 : PySem.W.nsIn K mainGlobals "is_number" = some (some (.ref f1)))
    (l1 : K.lookup f1 = some ⟨oc1, od1, .func (PySem.W.fnOf "is_number" "is_number" (defArgs s_is_number) (defBody s_is_number) (defScope s_is_number) .none kV1 dc1 pm1 an1 cd1 ct1), sl1⟩)
    (c1 : PySem.W.codeIn K cd1 "is_number" = true)
    (k1 : PySem.W.keepIn K (.ref f1) = true)
    (a2 : PySem.W.nsIn K mainGlobals "is_listed" = some (some (.ref f2)))
    (l2 : K.lookup f2 = some ⟨oc2, od2, .func (PySem.W.fnOf "is_listed" "is_listed" (defArgs s_is_listed) (defBody s_is_listed) (defScope s_is_listed) .none kV2 dc2 pm2 an2 cd2 ct2), sl2⟩)
    (c2 : PySem.W.codeIn K cd2 "is_listed" = true)
    (k2 : PySem.W.keepIn K (.ref f2) = true)
    (a3 : PySem.W.nsIn K mainGlobals "are_numbers" = some (some (.ref f3)))
    (l3 : K.lookup f3 = some ⟨oc3, od3, .func (PySem.W.fnOf "are_numbers" "are_numbers" (defArgs s_are_numbers) (defBody s_are_numbers) (defScope s_are_numbers) .none kV3 dc3 pm3 an3 cd3 ct3), sl3⟩)
    (c3 : PySem.W.codeIn K cd3 "are_numbers" = true)
    (k3 : PySem.W.keepIn K (.ref f3) = true)
    (a4 : PySem.W.nsIn K mainGlobals "are_bits" = some (some (.ref f4)))
    (l4 : K.lookup f4 = some ⟨oc4, od4, .func (PySem.W.fnOf "are_bits" "are_bits" (defArgs s_are_bits) (defBody s_are_bits) (defScope s_are_bits) .none kV4 dc4 pm4 an4 cd4 ct4), sl4⟩)
    (c4 : PySem.W.codeIn K cd4 "are_bits" = true)
    (k4 : PySem.W.keepIn K (.ref f4) = true)
    (a5 : PySem.W.findIn K (.ref C_Ratio) "__init__" = some (some (.ref f5)))
    (i5 : PySem.W.isFn K (.ref f5) = true)
    (l5 : K.lookup f5 = some ⟨oc5, od5, .func (PySem.W.fnOf "__init__" "Ratio.__init__" (defArgs s_Ratio_init) (defBody s_Ratio_init) (defScope s_Ratio_init) (.ref dT5) kV5 dc5 pm5 an5 cd5 ct5), sl5⟩)
    (c5 : PySem.W.codeIn K cd5 "Ratio.__init__" = true)
    (k5 : PySem.W.keepIn K (.ref f5) = true)
    (lT5 : K.lookup dT5 = some oT5)
    (vT5 : ∃ its n, oT5.data = .seq (List.toArray its) n ∧ Vals [V.int 1] its)
    (mk_Ratio : PySem.W.makesIn K C_Ratio = true)
    (kc_Ratio : PySem.W.keepIn K (.ref C_Ratio) = true)
    (a6 : PySem.W.findIn K (.ref C_Ratio) "powers" = some (some (.ref f6)))
    (i6 : PySem.W.isFn K (.ref f6) = true)
    (l6 : K.lookup f6 = some ⟨oc6, od6, .func (PySem.W.fnOf "powers" "Ratio.powers" (defArgs s_Ratio_powers) (defBody s_Ratio_powers) (defScope s_Ratio_powers) .none kV6 dc6 pm6 an6 cd6 ct6), sl6⟩)
    (c6 : PySem.W.codeIn K cd6 "Ratio.powers" = true)
    (k6 : PySem.W.keepIn K (.ref f6) = true)
    (a7 : PySem.W.findIn K (.ref C_Ratio) "power" = some (some (.ref f7)))
    (i7 : PySem.W.isFn K (.ref f7) = true)
    (l7 : K.lookup f7 = some ⟨oc7, od7, .func (PySem.W.fnOf "power" "Ratio.power" (defArgs s_Ratio_power) (defBody s_Ratio_power) (defScope s_Ratio_power) .none kV7 dc7 pm7 an7 cd7 ct7), sl7⟩)
    (c7 : PySem.W.codeIn K cd7 "Ratio.power" = true)
    (k7 : PySem.W.keepIn K (.ref f7) = true)
    (a8 : PySem.W.findIn K (.ref C_Ratio) "__mul__" = some (some (.ref f8)))
    (i8 : PySem.W.isFn K (.ref f8) = true)
    (l8 : K.lookup f8 = some ⟨oc8, od8, .func (PySem.W.fnOf "__mul__" "Ratio.__mul__" (defArgs s_Ratio_mul) (defBody s_Ratio_mul) (defScope s_Ratio_mul) .none kV8 dc8 pm8 an8 cd8 ct8), sl8⟩)
    (c8 : PySem.W.codeIn K cd8 "Ratio.__mul__" = true)
    (k8 : PySem.W.keepIn K (.ref f8) = true)
    (a9 : PySem.W.findIn K (.ref C_Ratio) "__floordiv__" = some (some (.ref f9)))
    (i9 : PySem.W.isFn K (.ref f9) = true)
    (l9 : K.lookup f9 = some ⟨oc9, od9, .func (PySem.W.fnOf "__floordiv__" "Ratio.__floordiv__" (defArgs s_Ratio_floordiv) (defBody s_Ratio_floordiv) (defScope s_Ratio_floordiv) .none kV9 dc9 pm9 an9 cd9 ct9), sl9⟩)
    (c9 : PySem.W.codeIn K cd9 "Ratio.__floordiv__" = true)
    (k9 : PySem.W.keepIn K (.ref f9) = true)
    (a10 : PySem.W.nsIn K mainGlobals "_raised" = some (some (.ref f10)))
    (l10 : K.lookup f10 = some ⟨oc10, od10, .func (PySem.W.fnOf "_raised" "_raised" (defArgs s__raised) (defBody s__raised) (defScope s__raised) .none kV10 dc10 pm10 an10 cd10 ct10), sl10⟩)
    (c10 : PySem.W.codeIn K cd10 "_raised" = true)
    (k10 : PySem.W.keepIn K (.ref f10) = true)
    (a11 : PySem.W.nsIn K mainGlobals "_made_of" = some (some (.ref f11)))
    (l11 : K.lookup f11 = some ⟨oc11, od11, .func (PySem.W.fnOf "_made_of" "_made_of" (defArgs s__made_of) (defBody s__made_of) (defScope s__made_of) .none kV11 dc11 pm11 an11 cd11 ct11), sl11⟩)
    (c11 : PySem.W.codeIn K cd11 "_made_of" = true)
    (k11 : PySem.W.keepIn K (.ref f11) = true)
    (a12 : PySem.W.nsIn K mainGlobals "_fraction_of" = some (some (.ref f12)))
    (l12 : K.lookup f12 = some ⟨oc12, od12, .func (PySem.W.fnOf "_fraction_of" "_fraction_of" (defArgs s__fraction_of) (defBody s__fraction_of) (defScope s__fraction_of) .none kV12 dc12 pm12 an12 cd12 ct12), sl12⟩)
    (c12 : PySem.W.codeIn K cd12 "_fraction_of" = true)
    (k12 : PySem.W.keepIn K (.ref f12) = true)
    (a13 : PySem.W.nsIn K mainGlobals "ratio_with" = some (some (.ref f13)))
    (l13 : K.lookup f13 = some ⟨oc13, od13, .func (PySem.W.fnOf "ratio_with" "ratio_with" (defArgs s_ratio_with) (defBody s_ratio_with) (defScope s_ratio_with) .none kV13 dc13 pm13 an13 cd13 ct13), sl13⟩)
    (c13 : PySem.W.codeIn K cd13 "ratio_with" = true)
    (k13 : PySem.W.keepIn K (.ref f13) = true)
    (a14 : PySem.W.nsIn K mainGlobals "_split" = some (some (.ref f14)))
    (l14 : K.lookup f14 = some ⟨oc14, od14, .func (PySem.W.fnOf "_split" "_split" (defArgs s__split) (defBody s__split) (defScope s__split) .none kV14 dc14 pm14 an14 cd14 ct14), sl14⟩)
    (c14 : PySem.W.codeIn K cd14 "_split" = true)
    (k14 : PySem.W.keepIn K (.ref f14) = true)
    (a15 : PySem.W.nsIn K mainGlobals "_powers_in" = some (some (.ref f15)))
    (l15 : K.lookup f15 = some ⟨oc15, od15, .func (PySem.W.fnOf "_powers_in" "_powers_in" (defArgs s__powers_in) (defBody s__powers_in) (defScope s__powers_in) .none kV15 dc15 pm15 an15 cd15 ct15), sl15⟩)
    (c15 : PySem.W.codeIn K cd15 "_powers_in" = true)
    (k15 : PySem.W.keepIn K (.ref f15) = true)
    (a16 : PySem.W.nsIn K mainGlobals "_powers_of" = some (some (.ref f16)))
    (l16 : K.lookup f16 = some ⟨oc16, od16, .func (PySem.W.fnOf "_powers_of" "_powers_of" (defArgs s__powers_of) (defBody s__powers_of) (defScope s__powers_of) .none kV16 dc16 pm16 an16 cd16 ct16), sl16⟩)
    (c16 : PySem.W.codeIn K cd16 "_powers_of" = true)
    (k16 : PySem.W.keepIn K (.ref f16) = true)
    (a17 : PySem.W.findIn K (.ref C_Wedge) "__init__" = some (some (.ref f17)))
    (i17 : PySem.W.isFn K (.ref f17) = true)
    (l17 : K.lookup f17 = some ⟨oc17, od17, .func (PySem.W.fnOf "__init__" "Wedge.__init__" (defArgs s_Wedge_init) (defBody s_Wedge_init) (defScope s_Wedge_init) (.ref dT17) kV17 dc17 pm17 an17 cd17 ct17), sl17⟩)
    (c17 : PySem.W.codeIn K cd17 "Wedge.__init__" = true)
    (k17 : PySem.W.keepIn K (.ref f17) = true)
    (lT17 : K.lookup dT17 = some oT17)
    (vT17 : ∃ its n, oT17.data = .seq (List.toArray its) n ∧ Vals [V.ref e_bits] its)
    (lE_bits : K.lookup e_bits = some o_bits)
    (vE_bits : TupO o_bits [.int 0, .int 0, .int 0, .int 0, .int 0, .int 0])
    (mk_Wedge : PySem.W.makesIn K C_Wedge = true)
    (kc_Wedge : PySem.W.keepIn K (.ref C_Wedge) = true)
    (a18 : PySem.W.findIn K (.ref C_Wedge) "pairs" = some (some (.ref f18)))
    (i18 : PySem.W.isFn K (.ref f18) = true)
    (l18 : K.lookup f18 = some ⟨oc18, od18, .func (PySem.W.fnOf "pairs" "Wedge.pairs" (defArgs s_Wedge_pairs) (defBody s_Wedge_pairs) (defScope s_Wedge_pairs) .none kV18 dc18 pm18 an18 cd18 ct18), sl18⟩)
    (c18 : PySem.W.codeIn K cd18 "Wedge.pairs" = true)
    (k18 : PySem.W.keepIn K (.ref f18) = true)
    (a19 : PySem.W.findIn K (.ref C_Wedge) "bits" = some (some (.ref f19)))
    (i19 : PySem.W.isFn K (.ref f19) = true)
    (l19 : K.lookup f19 = some ⟨oc19, od19, .func (PySem.W.fnOf "bits" "Wedge.bits" (defArgs s_Wedge_bits) (defBody s_Wedge_bits) (defScope s_Wedge_bits) .none kV19 dc19 pm19 an19 cd19 ct19), sl19⟩)
    (c19 : PySem.W.codeIn K cd19 "Wedge.bits" = true)
    (k19 : PySem.W.keepIn K (.ref f19) = true)
    (a20 : PySem.W.findIn K (.ref C_Wedge) "matrix" = some (some (.ref f20)))
    (i20 : PySem.W.isFn K (.ref f20) = true)
    (l20 : K.lookup f20 = some ⟨oc20, od20, .func (PySem.W.fnOf "matrix" "Wedge.matrix" (defArgs s_Wedge_matrix) (defBody s_Wedge_matrix) (defScope s_Wedge_matrix) .none kV20 dc20 pm20 an20 cd20 ct20), sl20⟩)
    (c20 : PySem.W.codeIn K cd20 "Wedge.matrix" = true)
    (k20 : PySem.W.keepIn K (.ref f20) = true)
    (a21 : PySem.W.findIn K (.ref C_Wedge) "flat" = some (some (.ref p21)))
    (pg21 : PySem.W.specialIn K (.ref p21) "__get__" = some (some (.builtin "property.__get__")))
    (pt21 : PySem.W.takesIn K (.ref p21) = some true)
    (i21 : PySem.W.recIn K p21 "property" = some (.ref f21 :: rs21))
    (l21 : K.lookup f21 = some ⟨oc21, od21, .func (PySem.W.fnOf "flat" "Wedge.flat" (defArgs s_Wedge_flat) (defBody s_Wedge_flat) (defScope s_Wedge_flat) .none kV21 dc21 pm21 an21 cd21 ct21), sl21⟩)
    (c21 : PySem.W.codeIn K cd21 "Wedge.flat" = true)
    (k21 : PySem.W.keepIn K (.ref f21) = true)
    (a22 : PySem.W.findIn K (.ref C_Wedge) "rank" = some (some (.ref p22)))
    (pg22 : PySem.W.specialIn K (.ref p22) "__get__" = some (some (.builtin "property.__get__")))
    (pt22 : PySem.W.takesIn K (.ref p22) = some true)
    (i22 : PySem.W.recIn K p22 "property" = some (.ref f22 :: rs22))
    (l22 : K.lookup f22 = some ⟨oc22, od22, .func (PySem.W.fnOf "rank" "Wedge.rank" (defArgs s_Wedge_rank) (defBody s_Wedge_rank) (defScope s_Wedge_rank) .none kV22 dc22 pm22 an22 cd22 ct22), sl22⟩)
    (c22 : PySem.W.codeIn K cd22 "Wedge.rank" = true)
    (k22 : PySem.W.keepIn K (.ref f22) = true)
    (a23 : PySem.W.findIn K (.ref C_Wedge) "owed" = some (some (.ref p23)))
    (pg23 : PySem.W.specialIn K (.ref p23) "__get__" = some (some (.builtin "property.__get__")))
    (pt23 : PySem.W.takesIn K (.ref p23) = some true)
    (i23 : PySem.W.recIn K p23 "property" = some (.ref f23 :: rs23))
    (l23 : K.lookup f23 = some ⟨oc23, od23, .func (PySem.W.fnOf "owed" "Wedge.owed" (defArgs s_Wedge_owed) (defBody s_Wedge_owed) (defScope s_Wedge_owed) .none kV23 dc23 pm23 an23 cd23 ct23), sl23⟩)
    (c23 : PySem.W.codeIn K cd23 "Wedge.owed" = true)
    (k23 : PySem.W.keepIn K (.ref f23) = true)
    (a24 : PySem.W.findIn K (.ref C_Wedge) "__add__" = some (some (.ref f24)))
    (i24 : PySem.W.isFn K (.ref f24) = true)
    (l24 : K.lookup f24 = some ⟨oc24, od24, .func (PySem.W.fnOf "__add__" "Wedge.__add__" (defArgs s_Wedge_add) (defBody s_Wedge_add) (defScope s_Wedge_add) .none kV24 dc24 pm24 an24 cd24 ct24), sl24⟩)
    (c24 : PySem.W.codeIn K cd24 "Wedge.__add__" = true)
    (k24 : PySem.W.keepIn K (.ref f24) = true)
    (a25 : PySem.W.findIn K (.ref C_Wedge) "__sub__" = some (some (.ref f25)))
    (i25 : PySem.W.isFn K (.ref f25) = true)
    (l25 : K.lookup f25 = some ⟨oc25, od25, .func (PySem.W.fnOf "__sub__" "Wedge.__sub__" (defArgs s_Wedge_sub) (defBody s_Wedge_sub) (defScope s_Wedge_sub) .none kV25 dc25 pm25 an25 cd25 ct25), sl25⟩)
    (c25 : PySem.W.codeIn K cd25 "Wedge.__sub__" = true)
    (k25 : PySem.W.keepIn K (.ref f25) = true)
    (a26 : PySem.W.findIn K (.ref C_Wedge) "__neg__" = some (some (.ref f26)))
    (i26 : PySem.W.isFn K (.ref f26) = true)
    (l26 : K.lookup f26 = some ⟨oc26, od26, .func (PySem.W.fnOf "__neg__" "Wedge.__neg__" (defArgs s_Wedge_neg) (defBody s_Wedge_neg) (defScope s_Wedge_neg) .none kV26 dc26 pm26 an26 cd26 ct26), sl26⟩)
    (c26 : PySem.W.codeIn K cd26 "Wedge.__neg__" = true)
    (k26 : PySem.W.keepIn K (.ref f26) = true)
    (a27 : PySem.W.findIn K (.ref C_Wedge) "__mul__" = some (some (.ref f27)))
    (i27 : PySem.W.isFn K (.ref f27) = true)
    (l27 : K.lookup f27 = some ⟨oc27, od27, .func (PySem.W.fnOf "__mul__" "Wedge.__mul__" (defArgs s_Wedge_mul) (defBody s_Wedge_mul) (defScope s_Wedge_mul) .none kV27 dc27 pm27 an27 cd27 ct27), sl27⟩)
    (c27 : PySem.W.codeIn K cd27 "Wedge.__mul__" = true)
    (k27 : PySem.W.keepIn K (.ref f27) = true)
    (a28 : PySem.W.findIn K (.ref C_Wedge) "__rmul__" = some (some (.ref f28)))
    (i28 : PySem.W.isFn K (.ref f28) = true)
    (l28 : K.lookup f28 = some ⟨oc28, od28, .func (PySem.W.fnOf "__rmul__" "Wedge.__rmul__" (defArgs s_Wedge_rmul) (defBody s_Wedge_rmul) (defScope s_Wedge_rmul) .none kV28 dc28 pm28 an28 cd28 ct28), sl28⟩)
    (c28 : PySem.W.codeIn K cd28 "Wedge.__rmul__" = true)
    (k28 : PySem.W.keepIn K (.ref f28) = true)
    (a29 : PySem.W.findIn K (.ref C_Wedge) "__eq__" = some (some (.ref f29)))
    (i29 : PySem.W.isFn K (.ref f29) = true)
    (l29 : K.lookup f29 = some ⟨oc29, od29, .func (PySem.W.fnOf "__eq__" "Wedge.__eq__" (defArgs s_Wedge_eq) (defBody s_Wedge_eq) (defScope s_Wedge_eq) .none kV29 dc29 pm29 an29 cd29 ct29), sl29⟩)
    (c29 : PySem.W.codeIn K cd29 "Wedge.__eq__" = true)
    (k29 : PySem.W.keepIn K (.ref f29) = true)
    (a30 : PySem.W.nsIn K mainGlobals "wedge_of_products" = some (some (.ref f30)))
    (l30 : K.lookup f30 = some ⟨oc30, od30, .func (PySem.W.fnOf "wedge_of_products" "wedge_of_products" (defArgs s_wedge_of_products) (defBody s_wedge_of_products) (defScope s_wedge_of_products) .none kV30 dc30 pm30 an30 cd30 ct30), sl30⟩)
    (c30 : PySem.W.codeIn K cd30 "wedge_of_products" = true)
    (k30 : PySem.W.keepIn K (.ref f30) = true)
    (a31 : PySem.W.nsIn K mainGlobals "wedge_of" = some (some (.ref f31)))
    (l31 : K.lookup f31 = some ⟨oc31, od31, .func (PySem.W.fnOf "wedge_of" "wedge_of" (defArgs s_wedge_of) (defBody s_wedge_of) (defScope s_wedge_of) .none kV31 dc31 pm31 an31 cd31 ct31), sl31⟩)
    (c31 : PySem.W.codeIn K cd31 "wedge_of" = true)
    (k31 : PySem.W.keepIn K (.ref f31) = true)
    (a32 : PySem.W.nsIn K mainGlobals "nothing" = some (some (.ref f32)))
    (l32 : K.lookup f32 = some ⟨oc32, od32, .func (PySem.W.fnOf "nothing" "nothing" (defArgs s_nothing) (defBody s_nothing) (defScope s_nothing) .none kV32 dc32 pm32 an32 cd32 ct32), sl32⟩)
    (c32 : PySem.W.codeIn K cd32 "nothing" = true)
    (k32 : PySem.W.keepIn K (.ref f32) = true)
    (a33 : PySem.W.nsIn K mainGlobals "_filled_from" = some (some (.ref f33)))
    (l33 : K.lookup f33 = some ⟨oc33, od33, .func (PySem.W.fnOf "_filled_from" "_filled_from" (defArgs s__filled_from) (defBody s__filled_from) (defScope s__filled_from) .none kV33 dc33 pm33 an33 cd33 ct33), sl33⟩)
    (c33 : PySem.W.codeIn K cd33 "_filled_from" = true)
    (k33 : PySem.W.keepIn K (.ref f33) = true)
    (a34 : PySem.W.nsIn K mainGlobals "_cleared" = some (some (.ref f34)))
    (l34 : K.lookup f34 = some ⟨oc34, od34, .func (PySem.W.fnOf "_cleared" "_cleared" (defArgs s__cleared) (defBody s__cleared) (defScope s__cleared) .none kV34 dc34 pm34 an34 cd34 ct34), sl34⟩)
    (c34 : PySem.W.codeIn K cd34 "_cleared" = true)
    (k34 : PySem.W.keepIn K (.ref f34) = true)
    (a35 : PySem.W.nsIn K mainGlobals "rank_of" = some (some (.ref f35)))
    (l35 : K.lookup f35 = some ⟨oc35, od35, .func (PySem.W.fnOf "rank_of" "rank_of" (defArgs s_rank_of) (defBody s_rank_of) (defScope s_rank_of) .none kV35 dc35 pm35 an35 cd35 ct35), sl35⟩)
    (c35 : PySem.W.codeIn K cd35 "rank_of" = true)
    (k35 : PySem.W.keepIn K (.ref f35) = true)
    (a36 : PySem.W.nsIn K mainGlobals "_law_bag" = some (some (.ref f36)))
    (l36 : K.lookup f36 = some ⟨oc36, od36, .func (PySem.W.fnOf "_law_bag" "_law_bag" (defArgs s_l_bag) (defBody s_l_bag) (defScope s_l_bag) .none kV36 dc36 pm36 an36 cd36 ct36), sl36⟩)
    (c36 : PySem.W.codeIn K cd36 "_law_bag" = true)
    (k36 : PySem.W.keepIn K (.ref f36) = true)
    (a37 : PySem.W.nsIn K mainGlobals "_law_draw" = some (some (.ref f37)))
    (l37 : K.lookup f37 = some ⟨oc37, od37, .func (PySem.W.fnOf "_law_draw" "_law_draw" (defArgs s_l_draw) (defBody s_l_draw) (defScope s_l_draw) .none kV37 dc37 pm37 an37 cd37 ct37), sl37⟩)
    (c37 : PySem.W.codeIn K cd37 "_law_draw" = true)
    (k37 : PySem.W.keepIn K (.ref f37) = true)
    (a38 : PySem.W.nsIn K mainGlobals "_law_of" = some (some (.ref f38)))
    (l38 : K.lookup f38 = some ⟨oc38, od38, .func (PySem.W.fnOf "_law_of" "_law_of" (defArgs s_l_of) (defBody s_l_of) (defScope s_l_of) .none kV38 dc38 pm38 an38 cd38 ct38), sl38⟩)
    (c38 : PySem.W.codeIn K cd38 "_law_of" = true)
    (k38 : PySem.W.keepIn K (.ref f38) = true)
    (a39 : PySem.W.nsIn K mainGlobals "_law_same" = some (some (.ref f39)))
    (l39 : K.lookup f39 = some ⟨oc39, od39, .func (PySem.W.fnOf "_law_same" "_law_same" (defArgs s_l_same) (defBody s_l_same) (defScope s_l_same) .none kV39 dc39 pm39 an39 cd39 ct39), sl39⟩)
    (c39 : PySem.W.codeIn K cd39 "_law_same" = true)
    (k39 : PySem.W.keepIn K (.ref f39) = true)
    (a40 : PySem.W.nsIn K mainGlobals "_law_primes" = some (some (.ref f40)))
    (l40 : K.lookup f40 = some ⟨oc40, od40, .func (PySem.W.fnOf "_law_primes" "_law_primes" (defArgs s_l_primes) (defBody s_l_primes) (defScope s_l_primes) .none kV40 dc40 pm40 an40 cd40 ct40), sl40⟩)
    (c40 : PySem.W.codeIn K cd40 "_law_primes" = true)
    (k40 : PySem.W.keepIn K (.ref f40) = true)
    (a41 : PySem.W.nsIn K mainGlobals "_law_twos" = some (some (.ref f41)))
    (l41 : K.lookup f41 = some ⟨oc41, od41, .func (PySem.W.fnOf "_law_twos" "_law_twos" (defArgs s_l_twos) (defBody s_l_twos) (defScope s_l_twos) .none kV41 dc41 pm41 an41 cd41 ct41), sl41⟩)
    (c41 : PySem.W.codeIn K cd41 "_law_twos" = true)
    (k41 : PySem.W.keepIn K (.ref f41) = true)
    (a42 : PySem.W.nsIn K mainGlobals "_law_gcd" = some (some (.ref f42)))
    (l42 : K.lookup f42 = some ⟨oc42, od42, .func (PySem.W.fnOf "_law_gcd" "_law_gcd" (defArgs s_l_gcd) (defBody s_l_gcd) (defScope s_l_gcd) .none kV42 dc42 pm42 an42 cd42 ct42), sl42⟩)
    (c42 : PySem.W.codeIn K cd42 "_law_gcd" = true)
    (k42 : PySem.W.keepIn K (.ref f42) = true)
    (a43 : PySem.W.nsIn K mainGlobals "_law_low" = some (some (.ref f43)))
    (l43 : K.lookup f43 = some ⟨oc43, od43, .func (PySem.W.fnOf "_law_low" "_law_low" (defArgs s_l_low) (defBody s_l_low) (defScope s_l_low) .none kV43 dc43 pm43 an43 cd43 ct43), sl43⟩)
    (c43 : PySem.W.codeIn K cd43 "_law_low" = true)
    (k43 : PySem.W.keepIn K (.ref f43) = true)
    (a44 : PySem.W.nsIn K mainGlobals "_law_mul" = some (some (.ref f44)))
    (l44 : K.lookup f44 = some ⟨oc44, od44, .func (PySem.W.fnOf "_law_mul" "_law_mul" (defArgs s_l_mul) (defBody s_l_mul) (defScope s_l_mul) .none kV44 dc44 pm44 an44 cd44 ct44), sl44⟩)
    (c44 : PySem.W.codeIn K cd44 "_law_mul" = true)
    (k44 : PySem.W.keepIn K (.ref f44) = true)
    (a45 : PySem.W.nsIn K mainGlobals "_law_quo" = some (some (.ref f45)))
    (l45 : K.lookup f45 = some ⟨oc45, od45, .func (PySem.W.fnOf "_law_quo" "_law_quo" (defArgs s_l_quo) (defBody s_l_quo) (defScope s_l_quo) .none kV45 dc45 pm45 an45 cd45 ct45), sl45⟩)
    (c45 : PySem.W.codeIn K cd45 "_law_quo" = true)
    (k45 : PySem.W.keepIn K (.ref f45) = true)
    (a46 : PySem.W.nsIn K mainGlobals "_law_raised" = some (some (.ref f46)))
    (l46 : K.lookup f46 = some ⟨oc46, od46, .func (PySem.W.fnOf "_law_raised" "_law_raised" (defArgs s_l_raised) (defBody s_l_raised) (defScope s_l_raised) .none kV46 dc46 pm46 an46 cd46 ct46), sl46⟩)
    (c46 : PySem.W.codeIn K cd46 "_law_raised" = true)
    (k46 : PySem.W.keepIn K (.ref f46) = true)
    (a47 : PySem.W.nsIn K mainGlobals "_law_count" = some (some (.ref f47)))
    (l47 : K.lookup f47 = some ⟨oc47, od47, .func (PySem.W.fnOf "_law_count" "_law_count" (defArgs s_l_count) (defBody s_l_count) (defScope s_l_count) .none kV47 dc47 pm47 an47 cd47 ct47), sl47⟩)
    (c47 : PySem.W.codeIn K cd47 "_law_count" = true)
    (k47 : PySem.W.keepIn K (.ref f47) = true)
    (a48 : PySem.W.nsIn K mainGlobals "_law_exponents" = some (some (.ref f48)))
    (l48 : K.lookup f48 = some ⟨oc48, od48, .func (PySem.W.fnOf "_law_exponents" "_law_exponents" (defArgs s_l_exponents) (defBody s_l_exponents) (defScope s_l_exponents) .none kV48 dc48 pm48 an48 cd48 ct48), sl48⟩)
    (c48 : PySem.W.codeIn K cd48 "_law_exponents" = true)
    (k48 : PySem.W.keepIn K (.ref f48) = true)
    (a49 : PySem.W.nsIn K mainGlobals "_law_bits" = some (some (.ref f49)))
    (l49 : K.lookup f49 = some ⟨oc49, od49, .func (PySem.W.fnOf "_law_bits" "_law_bits" (defArgs s_l_bits) (defBody s_l_bits) (defScope s_l_bits) .none kV49 dc49 pm49 an49 cd49 ct49), sl49⟩)
    (c49 : PySem.W.codeIn K cd49 "_law_bits" = true)
    (k49 : PySem.W.keepIn K (.ref f49) = true)
    (a50 : PySem.W.nsIn K mainGlobals "_law_built" = some (some (.ref f50)))
    (l50 : K.lookup f50 = some ⟨oc50, od50, .func (PySem.W.fnOf "_law_built" "_law_built" (defArgs s_l_built) (defBody s_l_built) (defScope s_l_built) .none kV50 dc50 pm50 an50 cd50 ct50), sl50⟩)
    (c50 : PySem.W.codeIn K cd50 "_law_built" = true)
    (k50 : PySem.W.keepIn K (.ref f50) = true)
    (a51 : PySem.W.nsIn K mainGlobals "_law_step" = some (some (.ref f51)))
    (l51 : K.lookup f51 = some ⟨oc51, od51, .func (PySem.W.fnOf "_law_step" "_law_step" (defArgs s_l_step) (defBody s_l_step) (defScope s_l_step) .none kV51 dc51 pm51 an51 cd51 ct51), sl51⟩)
    (c51 : PySem.W.codeIn K cd51 "_law_step" = true)
    (k51 : PySem.W.keepIn K (.ref f51) = true)
    (a52 : PySem.W.nsIn K mainGlobals "_law_length" = some (some (.ref f52)))
    (l52 : K.lookup f52 = some ⟨oc52, od52, .func (PySem.W.fnOf "_law_length" "_law_length" (defArgs s_l_length) (defBody s_l_length) (defScope s_l_length) .none kV52 dc52 pm52 an52 cd52 ct52), sl52⟩)
    (c52 : PySem.W.codeIn K cd52 "_law_length" = true)
    (k52 : PySem.W.keepIn K (.ref f52) = true)
    (a53 : PySem.W.nsIn K mainGlobals "_law_ratio" = some (some (.ref f53)))
    (l53 : K.lookup f53 = some ⟨oc53, od53, .func (PySem.W.fnOf "_law_ratio" "_law_ratio" (defArgs s_l_ratio) (defBody s_l_ratio) (defScope s_l_ratio) .none kV53 dc53 pm53 an53 cd53 ct53), sl53⟩)
    (c53 : PySem.W.codeIn K cd53 "_law_ratio" = true)
    (k53 : PySem.W.keepIn K (.ref f53) = true)
    (a54 : PySem.W.nsIn K mainGlobals "_law_is" = some (some (.ref f54)))
    (l54 : K.lookup f54 = some ⟨oc54, od54, .func (PySem.W.fnOf "_law_is" "_law_is" (defArgs s_l_is) (defBody s_l_is) (defScope s_l_is) .none kV54 dc54 pm54 an54 cd54 ct54), sl54⟩)
    (c54 : PySem.W.codeIn K cd54 "_law_is" = true)
    (k54 : PySem.W.keepIn K (.ref f54) = true)
    (a55 : PySem.W.nsIn K mainGlobals "_law_seen" = some (some (.ref f55)))
    (l55 : K.lookup f55 = some ⟨oc55, od55, .func (PySem.W.fnOf "_law_seen" "_law_seen" (defArgs s_l_seen) (defBody s_l_seen) (defScope s_l_seen) .none kV55 dc55 pm55 an55 cd55 ct55), sl55⟩)
    (c55 : PySem.W.codeIn K cd55 "_law_seen" = true)
    (k55 : PySem.W.keepIn K (.ref f55) = true)
    (a56 : PySem.W.nsIn K mainGlobals "_law_two" = some (some (.ref f56)))
    (l56 : K.lookup f56 = some ⟨oc56, od56, .func (PySem.W.fnOf "_law_two" "_law_two" (defArgs s_l_two) (defBody s_l_two) (defScope s_l_two) .none kV56 dc56 pm56 an56 cd56 ct56), sl56⟩)
    (c56 : PySem.W.codeIn K cd56 "_law_two" = true)
    (k56 : PySem.W.keepIn K (.ref f56) = true)
    (a57 : PySem.W.nsIn K mainGlobals "_law_added" = some (some (.ref f57)))
    (l57 : K.lookup f57 = some ⟨oc57, od57, .func (PySem.W.fnOf "_law_added" "_law_added" (defArgs s_l_added) (defBody s_l_added) (defScope s_l_added) .none kV57 dc57 pm57 an57 cd57 ct57), sl57⟩)
    (c57 : PySem.W.codeIn K cd57 "_law_added" = true)
    (k57 : PySem.W.keepIn K (.ref f57) = true)
    (a58 : PySem.W.nsIn K mainGlobals "_law_none" = some (some (.ref f58)))
    (l58 : K.lookup f58 = some ⟨oc58, od58, .func (PySem.W.fnOf "_law_none" "_law_none" (defArgs s_l_none) (defBody s_l_none) (defScope s_l_none) .none kV58 dc58 pm58 an58 cd58 ct58), sl58⟩)
    (c58 : PySem.W.codeIn K cd58 "_law_none" = true)
    (k58 : PySem.W.keepIn K (.ref f58) = true)
    (a59 : PySem.W.nsIn K mainGlobals "_law_wedge_seen" = some (some (.ref f59)))
    (l59 : K.lookup f59 = some ⟨oc59, od59, .func (PySem.W.fnOf "_law_wedge_seen" "_law_wedge_seen" (defArgs s_l_wedge_seen) (defBody s_l_wedge_seen) (defScope s_l_wedge_seen) .none kV59 dc59 pm59 an59 cd59 ct59), sl59⟩)
    (c59 : PySem.W.codeIn K cd59 "_law_wedge_seen" = true)
    (k59 : PySem.W.keepIn K (.ref f59) = true)
    (a60 : PySem.W.nsIn K mainGlobals "_law_wedge_due" = some (some (.ref f60)))
    (l60 : K.lookup f60 = some ⟨oc60, od60, .func (PySem.W.fnOf "_law_wedge_due" "_law_wedge_due" (defArgs s_l_wedge_due) (defBody s_l_wedge_due) (defScope s_l_wedge_due) .none kV60 dc60 pm60 an60 cd60 ct60), sl60⟩)
    (c60 : PySem.W.codeIn K cd60 "_law_wedge_due" = true)
    (k60 : PySem.W.keepIn K (.ref f60) = true)
    (a61 : PySem.W.nsIn K mainGlobals "_law_ratio_drawn" = some (some (.ref f61)))
    (l61 : K.lookup f61 = some ⟨oc61, od61, .func (PySem.W.fnOf "_law_ratio_drawn" "_law_ratio_drawn" (defArgs s_l_ratio_drawn) (defBody s_l_ratio_drawn) (defScope s_l_ratio_drawn) .none kV61 dc61 pm61 an61 cd61 ct61), sl61⟩)
    (c61 : PySem.W.codeIn K cd61 "_law_ratio_drawn" = true)
    (k61 : PySem.W.keepIn K (.ref f61) = true)
    (a62 : PySem.W.nsIn K mainGlobals "_law_all_so" = some (some (.ref f62)))
    (l62 : K.lookup f62 = some ⟨oc62, od62, .func (PySem.W.fnOf "_law_all_so" "_law_all_so" (defArgs s_l_all_so) (defBody s_l_all_so) (defScope s_l_all_so) .none kV62 dc62 pm62 an62 cd62 ct62), sl62⟩)
    (c62 : PySem.W.codeIn K cd62 "_law_all_so" = true)
    (k62 : PySem.W.keepIn K (.ref f62) = true)
    (a63 : PySem.W.nsIn K mainGlobals "law" = some (some (.ref f63)))
    (l63 : K.lookup f63 = some ⟨oc63, od63, .func (PySem.W.fnOf "law" "law" (defArgs s_law) (defBody s_law) (defScope s_law) .none kV63 dc63 pm63 an63 cd63 ct63), sl63⟩)
    (c63 : PySem.W.codeIn K cd63 "law" = true)
    (k63 : PySem.W.keepIn K (.ref f63) = true)
    (h_sfR : PySem.W.selfFirst K C_Ratio = true)
    (h_sfW : PySem.W.selfFirst K C_Wedge = true)
    (h_sI : PySem.W.subIn K (.type "int") (.ref C_Wedge) = some false)
    (h_sC : PySem.W.subIn K (.ref C_Wedge) (.type "int") = some false)
    (h_iM : PySem.W.findIn K (.type "int") ("__mul__" : Str) = some x_iM)
    (h_iR : PySem.W.findIn K (.type "int") ("__rmul__" : Str) = some x_iR)
    : ∃ fd : FuncData, (∀ (s : Shared) (v : Value), BindsTo s fd ⟨[v], []⟩ [("_law_script", v)]) ∧ ∀ base : Heap, K.In base → base.Ns mainGlobals mg → FnOk P w K mg base CX0 8 fa fd ["_law_script"] (spLaw K) := by
  have e := hfa.symm.trans (PySem.W.mg_of X G a63)
  cases e
  have F1 := fun_mk (st := s_is_number) l1 c1 k1
  have b1 := F1.binds (ps := ["value"]) fun _ _ _ _ _ _ us hl => match us, hl with | [_], _ => rfl
  have F2 := fun_mk (st := s_is_listed) l2 c2 k2
  have b2 := F2.binds (ps := ["value"]) fun _ _ _ _ _ _ us hl => match us, hl with | [_], _ => rfl
  have F3 := fun_mk (st := s_are_numbers) l3 c3 k3
  have b3 := F3.binds (ps := ["value", "many"]) fun _ _ _ _ _ _ us hl => match us, hl with | [_, _], _ => rfl
  have F4 := fun_mk (st := s_are_bits) l4 c4 k4
  have b4 := F4.binds (ps := ["value", "many"]) fun _ _ _ _ _ _ us hl => match us, hl with | [_, _], _ => rfl
  have F5 : FunD K "__init__" "Ratio.__init__" (defArgs s_Ratio_init) (defBody s_Ratio_init) (defScope s_Ratio_init) [V.int 1] [] f5 (PySem.W.fnOf "__init__" "Ratio.__init__" (defArgs s_Ratio_init) (defBody s_Ratio_init) (defScope s_Ratio_init) (.ref dT5) kV5 dc5 pm5 an5 cd5 ct5) := by
    obtain ⟨its, n, e1, e2⟩ := vT5
    exact ⟨⟨_, _, _, _, _, _, _, _, _, _, rfl, l5, c5, .inr ⟨by simp, dT5, _, its, n, rfl, lT5, e1, e2⟩, .inl rfl⟩, k5⟩
  obtain ⟨ds0_5, v0_5, b5⟩ := F5.binds1 (ps := ["self", "over", "under"]) 3 1 (by simp) rfl fun _ _ _ _ _ _ _ us its hu hi => match us, its, hu, hi with | [_, _, _], [_], _, _ => ⟨_, rfl, rfl⟩
  cases v0_5
  obtain ⟨ds1_5, v1_5, bb5⟩ := F5.binds1 (ps := ["self", "over", "under"]) 2 0 (by simp) rfl fun _ _ _ _ _ _ _ us its hu hi => match us, its, hu, hi with | [_, _], [_], _, _ => ⟨_, rfl, rfl⟩
  have F6 := fun_mk (st := s_Ratio_powers) l6 c6 k6
  have b6 := F6.binds (ps := ["self"]) fun _ _ _ _ _ _ us hl => match us, hl with | [_], _ => rfl
  have F7 := fun_mk (st := s_Ratio_power) l7 c7 k7
  have b7 := F7.binds (ps := ["self", "k"]) fun _ _ _ _ _ _ us hl => match us, hl with | [_, _], _ => rfl
  have F8 := fun_mk (st := s_Ratio_mul) l8 c8 k8
  have b8 := F8.binds (ps := ["self", "other"]) fun _ _ _ _ _ _ us hl => match us, hl with | [_, _], _ => rfl
  have F9 := fun_mk (st := s_Ratio_floordiv) l9 c9 k9
  have b9 := F9.binds (ps := ["self", "other"]) fun _ _ _ _ _ _ us hl => match us, hl with | [_, _], _ => rfl
  have F10 := fun_mk (st := s__raised) l10 c10 k10
  have b10 := F10.binds (ps := ["base", "exponent"]) fun _ _ _ _ _ _ us hl => match us, hl with | [_, _], _ => rfl
  have F11 := fun_mk (st := s__made_of) l11 c11 k11
  have b11 := F11.binds (ps := ["powers"]) fun _ _ _ _ _ _ us hl => match us, hl with | [_], _ => rfl
  have F12 := fun_mk (st := s__fraction_of) l12 c12 k12
  have b12 := F12.binds (ps := ["powers"]) fun _ _ _ _ _ _ us hl => match us, hl with | [_], _ => rfl
  have F13 := fun_mk (st := s_ratio_with) l13 c13 k13
  have b13 := F13.binds (ps := ["powers"]) fun _ _ _ _ _ _ us hl => match us, hl with | [_], _ => rfl
  have F14 := fun_mk (st := s__split) l14 c14 k14
  have b14 := F14.binds (ps := ["number", "divisor"]) fun _ _ _ _ _ _ us hl => match us, hl with | [_, _], _ => rfl
  have F15 := fun_mk (st := s__powers_in) l15 c15 k15
  have b15 := F15.binds (ps := ["number"]) fun _ _ _ _ _ _ us hl => match us, hl with | [_], _ => rfl
  have F16 := fun_mk (st := s__powers_of) l16 c16 k16
  have b16 := F16.binds (ps := ["over", "under"]) fun _ _ _ _ _ _ us hl => match us, hl with | [_, _], _ => rfl
  have F17 : FunD K "__init__" "Wedge.__init__" (defArgs s_Wedge_init) (defBody s_Wedge_init) (defScope s_Wedge_init) [V.ref e_bits] [] f17 (PySem.W.fnOf "__init__" "Wedge.__init__" (defArgs s_Wedge_init) (defBody s_Wedge_init) (defScope s_Wedge_init) (.ref dT17) kV17 dc17 pm17 an17 cd17 ct17) := by
    obtain ⟨its, n, e1, e2⟩ := vT17
    exact ⟨⟨_, _, _, _, _, _, _, _, _, _, rfl, l17, c17, .inr ⟨by simp, dT17, _, its, n, rfl, lT17, e1, e2⟩, .inl rfl⟩, k17⟩
  obtain ⟨ds0_17, v0_17, b17⟩ := F17.binds1 (ps := ["self", "pairs", "bits"]) 3 1 (by simp) rfl fun _ _ _ _ _ _ _ us its hu hi => match us, its, hu, hi with | [_, _, _], [_], _, _ => ⟨_, rfl, rfl⟩
  cases v0_17
  obtain ⟨ds1_17, v1_17, bb17⟩ := F17.binds1 (ps := ["self", "pairs", "bits"]) 2 0 (by simp) rfl fun _ _ _ _ _ _ _ us its hu hi => match us, its, hu, hi with | [_, _], [_], _, _ => ⟨_, rfl, rfl⟩
  have F18 := fun_mk (st := s_Wedge_pairs) l18 c18 k18
  have b18 := F18.binds (ps := ["self"]) fun _ _ _ _ _ _ us hl => match us, hl with | [_], _ => rfl
  have F19 := fun_mk (st := s_Wedge_bits) l19 c19 k19
  have b19 := F19.binds (ps := ["self"]) fun _ _ _ _ _ _ us hl => match us, hl with | [_], _ => rfl
  have F20 := fun_mk (st := s_Wedge_matrix) l20 c20 k20
  have b20 := F20.binds (ps := ["self"]) fun _ _ _ _ _ _ us hl => match us, hl with | [_], _ => rfl
  have F21 := fun_mk (st := s_Wedge_flat) l21 c21 k21
  have b21 := F21.binds (ps := ["self"]) fun _ _ _ _ _ _ us hl => match us, hl with | [_], _ => rfl
  have F22 := fun_mk (st := s_Wedge_rank) l22 c22 k22
  have b22 := F22.binds (ps := ["self"]) fun _ _ _ _ _ _ us hl => match us, hl with | [_], _ => rfl
  have F23 := fun_mk (st := s_Wedge_owed) l23 c23 k23
  have b23 := F23.binds (ps := ["self"]) fun _ _ _ _ _ _ us hl => match us, hl with | [_], _ => rfl
  have F24 := fun_mk (st := s_Wedge_add) l24 c24 k24
  have b24 := F24.binds (ps := ["self", "other"]) fun _ _ _ _ _ _ us hl => match us, hl with | [_, _], _ => rfl
  have F25 := fun_mk (st := s_Wedge_sub) l25 c25 k25
  have b25 := F25.binds (ps := ["self", "other"]) fun _ _ _ _ _ _ us hl => match us, hl with | [_, _], _ => rfl
  have F26 := fun_mk (st := s_Wedge_neg) l26 c26 k26
  have b26 := F26.binds (ps := ["self"]) fun _ _ _ _ _ _ us hl => match us, hl with | [_], _ => rfl
  have F27 := fun_mk (st := s_Wedge_mul) l27 c27 k27
  have b27 := F27.binds (ps := ["self", "k"]) fun _ _ _ _ _ _ us hl => match us, hl with | [_, _], _ => rfl
  have F28 := fun_mk (st := s_Wedge_rmul) l28 c28 k28
  have b28 := F28.binds (ps := ["self", "k"]) fun _ _ _ _ _ _ us hl => match us, hl with | [_, _], _ => rfl
  have F29 := fun_mk (st := s_Wedge_eq) l29 c29 k29
  have b29 := F29.binds (ps := ["self", "other"]) fun _ _ _ _ _ _ us hl => match us, hl with | [_, _], _ => rfl
  have F30 := fun_mk (st := s_wedge_of_products) l30 c30 k30
  have b30 := F30.binds (ps := ["matrix"]) fun _ _ _ _ _ _ us hl => match us, hl with | [_], _ => rfl
  have F31 := fun_mk (st := s_wedge_of) l31 c31 k31
  have b31 := F31.binds (ps := ["u", "v"]) fun _ _ _ _ _ _ us hl => match us, hl with | [_, _], _ => rfl
  have F32 := fun_mk (st := s_nothing) l32 c32 k32
  have b32 := F32.binds (ps := []) fun _ _ _ _ _ _ us hl => match us, hl with | [], _ => rfl
  have F33 := fun_mk (st := s__filled_from) l33 c33 k33
  have b33 := F33.binds (ps := ["rows", "first", "column"]) fun _ _ _ _ _ _ us hl => match us, hl with | [_, _, _], _ => rfl
  have F34 := fun_mk (st := s__cleared) l34 c34 k34
  have b34 := F34.binds (ps := ["matrix"]) fun _ _ _ _ _ _ us hl => match us, hl with | [_], _ => rfl
  have F35 := fun_mk (st := s_rank_of) l35 c35 k35
  have b35 := F35.binds (ps := ["matrix"]) fun _ _ _ _ _ _ us hl => match us, hl with | [_], _ => rfl
  have F36 := fun_mk (st := s_l_bag) l36 c36 k36
  have b36 := F36.binds (ps := ["_law_script"]) fun _ _ _ _ _ _ us hl => match us, hl with | [_], _ => rfl
  have F37 := fun_mk (st := s_l_draw) l37 c37 k37
  have b37 := F37.binds (ps := ["_law_bag_here", "_law_sides"]) fun _ _ _ _ _ _ us hl => match us, hl with | [_, _], _ => rfl
  have F38 := fun_mk (st := s_l_of) l38 c38 k38
  have b38 := F38.binds (ps := ["_law_bag_here", "_law_things"]) fun _ _ _ _ _ _ us hl => match us, hl with | [_, _], _ => rfl
  have F39 := fun_mk (st := s_l_same) l39 c39 k39
  have b39 := F39.binds (ps := ["_law_found", "_law_due"]) fun _ _ _ _ _ _ us hl => match us, hl with | [_, _], _ => rfl
  have F40 := fun_mk (st := s_l_primes) l40 c40 k40
  have b40 := F40.binds (ps := []) fun _ _ _ _ _ _ us hl => match us, hl with | [], _ => rfl
  have F41 := fun_mk (st := s_l_twos) l41 c41 k41
  have b41 := F41.binds (ps := []) fun _ _ _ _ _ _ us hl => match us, hl with | [], _ => rfl
  have F42 := fun_mk (st := s_l_gcd) l42 c42 k42
  have b42 := F42.binds (ps := ["_law_x", "_law_y"]) fun _ _ _ _ _ _ us hl => match us, hl with | [_, _], _ => rfl
  have F43 := fun_mk (st := s_l_low) l43 c43 k43
  have b43 := F43.binds (ps := ["_law_num", "_law_den"]) fun _ _ _ _ _ _ us hl => match us, hl with | [_, _], _ => rfl
  have F44 := fun_mk (st := s_l_mul) l44 c44 k44
  have b44 := F44.binds (ps := ["_law_x", "_law_y"]) fun _ _ _ _ _ _ us hl => match us, hl with | [_, _], _ => rfl
  have F45 := fun_mk (st := s_l_quo) l45 c45 k45
  have b45 := F45.binds (ps := ["_law_x", "_law_y"]) fun _ _ _ _ _ _ us hl => match us, hl with | [_, _], _ => rfl
  have F46 := fun_mk (st := s_l_raised) l46 c46 k46
  have b46 := F46.binds (ps := ["_law_x", "_law_n"]) fun _ _ _ _ _ _ us hl => match us, hl with | [_, _], _ => rfl
  have F47 := fun_mk (st := s_l_count) l47 c47 k47
  have b47 := F47.binds (ps := ["_law_n", "_law_prime"]) fun _ _ _ _ _ _ us hl => match us, hl with | [_, _], _ => rfl
  have F48 := fun_mk (st := s_l_exponents) l48 c48 k48
  have b48 := F48.binds (ps := ["_law_x"]) fun _ _ _ _ _ _ us hl => match us, hl with | [_], _ => rfl
  have F49 := fun_mk (st := s_l_bits) l49 c49 k49
  have b49 := F49.binds (ps := ["_law_x"]) fun _ _ _ _ _ _ us hl => match us, hl with | [_], _ => rfl
  have F50 := fun_mk (st := s_l_built) l50 c50 k50
  have b50 := F50.binds (ps := ["_law_exponents_here"]) fun _ _ _ _ _ _ us hl => match us, hl with | [_], _ => rfl
  have F51 := fun_mk (st := s_l_step) l51 c51 k51
  have b51 := F51.binds (ps := ["_law_bag_here"]) fun _ _ _ _ _ _ us hl => match us, hl with | [_], _ => rfl
  have F52 := fun_mk (st := s_l_length) l52 c52 k52
  have b52 := F52.binds (ps := ["_law_bag_here"]) fun _ _ _ _ _ _ us hl => match us, hl with | [_], _ => rfl
  have F53 := fun_mk (st := s_l_ratio) l53 c53 k53
  have b53 := F53.binds (ps := ["_law_bag_here", "_law_x"]) fun _ _ _ _ _ _ us hl => match us, hl with | [_, _], _ => rfl
  have F54 := fun_mk (st := s_l_is) l54 c54 k54
  have b54 := F54.binds (ps := ["_law_x"]) fun _ _ _ _ _ _ us hl => match us, hl with | [_], _ => rfl
  have F55 := fun_mk (st := s_l_seen) l55 c55 k55
  have b55 := F55.binds (ps := ["_law_thing"]) fun _ _ _ _ _ _ us hl => match us, hl with | [_], _ => rfl
  have F56 := fun_mk (st := s_l_two) l56 c56 k56
  have b56 := F56.binds (ps := ["_law_x", "_law_y"]) fun _ _ _ _ _ _ us hl => match us, hl with | [_, _], _ => rfl
  have F57 := fun_mk (st := s_l_added) l57 c57 k57
  have b57 := F57.binds (ps := ["_law_w", "_law_z"]) fun _ _ _ _ _ _ us hl => match us, hl with | [_, _], _ => rfl
  have F58 := fun_mk (st := s_l_none) l58 c58 k58
  have b58 := F58.binds (ps := []) fun _ _ _ _ _ _ us hl => match us, hl with | [], _ => rfl
  have F59 := fun_mk (st := s_l_wedge_seen) l59 c59 k59
  have b59 := F59.binds (ps := ["_law_w"]) fun _ _ _ _ _ _ us hl => match us, hl with | [_], _ => rfl
  have F60 := fun_mk (st := s_l_wedge_due) l60 c60 k60
  have b60 := F60.binds (ps := ["_law_w"]) fun _ _ _ _ _ _ us hl => match us, hl with | [_], _ => rfl
  have F61 := fun_mk (st := s_l_ratio_drawn) l61 c61 k61
  have b61 := F61.binds (ps := ["_law_bag_here"]) fun _ _ _ _ _ _ us hl => match us, hl with | [_], _ => rfl
  have F62 := fun_mk (st := s_l_all_so) l62 c62 k62
  have b62 := F62.binds (ps := ["_law_told", "_law_dues"]) fun _ _ _ _ _ _ us hl => match us, hl with | [_, _], _ => rfl
  have F63 := fun_mk (st := s_law) l63 c63 k63
  have b63 := F63.binds (ps := ["_law_script"]) fun _ _ _ _ _ _ us hl => match us, hl with | [_], _ => rfl
  have kb_wedge_of : KBinds K _ ["u", "v"] ["v", "u"] g02s g02s := Fun.kb02s F31 fun _ _ _ _ _ _ _ _ => rfl
  exact ⟨PySem.W.fnOf "law" "law" (defArgs s_law) (defBody s_law) (defScope s_law) .none kV63 dc63 pm63 an63 cd63 ct63, fun s v => .of_eq rfl, fun base _ _ => ok_law (T := {
    z_len := PySem.W.mg_none_of X G z_len
    z_abs := PySem.W.mg_none_of X G z_abs
    z_int := PySem.W.mg_none_of X G z_int
    z_isinstance := PySem.W.mg_none_of X G z_isinstance
    z_list := PySem.W.mg_none_of X G z_list
    z_tuple := PySem.W.mg_none_of X G z_tuple
    z_bool := PySem.W.mg_none_of X G z_bool
    z_str := PySem.W.mg_none_of X G z_str
    z_all := PySem.W.mg_none_of X G z_all
    z_any := PySem.W.mg_none_of X G z_any
    z_zip := PySem.W.mg_none_of X G z_zip
    z_range := PySem.W.mg_none_of X G z_range
    z_enumerate := PySem.W.mg_none_of X G z_enumerate
    z_divmod := PySem.W.mg_none_of X G z_divmod
    z_max := PySem.W.mg_none_of X G z_max
    z_min := PySem.W.mg_none_of X G z_min
    z_reversed := PySem.W.mg_none_of X G z_reversed
    C_Ratio := C_Ratio
    c_Ratio := ⟨pg_Ratio, hd_Ratio, po_Ratio, sa_Ratio⟩
    g_Ratio := PySem.W.mg_of X G aC_Ratio
    n_Ratio_over := n_Ratio_over
    n_Ratio_under := n_Ratio_under
    n_Ratio_powers := n_Ratio_powers
    i_Ratio := ⟨ca_Ratio, cn_Ratio, ct_Ratio, cm_Ratio, if_pos (beq_self_eq_true _)⟩
    C_Wedge := C_Wedge
    c_Wedge := ⟨pg_Wedge, hd_Wedge, po_Wedge, sa_Wedge⟩
    g_Wedge := PySem.W.mg_of X G aC_Wedge
    n_Wedge_pairs := n_Wedge_pairs
    n_Wedge_bits := n_Wedge_bits
    i_Wedge := ⟨ca_Wedge, cn_Wedge, ct_Wedge, cm_Wedge, if_pos (beq_self_eq_true _)⟩
    e_PRIMES := e_PRIMES
    m_PRIMES := PySem.W.mg_of X G aE_PRIMES
    q_PRIMES := fun H => tupO_sq lE_PRIMES vE_PRIMES
    e_NO_POWERS := e_NO_POWERS
    m_NO_POWERS := PySem.W.mg_of X G aE_NO_POWERS
    q_NO_POWERS := fun H => tupO_sq lE_NO_POWERS vE_NO_POWERS
    m_gcd := PySem.W.mg_of X G gb_gcd
    t_MANY := t_MANY
    m_MANY := PySem.W.mg_of X G gi_MANY
    e_PAIRS := e_PAIRS
    m_PAIRS := PySem.W.mg_of X G aE_PAIRS
    l_PAIRS := ⟨_, rfl, fun H => tupO_sq lE_PAIRS vE_PAIRS⟩
    p_PAIRS := ⟨[ap0, ap1, ap2, ap3, ap4, ap5, ap6, ap7, ap8, ap9, ap10, ap11, ap12, ap13, ap14], rfl, fun H => tupO_sq lE_PAIRS vE_PAIRS, fun k a h => match k, h with | 0, rfl => ⟨0, 1, rfl, fun H => tupO_sq lP0 vP0⟩ | 1, rfl => ⟨0, 2, rfl, fun H => tupO_sq lP1 vP1⟩ | 2, rfl => ⟨0, 3, rfl, fun H => tupO_sq lP2 vP2⟩ | 3, rfl => ⟨0, 4, rfl, fun H => tupO_sq lP3 vP3⟩ | 4, rfl => ⟨0, 5, rfl, fun H => tupO_sq lP4 vP4⟩ | 5, rfl => ⟨1, 2, rfl, fun H => tupO_sq lP5 vP5⟩ | 6, rfl => ⟨1, 3, rfl, fun H => tupO_sq lP6 vP6⟩ | 7, rfl => ⟨1, 4, rfl, fun H => tupO_sq lP7 vP7⟩ | 8, rfl => ⟨1, 5, rfl, fun H => tupO_sq lP8 vP8⟩ | 9, rfl => ⟨2, 3, rfl, fun H => tupO_sq lP9 vP9⟩ | 10, rfl => ⟨2, 4, rfl, fun H => tupO_sq lP10 vP10⟩ | 11, rfl => ⟨2, 5, rfl, fun H => tupO_sq lP11 vP11⟩ | 12, rfl => ⟨3, 4, rfl, fun H => tupO_sq lP12 vP12⟩ | 13, rfl => ⟨3, 5, rfl, fun H => tupO_sq lP13 vP13⟩ | 14, rfl => ⟨4, 5, rfl, fun H => tupO_sq lP14 vP14⟩ | k + 15, h => nomatch h⟩
    e_bits := e_bits
    q_bits := fun H => tupO_sq lE_bits vE_bits
    f_is_number := f1
    d_is_number := PySem.W.fnOf "is_number" "is_number" (defArgs s_is_number) (defBody s_is_number) (defScope s_is_number) .none kV1 dc1 pm1 an1 cd1 ct1
    F_is_number := F1
    b_is_number := b1
    m_is_number := PySem.W.mg_of X G a1
    f_is_listed := f2
    d_is_listed := PySem.W.fnOf "is_listed" "is_listed" (defArgs s_is_listed) (defBody s_is_listed) (defScope s_is_listed) .none kV2 dc2 pm2 an2 cd2 ct2
    F_is_listed := F2
    b_is_listed := b2
    m_is_listed := PySem.W.mg_of X G a2
    f_are_numbers := f3
    d_are_numbers := PySem.W.fnOf "are_numbers" "are_numbers" (defArgs s_are_numbers) (defBody s_are_numbers) (defScope s_are_numbers) .none kV3 dc3 pm3 an3 cd3 ct3
    F_are_numbers := F3
    b_are_numbers := b3
    m_are_numbers := PySem.W.mg_of X G a3
    f_are_bits := f4
    d_are_bits := PySem.W.fnOf "are_bits" "are_bits" (defArgs s_are_bits) (defBody s_are_bits) (defScope s_are_bits) .none kV4 dc4 pm4 an4 cd4 ct4
    F_are_bits := F4
    b_are_bits := b4
    m_are_bits := PySem.W.mg_of X G a4
    f_Ratio_init := f5
    d_Ratio_init := PySem.W.fnOf "__init__" "Ratio.__init__" (defArgs s_Ratio_init) (defBody s_Ratio_init) (defScope s_Ratio_init) (.ref dT5) kV5 dc5 pm5 an5 cd5 ct5
    F_Ratio_init := F5
    ds_Ratio_init := ds1_5
    v_Ratio_init := v1_5
    b_Ratio_init := b5
    b1_Ratio_init := bb5
    k_Ratio := ⟨mk_Ratio, a5, i5, kc_Ratio⟩
    f_Ratio_powers := f6
    d_Ratio_powers := PySem.W.fnOf "powers" "Ratio.powers" (defArgs s_Ratio_powers) (defBody s_Ratio_powers) (defScope s_Ratio_powers) .none kV6 dc6 pm6 an6 cd6 ct6
    F_Ratio_powers := F6
    b_Ratio_powers := b6
    a_Ratio_powers := ⟨a6, i6, k6⟩
    f_Ratio_power := f7
    d_Ratio_power := PySem.W.fnOf "power" "Ratio.power" (defArgs s_Ratio_power) (defBody s_Ratio_power) (defScope s_Ratio_power) .none kV7 dc7 pm7 an7 cd7 ct7
    F_Ratio_power := F7
    b_Ratio_power := b7
    a_Ratio_power := ⟨a7, i7, k7⟩
    f_Ratio_mul := f8
    d_Ratio_mul := PySem.W.fnOf "__mul__" "Ratio.__mul__" (defArgs s_Ratio_mul) (defBody s_Ratio_mul) (defScope s_Ratio_mul) .none kV8 dc8 pm8 an8 cd8 ct8
    F_Ratio_mul := F8
    b_Ratio_mul := b8
    a_Ratio_mul := ⟨a8, i8, k8⟩
    f_Ratio_floordiv := f9
    d_Ratio_floordiv := PySem.W.fnOf "__floordiv__" "Ratio.__floordiv__" (defArgs s_Ratio_floordiv) (defBody s_Ratio_floordiv) (defScope s_Ratio_floordiv) .none kV9 dc9 pm9 an9 cd9 ct9
    F_Ratio_floordiv := F9
    b_Ratio_floordiv := b9
    a_Ratio_floordiv := ⟨a9, i9, k9⟩
    f__raised := f10
    d__raised := PySem.W.fnOf "_raised" "_raised" (defArgs s__raised) (defBody s__raised) (defScope s__raised) .none kV10 dc10 pm10 an10 cd10 ct10
    F__raised := F10
    b__raised := b10
    m__raised := PySem.W.mg_of X G a10
    f__made_of := f11
    d__made_of := PySem.W.fnOf "_made_of" "_made_of" (defArgs s__made_of) (defBody s__made_of) (defScope s__made_of) .none kV11 dc11 pm11 an11 cd11 ct11
    F__made_of := F11
    b__made_of := b11
    m__made_of := PySem.W.mg_of X G a11
    f__fraction_of := f12
    d__fraction_of := PySem.W.fnOf "_fraction_of" "_fraction_of" (defArgs s__fraction_of) (defBody s__fraction_of) (defScope s__fraction_of) .none kV12 dc12 pm12 an12 cd12 ct12
    F__fraction_of := F12
    b__fraction_of := b12
    m__fraction_of := PySem.W.mg_of X G a12
    f_ratio_with := f13
    d_ratio_with := PySem.W.fnOf "ratio_with" "ratio_with" (defArgs s_ratio_with) (defBody s_ratio_with) (defScope s_ratio_with) .none kV13 dc13 pm13 an13 cd13 ct13
    F_ratio_with := F13
    b_ratio_with := b13
    m_ratio_with := PySem.W.mg_of X G a13
    f__split := f14
    d__split := PySem.W.fnOf "_split" "_split" (defArgs s__split) (defBody s__split) (defScope s__split) .none kV14 dc14 pm14 an14 cd14 ct14
    F__split := F14
    b__split := b14
    m__split := PySem.W.mg_of X G a14
    f__powers_in := f15
    d__powers_in := PySem.W.fnOf "_powers_in" "_powers_in" (defArgs s__powers_in) (defBody s__powers_in) (defScope s__powers_in) .none kV15 dc15 pm15 an15 cd15 ct15
    F__powers_in := F15
    b__powers_in := b15
    m__powers_in := PySem.W.mg_of X G a15
    f__powers_of := f16
    d__powers_of := PySem.W.fnOf "_powers_of" "_powers_of" (defArgs s__powers_of) (defBody s__powers_of) (defScope s__powers_of) .none kV16 dc16 pm16 an16 cd16 ct16
    F__powers_of := F16
    b__powers_of := b16
    m__powers_of := PySem.W.mg_of X G a16
    f_Wedge_init := f17
    d_Wedge_init := PySem.W.fnOf "__init__" "Wedge.__init__" (defArgs s_Wedge_init) (defBody s_Wedge_init) (defScope s_Wedge_init) (.ref dT17) kV17 dc17 pm17 an17 cd17 ct17
    F_Wedge_init := F17
    ds_Wedge_init := ds1_17
    v_Wedge_init := v1_17
    b_Wedge_init := b17
    b1_Wedge_init := bb17
    k_Wedge := ⟨mk_Wedge, a17, i17, kc_Wedge⟩
    f_Wedge_pairs := f18
    d_Wedge_pairs := PySem.W.fnOf "pairs" "Wedge.pairs" (defArgs s_Wedge_pairs) (defBody s_Wedge_pairs) (defScope s_Wedge_pairs) .none kV18 dc18 pm18 an18 cd18 ct18
    F_Wedge_pairs := F18
    b_Wedge_pairs := b18
    a_Wedge_pairs := ⟨a18, i18, k18⟩
    f_Wedge_bits := f19
    d_Wedge_bits := PySem.W.fnOf "bits" "Wedge.bits" (defArgs s_Wedge_bits) (defBody s_Wedge_bits) (defScope s_Wedge_bits) .none kV19 dc19 pm19 an19 cd19 ct19
    F_Wedge_bits := F19
    b_Wedge_bits := b19
    a_Wedge_bits := ⟨a19, i19, k19⟩
    f_Wedge_matrix := f20
    d_Wedge_matrix := PySem.W.fnOf "matrix" "Wedge.matrix" (defArgs s_Wedge_matrix) (defBody s_Wedge_matrix) (defScope s_Wedge_matrix) .none kV20 dc20 pm20 an20 cd20 ct20
    F_Wedge_matrix := F20
    b_Wedge_matrix := b20
    a_Wedge_matrix := ⟨a20, i20, k20⟩
    f_Wedge_flat := f21
    d_Wedge_flat := PySem.W.fnOf "flat" "Wedge.flat" (defArgs s_Wedge_flat) (defBody s_Wedge_flat) (defScope s_Wedge_flat) .none kV21 dc21 pm21 an21 cd21 ct21
    F_Wedge_flat := F21
    b_Wedge_flat := b21
    p_Wedge_flat := p21
    P_Wedge_flat := ⟨a21, pg21, pt21, ⟨_, i21⟩⟩
    f_Wedge_rank := f22
    d_Wedge_rank := PySem.W.fnOf "rank" "Wedge.rank" (defArgs s_Wedge_rank) (defBody s_Wedge_rank) (defScope s_Wedge_rank) .none kV22 dc22 pm22 an22 cd22 ct22
    F_Wedge_rank := F22
    b_Wedge_rank := b22
    p_Wedge_rank := p22
    P_Wedge_rank := ⟨a22, pg22, pt22, ⟨_, i22⟩⟩
    f_Wedge_owed := f23
    d_Wedge_owed := PySem.W.fnOf "owed" "Wedge.owed" (defArgs s_Wedge_owed) (defBody s_Wedge_owed) (defScope s_Wedge_owed) .none kV23 dc23 pm23 an23 cd23 ct23
    F_Wedge_owed := F23
    b_Wedge_owed := b23
    p_Wedge_owed := p23
    P_Wedge_owed := ⟨a23, pg23, pt23, ⟨_, i23⟩⟩
    f_Wedge_add := f24
    d_Wedge_add := PySem.W.fnOf "__add__" "Wedge.__add__" (defArgs s_Wedge_add) (defBody s_Wedge_add) (defScope s_Wedge_add) .none kV24 dc24 pm24 an24 cd24 ct24
    F_Wedge_add := F24
    b_Wedge_add := b24
    a_Wedge_add := ⟨a24, i24, k24⟩
    f_Wedge_sub := f25
    d_Wedge_sub := PySem.W.fnOf "__sub__" "Wedge.__sub__" (defArgs s_Wedge_sub) (defBody s_Wedge_sub) (defScope s_Wedge_sub) .none kV25 dc25 pm25 an25 cd25 ct25
    F_Wedge_sub := F25
    b_Wedge_sub := b25
    a_Wedge_sub := ⟨a25, i25, k25⟩
    f_Wedge_neg := f26
    d_Wedge_neg := PySem.W.fnOf "__neg__" "Wedge.__neg__" (defArgs s_Wedge_neg) (defBody s_Wedge_neg) (defScope s_Wedge_neg) .none kV26 dc26 pm26 an26 cd26 ct26
    F_Wedge_neg := F26
    b_Wedge_neg := b26
    a_Wedge_neg := ⟨a26, i26, k26⟩
    f_Wedge_mul := f27
    d_Wedge_mul := PySem.W.fnOf "__mul__" "Wedge.__mul__" (defArgs s_Wedge_mul) (defBody s_Wedge_mul) (defScope s_Wedge_mul) .none kV27 dc27 pm27 an27 cd27 ct27
    F_Wedge_mul := F27
    b_Wedge_mul := b27
    a_Wedge_mul := ⟨a27, i27, k27⟩
    f_Wedge_rmul := f28
    d_Wedge_rmul := PySem.W.fnOf "__rmul__" "Wedge.__rmul__" (defArgs s_Wedge_rmul) (defBody s_Wedge_rmul) (defScope s_Wedge_rmul) .none kV28 dc28 pm28 an28 cd28 ct28
    F_Wedge_rmul := F28
    b_Wedge_rmul := b28
    a_Wedge_rmul := ⟨a28, i28, k28⟩
    f_Wedge_eq := f29
    d_Wedge_eq := PySem.W.fnOf "__eq__" "Wedge.__eq__" (defArgs s_Wedge_eq) (defBody s_Wedge_eq) (defScope s_Wedge_eq) .none kV29 dc29 pm29 an29 cd29 ct29
    F_Wedge_eq := F29
    b_Wedge_eq := b29
    a_Wedge_eq := ⟨a29, i29, k29⟩
    f_wedge_of_products := f30
    d_wedge_of_products := PySem.W.fnOf "wedge_of_products" "wedge_of_products" (defArgs s_wedge_of_products) (defBody s_wedge_of_products) (defScope s_wedge_of_products) .none kV30 dc30 pm30 an30 cd30 ct30
    F_wedge_of_products := F30
    b_wedge_of_products := b30
    m_wedge_of_products := PySem.W.mg_of X G a30
    f_wedge_of := f31
    d_wedge_of := PySem.W.fnOf "wedge_of" "wedge_of" (defArgs s_wedge_of) (defBody s_wedge_of) (defScope s_wedge_of) .none kV31 dc31 pm31 an31 cd31 ct31
    F_wedge_of := F31
    b_wedge_of := b31
    m_wedge_of := PySem.W.mg_of X G a31
    f_nothing := f32
    d_nothing := PySem.W.fnOf "nothing" "nothing" (defArgs s_nothing) (defBody s_nothing) (defScope s_nothing) .none kV32 dc32 pm32 an32 cd32 ct32
    F_nothing := F32
    b_nothing := b32
    m_nothing := PySem.W.mg_of X G a32
    f__filled_from := f33
    d__filled_from := PySem.W.fnOf "_filled_from" "_filled_from" (defArgs s__filled_from) (defBody s__filled_from) (defScope s__filled_from) .none kV33 dc33 pm33 an33 cd33 ct33
    F__filled_from := F33
    b__filled_from := b33
    m__filled_from := PySem.W.mg_of X G a33
    f__cleared := f34
    d__cleared := PySem.W.fnOf "_cleared" "_cleared" (defArgs s__cleared) (defBody s__cleared) (defScope s__cleared) .none kV34 dc34 pm34 an34 cd34 ct34
    F__cleared := F34
    b__cleared := b34
    m__cleared := PySem.W.mg_of X G a34
    f_rank_of := f35
    d_rank_of := PySem.W.fnOf "rank_of" "rank_of" (defArgs s_rank_of) (defBody s_rank_of) (defScope s_rank_of) .none kV35 dc35 pm35 an35 cd35 ct35
    F_rank_of := F35
    b_rank_of := b35
    m_rank_of := PySem.W.mg_of X G a35
    f_l_bag := f36
    d_l_bag := PySem.W.fnOf "_law_bag" "_law_bag" (defArgs s_l_bag) (defBody s_l_bag) (defScope s_l_bag) .none kV36 dc36 pm36 an36 cd36 ct36
    F_l_bag := F36
    b_l_bag := b36
    m_l_bag := PySem.W.mg_of X G a36
    f_l_draw := f37
    d_l_draw := PySem.W.fnOf "_law_draw" "_law_draw" (defArgs s_l_draw) (defBody s_l_draw) (defScope s_l_draw) .none kV37 dc37 pm37 an37 cd37 ct37
    F_l_draw := F37
    b_l_draw := b37
    m_l_draw := PySem.W.mg_of X G a37
    f_l_of := f38
    d_l_of := PySem.W.fnOf "_law_of" "_law_of" (defArgs s_l_of) (defBody s_l_of) (defScope s_l_of) .none kV38 dc38 pm38 an38 cd38 ct38
    F_l_of := F38
    b_l_of := b38
    m_l_of := PySem.W.mg_of X G a38
    f_l_same := f39
    d_l_same := PySem.W.fnOf "_law_same" "_law_same" (defArgs s_l_same) (defBody s_l_same) (defScope s_l_same) .none kV39 dc39 pm39 an39 cd39 ct39
    F_l_same := F39
    b_l_same := b39
    m_l_same := PySem.W.mg_of X G a39
    f_l_primes := f40
    d_l_primes := PySem.W.fnOf "_law_primes" "_law_primes" (defArgs s_l_primes) (defBody s_l_primes) (defScope s_l_primes) .none kV40 dc40 pm40 an40 cd40 ct40
    F_l_primes := F40
    b_l_primes := b40
    m_l_primes := PySem.W.mg_of X G a40
    f_l_twos := f41
    d_l_twos := PySem.W.fnOf "_law_twos" "_law_twos" (defArgs s_l_twos) (defBody s_l_twos) (defScope s_l_twos) .none kV41 dc41 pm41 an41 cd41 ct41
    F_l_twos := F41
    b_l_twos := b41
    m_l_twos := PySem.W.mg_of X G a41
    f_l_gcd := f42
    d_l_gcd := PySem.W.fnOf "_law_gcd" "_law_gcd" (defArgs s_l_gcd) (defBody s_l_gcd) (defScope s_l_gcd) .none kV42 dc42 pm42 an42 cd42 ct42
    F_l_gcd := F42
    b_l_gcd := b42
    m_l_gcd := PySem.W.mg_of X G a42
    f_l_low := f43
    d_l_low := PySem.W.fnOf "_law_low" "_law_low" (defArgs s_l_low) (defBody s_l_low) (defScope s_l_low) .none kV43 dc43 pm43 an43 cd43 ct43
    F_l_low := F43
    b_l_low := b43
    m_l_low := PySem.W.mg_of X G a43
    f_l_mul := f44
    d_l_mul := PySem.W.fnOf "_law_mul" "_law_mul" (defArgs s_l_mul) (defBody s_l_mul) (defScope s_l_mul) .none kV44 dc44 pm44 an44 cd44 ct44
    F_l_mul := F44
    b_l_mul := b44
    m_l_mul := PySem.W.mg_of X G a44
    f_l_quo := f45
    d_l_quo := PySem.W.fnOf "_law_quo" "_law_quo" (defArgs s_l_quo) (defBody s_l_quo) (defScope s_l_quo) .none kV45 dc45 pm45 an45 cd45 ct45
    F_l_quo := F45
    b_l_quo := b45
    m_l_quo := PySem.W.mg_of X G a45
    f_l_raised := f46
    d_l_raised := PySem.W.fnOf "_law_raised" "_law_raised" (defArgs s_l_raised) (defBody s_l_raised) (defScope s_l_raised) .none kV46 dc46 pm46 an46 cd46 ct46
    F_l_raised := F46
    b_l_raised := b46
    m_l_raised := PySem.W.mg_of X G a46
    f_l_count := f47
    d_l_count := PySem.W.fnOf "_law_count" "_law_count" (defArgs s_l_count) (defBody s_l_count) (defScope s_l_count) .none kV47 dc47 pm47 an47 cd47 ct47
    F_l_count := F47
    b_l_count := b47
    m_l_count := PySem.W.mg_of X G a47
    f_l_exponents := f48
    d_l_exponents := PySem.W.fnOf "_law_exponents" "_law_exponents" (defArgs s_l_exponents) (defBody s_l_exponents) (defScope s_l_exponents) .none kV48 dc48 pm48 an48 cd48 ct48
    F_l_exponents := F48
    b_l_exponents := b48
    m_l_exponents := PySem.W.mg_of X G a48
    f_l_bits := f49
    d_l_bits := PySem.W.fnOf "_law_bits" "_law_bits" (defArgs s_l_bits) (defBody s_l_bits) (defScope s_l_bits) .none kV49 dc49 pm49 an49 cd49 ct49
    F_l_bits := F49
    b_l_bits := b49
    m_l_bits := PySem.W.mg_of X G a49
    f_l_built := f50
    d_l_built := PySem.W.fnOf "_law_built" "_law_built" (defArgs s_l_built) (defBody s_l_built) (defScope s_l_built) .none kV50 dc50 pm50 an50 cd50 ct50
    F_l_built := F50
    b_l_built := b50
    m_l_built := PySem.W.mg_of X G a50
    f_l_step := f51
    d_l_step := PySem.W.fnOf "_law_step" "_law_step" (defArgs s_l_step) (defBody s_l_step) (defScope s_l_step) .none kV51 dc51 pm51 an51 cd51 ct51
    F_l_step := F51
    b_l_step := b51
    m_l_step := PySem.W.mg_of X G a51
    f_l_length := f52
    d_l_length := PySem.W.fnOf "_law_length" "_law_length" (defArgs s_l_length) (defBody s_l_length) (defScope s_l_length) .none kV52 dc52 pm52 an52 cd52 ct52
    F_l_length := F52
    b_l_length := b52
    m_l_length := PySem.W.mg_of X G a52
    f_l_ratio := f53
    d_l_ratio := PySem.W.fnOf "_law_ratio" "_law_ratio" (defArgs s_l_ratio) (defBody s_l_ratio) (defScope s_l_ratio) .none kV53 dc53 pm53 an53 cd53 ct53
    F_l_ratio := F53
    b_l_ratio := b53
    m_l_ratio := PySem.W.mg_of X G a53
    f_l_is := f54
    d_l_is := PySem.W.fnOf "_law_is" "_law_is" (defArgs s_l_is) (defBody s_l_is) (defScope s_l_is) .none kV54 dc54 pm54 an54 cd54 ct54
    F_l_is := F54
    b_l_is := b54
    m_l_is := PySem.W.mg_of X G a54
    f_l_seen := f55
    d_l_seen := PySem.W.fnOf "_law_seen" "_law_seen" (defArgs s_l_seen) (defBody s_l_seen) (defScope s_l_seen) .none kV55 dc55 pm55 an55 cd55 ct55
    F_l_seen := F55
    b_l_seen := b55
    m_l_seen := PySem.W.mg_of X G a55
    f_l_two := f56
    d_l_two := PySem.W.fnOf "_law_two" "_law_two" (defArgs s_l_two) (defBody s_l_two) (defScope s_l_two) .none kV56 dc56 pm56 an56 cd56 ct56
    F_l_two := F56
    b_l_two := b56
    m_l_two := PySem.W.mg_of X G a56
    f_l_added := f57
    d_l_added := PySem.W.fnOf "_law_added" "_law_added" (defArgs s_l_added) (defBody s_l_added) (defScope s_l_added) .none kV57 dc57 pm57 an57 cd57 ct57
    F_l_added := F57
    b_l_added := b57
    m_l_added := PySem.W.mg_of X G a57
    f_l_none := f58
    d_l_none := PySem.W.fnOf "_law_none" "_law_none" (defArgs s_l_none) (defBody s_l_none) (defScope s_l_none) .none kV58 dc58 pm58 an58 cd58 ct58
    F_l_none := F58
    b_l_none := b58
    m_l_none := PySem.W.mg_of X G a58
    f_l_wedge_seen := f59
    d_l_wedge_seen := PySem.W.fnOf "_law_wedge_seen" "_law_wedge_seen" (defArgs s_l_wedge_seen) (defBody s_l_wedge_seen) (defScope s_l_wedge_seen) .none kV59 dc59 pm59 an59 cd59 ct59
    F_l_wedge_seen := F59
    b_l_wedge_seen := b59
    m_l_wedge_seen := PySem.W.mg_of X G a59
    f_l_wedge_due := f60
    d_l_wedge_due := PySem.W.fnOf "_law_wedge_due" "_law_wedge_due" (defArgs s_l_wedge_due) (defBody s_l_wedge_due) (defScope s_l_wedge_due) .none kV60 dc60 pm60 an60 cd60 ct60
    F_l_wedge_due := F60
    b_l_wedge_due := b60
    m_l_wedge_due := PySem.W.mg_of X G a60
    f_l_ratio_drawn := f61
    d_l_ratio_drawn := PySem.W.fnOf "_law_ratio_drawn" "_law_ratio_drawn" (defArgs s_l_ratio_drawn) (defBody s_l_ratio_drawn) (defScope s_l_ratio_drawn) .none kV61 dc61 pm61 an61 cd61 ct61
    F_l_ratio_drawn := F61
    b_l_ratio_drawn := b61
    m_l_ratio_drawn := PySem.W.mg_of X G a61
    f_l_all_so := f62
    d_l_all_so := PySem.W.fnOf "_law_all_so" "_law_all_so" (defArgs s_l_all_so) (defBody s_l_all_so) (defScope s_l_all_so) .none kV62 dc62 pm62 an62 cd62 ct62
    F_l_all_so := F62
    b_l_all_so := b62
    m_l_all_so := PySem.W.mg_of X G a62
    f_law := fa
    d_law := PySem.W.fnOf "law" "law" (defArgs s_law) (defBody s_law) (defScope s_law) .none kV63 dc63 pm63 an63 cd63 ct63
    F_law := F63
    b_law := b63
    m_law := PySem.W.mg_of X G a63
    sfR := h_sfR
    sfW := h_sfW
    sI := h_sI
    sC := h_sC
    iM := ⟨_, h_iM⟩
    iR := ⟨_, h_iR⟩
    kList := kit_no ic_C_Ratio it_C_Ratio h_kList
    kb_wedge_of := kb_wedge_of
  } )⟩
theorem walk {l : PySem.W.OpenLaw} {q : Program} {loose : List Str} {XP : (Str → Option Value) → Heap → Prop} {YP : World → Heap → Prop} {d : DefRec} {K : Params → PySem.W.Frag} (hn : l.most = some 63) (hdf : d.params.defaults = [])
    (hY : ∀ (w : World) (h : Heap), YP w h → (K w.params).In h)
    (F : ∀ (w : World) (mg : Str → Option Value) (fa : Addr) (h : Heap), (K w.params).In h → h.Ns mainGlobals mg → mg d.name = some (.ref fa) →
      ∃ fd : FuncData, (∀ (s : Shared) (u : Value), BindsTo s fd ⟨[u], []⟩ [("_law_script", u)]) ∧ ∀ base : Heap, (K w.params).In base → base.Ns mainGlobals mg → FnOk l.prog w (K w.params) mg base CX0 8 fa fd ["_law_script"] (spLaw (K w.params))) :
    PySem.W.WalkO q loose XP YP l.row.toRowW d [] (fun f vs => PySem.call f vs) :=
  L2.walk_of (n := 63) (k := 8) (x := "_law_script") (CX := fun _ => CX0) (sp := fun w => spLaw (K w.params)) hn (by decide) hdf ⟨rfl, by decide, by decide⟩ hY F (fun _ _ a ns hl _ hS => ⟨a, ns, rfl, hS, hl, fun _ => rfl⟩) fun _ _ _ _ _ z => z
end TL.W
open PySem PySem.W PyProof.Rows
set_option maxRecDepth 100000 in
set_option maxHeartbeats 0 in
theorem PySem.Challenge.cw_turnsleft_k08_whole_wedges_of_ratios_holds : PySem.Challenge.rw_turnsleft_k08_whole_wedges_of_ratios.Holds := by
  w_on; o_law; k_head; (case hw => w_witness2)
  k_fill
  refine TL.W.walk (l := PySem.Challenge.rw_turnsleft_k08_whole_wedges_of_ratios) rfl rfl (fun w h Y => PySem.W.kIn_of Y) ?F
  case F =>
    intro w mg fa h KX G hmg
    refine' TL.W.all_mk KX G hmg ?z_len ?z_abs ?z_int ?z_isinstance ?z_list ?z_tuple ?z_bool ?z_str ?z_all ?z_any ?z_zip ?z_range ?z_enumerate ?z_divmod ?z_max ?z_min ?z_reversed ?aC_Ratio ?pg_Ratio ?hd_Ratio ?po_Ratio ?sa_Ratio ?n_Ratio_over ?n_Ratio_under ?n_Ratio_powers ?ca_Ratio ?cm_Ratio ?cn_Ratio ?ct_Ratio ?aC_Wedge ?pg_Wedge ?hd_Wedge ?po_Wedge ?sa_Wedge ?n_Wedge_pairs ?n_Wedge_bits ?ca_Wedge ?cm_Wedge ?cn_Wedge ?ct_Wedge ?aE_PRIMES ?lE_PRIMES ?vE_PRIMES ?aE_NO_POWERS ?lE_NO_POWERS ?vE_NO_POWERS ?gb_gcd ?gi_MANY ?aE_PAIRS ?lE_PAIRS ?vE_PAIRS ?lP0 ?vP0 ?lP1 ?vP1 ?lP2 ?vP2 ?lP3 ?vP3 ?lP4 ?vP4 ?lP5 ?vP5 ?lP6 ?vP6 ?lP7 ?vP7 ?lP8 ?vP8 ?lP9 ?vP9 ?lP10 ?vP10 ?lP11 ?vP11 ?lP12 ?vP12 ?lP13 ?vP13 ?lP14 ?vP14 ?ic_C_Ratio ?it_C_Ratio ?h_kList ?a1 ?l1 ?c1 ?k1 ?a2 ?l2 ?c2 ?k2 ?a3 ?l3 ?c3 ?k3 ?a4 ?l4 ?c4 ?k4 ?a5 ?i5 ?l5 ?c5 ?k5 ?lT5 ?vT5 ?mk_Ratio ?kc_Ratio ?a6 ?i6 ?l6 ?c6 ?k6 ?a7 ?i7 ?l7 ?c7 ?k7 ?a8 ?i8 ?l8 ?c8 ?k8 ?a9 ?i9 ?l9 ?c9 ?k9 ?a10 ?l10 ?c10 ?k10 ?a11 ?l11 ?c11 ?k11 ?a12 ?l12 ?c12 ?k12 ?a13 ?l13 ?c13 ?k13 ?a14 ?l14 ?c14 ?k14 ?a15 ?l15 ?c15 ?k15 ?a16 ?l16 ?c16 ?k16 ?a17 ?i17 ?l17 ?c17 ?k17 ?lT17 ?vT17 ?lE_bits ?vE_bits ?mk_Wedge ?kc_Wedge ?a18 ?i18 ?l18 ?c18 ?k18 ?a19 ?i19 ?l19 ?c19 ?k19 ?a20 ?i20 ?l20 ?c20 ?k20 ?a21 ?pg21 ?pt21 ?i21 ?l21 ?c21 ?k21 ?a22 ?pg22 ?pt22 ?i22 ?l22 ?c22 ?k22 ?a23 ?pg23 ?pt23 ?i23 ?l23 ?c23 ?k23 ?a24 ?i24 ?l24 ?c24 ?k24 ?a25 ?i25 ?l25 ?c25 ?k25 ?a26 ?i26 ?l26 ?c26 ?k26 ?a27 ?i27 ?l27 ?c27 ?k27 ?a28 ?i28 ?l28 ?c28 ?k28 ?a29 ?i29 ?l29 ?c29 ?k29 ?a30 ?l30 ?c30 ?k30 ?a31 ?l31 ?c31 ?k31 ?a32 ?l32 ?c32 ?k32 ?a33 ?l33 ?c33 ?k33 ?a34 ?l34 ?c34 ?k34 ?a35 ?l35 ?c35 ?k35 ?a36 ?l36 ?c36 ?k36 ?a37 ?l37 ?c37 ?k37 ?a38 ?l38 ?c38 ?k38 ?a39 ?l39 ?c39 ?k39 ?a40 ?l40 ?c40 ?k40 ?a41 ?l41 ?c41 ?k41 ?a42 ?l42 ?c42 ?k42 ?a43 ?l43 ?c43 ?k43 ?a44 ?l44 ?c44 ?k44 ?a45 ?l45 ?c45 ?k45 ?a46 ?l46 ?c46 ?k46 ?a47 ?l47 ?c47 ?k47 ?a48 ?l48 ?c48 ?k48 ?a49 ?l49 ?c49 ?k49 ?a50 ?l50 ?c50 ?k50 ?a51 ?l51 ?c51 ?k51 ?a52 ?l52 ?c52 ?k52 ?a53 ?l53 ?c53 ?k53 ?a54 ?l54 ?c54 ?k54 ?a55 ?l55 ?c55 ?k55 ?a56 ?l56 ?c56 ?k56 ?a57 ?l57 ?c57 ?k57 ?a58 ?l58 ?c58 ?k58 ?a59 ?l59 ?c59 ?k59 ?a60 ?l60 ?c60 ?k60 ?a61 ?l61 ?c61 ?k61 ?a62 ?l62 ?c62 ?k62 ?a63 ?l63 ?c63 ?k63 ?h_sfR ?h_sfW ?h_sI ?h_sC ?h_iM ?h_iR
    (case z_len => k_is)
    (case z_abs => k_is)
    (case z_int => k_is)
    (case z_isinstance => k_is)
    (case z_list => k_is)
    (case z_tuple => k_is)
    (case z_bool => k_is)
    (case z_str => k_is)
    (case z_all => k_is)
    (case z_any => k_is)
    (case z_zip => k_is)
    (case z_range => k_is)
    (case z_enumerate => k_is)
    (case z_divmod => k_is)
    (case z_max => k_is)
    (case z_min => k_is)
    (case z_reversed => k_is)
    (case aC_Ratio => k_is)
    (case pg_Ratio => k_is)
    (case hd_Ratio => k_is)
    (case po_Ratio => k_is)
    (case sa_Ratio => k_is)
    (case n_Ratio_over => k_is)
    (case n_Ratio_under => k_is)
    (case n_Ratio_powers => k_is)
    (case ca_Ratio => k_is)
    (case cm_Ratio => k_is)
    (case cn_Ratio => k_is)
    (case ct_Ratio => k_is)
    (case aC_Wedge => k_is)
    (case pg_Wedge => k_is)
    (case hd_Wedge => k_is)
    (case po_Wedge => k_is)
    (case sa_Wedge => k_is)
    (case n_Wedge_pairs => k_is)
    (case n_Wedge_bits => k_is)
    (case ca_Wedge => k_is)
    (case cm_Wedge => k_is)
    (case cn_Wedge => k_is)
    (case ct_Wedge => k_is)
    (case aE_PRIMES => k_is)
    (case lE_PRIMES => k_is)
    (case vE_PRIMES => exact ⟨_, _, rfl, rfl, by decide, .cons ⟨_, rfl⟩ (.cons ⟨_, rfl⟩ (.cons ⟨_, rfl⟩ (.cons ⟨_, rfl⟩ (.cons ⟨_, rfl⟩ (.cons ⟨_, rfl⟩ (.nil))))))⟩)
    (case aE_NO_POWERS => k_is)
    (case lE_NO_POWERS => k_is)
    (case vE_NO_POWERS => exact ⟨_, _, rfl, rfl, by decide, .cons ⟨_, rfl⟩ (.cons ⟨_, rfl⟩ (.cons ⟨_, rfl⟩ (.cons ⟨_, rfl⟩ (.cons ⟨_, rfl⟩ (.cons ⟨_, rfl⟩ (.nil))))))⟩)
    (case gb_gcd => k_is)
    (case gi_MANY => k_is)
    (case aE_PAIRS => k_is)
    (case lE_PAIRS => k_is)
    (case vE_PAIRS => exact ⟨_, _, rfl, rfl, by decide, .cons (show L2.RelV (L2.V.ref _) _ from rfl) (.cons (show L2.RelV (L2.V.ref _) _ from rfl) (.cons (show L2.RelV (L2.V.ref _) _ from rfl) (.cons (show L2.RelV (L2.V.ref _) _ from rfl) (.cons (show L2.RelV (L2.V.ref _) _ from rfl) (.cons (show L2.RelV (L2.V.ref _) _ from rfl) (.cons (show L2.RelV (L2.V.ref _) _ from rfl) (.cons (show L2.RelV (L2.V.ref _) _ from rfl) (.cons (show L2.RelV (L2.V.ref _) _ from rfl) (.cons (show L2.RelV (L2.V.ref _) _ from rfl) (.cons (show L2.RelV (L2.V.ref _) _ from rfl) (.cons (show L2.RelV (L2.V.ref _) _ from rfl) (.cons (show L2.RelV (L2.V.ref _) _ from rfl) (.cons (show L2.RelV (L2.V.ref _) _ from rfl) (.cons (show L2.RelV (L2.V.ref _) _ from rfl) (.nil)))))))))))))))⟩)
    (case lP0 => k_is)
    (case vP0 => exact ⟨_, _, rfl, rfl, by decide, .cons ⟨_, rfl⟩ (.cons ⟨_, rfl⟩ .nil)⟩)
    (case lP1 => k_is)
    (case vP1 => exact ⟨_, _, rfl, rfl, by decide, .cons ⟨_, rfl⟩ (.cons ⟨_, rfl⟩ .nil)⟩)
    (case lP2 => k_is)
    (case vP2 => exact ⟨_, _, rfl, rfl, by decide, .cons ⟨_, rfl⟩ (.cons ⟨_, rfl⟩ .nil)⟩)
    (case lP3 => k_is)
    (case vP3 => exact ⟨_, _, rfl, rfl, by decide, .cons ⟨_, rfl⟩ (.cons ⟨_, rfl⟩ .nil)⟩)
    (case lP4 => k_is)
    (case vP4 => exact ⟨_, _, rfl, rfl, by decide, .cons ⟨_, rfl⟩ (.cons ⟨_, rfl⟩ .nil)⟩)
    (case lP5 => k_is)
    (case vP5 => exact ⟨_, _, rfl, rfl, by decide, .cons ⟨_, rfl⟩ (.cons ⟨_, rfl⟩ .nil)⟩)
    (case lP6 => k_is)
    (case vP6 => exact ⟨_, _, rfl, rfl, by decide, .cons ⟨_, rfl⟩ (.cons ⟨_, rfl⟩ .nil)⟩)
    (case lP7 => k_is)
    (case vP7 => exact ⟨_, _, rfl, rfl, by decide, .cons ⟨_, rfl⟩ (.cons ⟨_, rfl⟩ .nil)⟩)
    (case lP8 => k_is)
    (case vP8 => exact ⟨_, _, rfl, rfl, by decide, .cons ⟨_, rfl⟩ (.cons ⟨_, rfl⟩ .nil)⟩)
    (case lP9 => k_is)
    (case vP9 => exact ⟨_, _, rfl, rfl, by decide, .cons ⟨_, rfl⟩ (.cons ⟨_, rfl⟩ .nil)⟩)
    (case lP10 => k_is)
    (case vP10 => exact ⟨_, _, rfl, rfl, by decide, .cons ⟨_, rfl⟩ (.cons ⟨_, rfl⟩ .nil)⟩)
    (case lP11 => k_is)
    (case vP11 => exact ⟨_, _, rfl, rfl, by decide, .cons ⟨_, rfl⟩ (.cons ⟨_, rfl⟩ .nil)⟩)
    (case lP12 => k_is)
    (case vP12 => exact ⟨_, _, rfl, rfl, by decide, .cons ⟨_, rfl⟩ (.cons ⟨_, rfl⟩ .nil)⟩)
    (case lP13 => k_is)
    (case vP13 => exact ⟨_, _, rfl, rfl, by decide, .cons ⟨_, rfl⟩ (.cons ⟨_, rfl⟩ .nil)⟩)
    (case lP14 => k_is)
    (case vP14 => exact ⟨_, _, rfl, rfl, by decide, .cons ⟨_, rfl⟩ (.cons ⟨_, rfl⟩ .nil)⟩)
    (case ic_C_Ratio => k_is)
    (case it_C_Ratio => k_is)
    (case h_kList => k_is)
    (case a1 => k_is)
    (case l1 => k_is)
    (case c1 => k_is)
    (case k1 => k_is)
    (case a2 => k_is)
    (case l2 => k_is)
    (case c2 => k_is)
    (case k2 => k_is)
    (case a3 => k_is)
    (case l3 => k_is)
    (case c3 => k_is)
    (case k3 => k_is)
    (case a4 => k_is)
    (case l4 => k_is)
    (case c4 => k_is)
    (case k4 => k_is)
    (case a5 => k_is)
    (case i5 => k_is)
    (case l5 => k_is)
    (case c5 => k_is)
    (case k5 => k_is)
    (case lT5 => k_is)
    (case vT5 => exact ⟨[_], _, rfl, .cons ⟨_, rfl⟩ .nil⟩)
    (case mk_Ratio => k_is)
    (case kc_Ratio => k_is)
    (case a6 => k_is)
    (case i6 => k_is)
    (case l6 => k_is)
    (case c6 => k_is)
    (case k6 => k_is)
    (case a7 => k_is)
    (case i7 => k_is)
    (case l7 => k_is)
    (case c7 => k_is)
    (case k7 => k_is)
    (case a8 => k_is)
    (case i8 => k_is)
    (case l8 => k_is)
    (case c8 => k_is)
    (case k8 => k_is)
    (case a9 => k_is)
    (case i9 => k_is)
    (case l9 => k_is)
    (case c9 => k_is)
    (case k9 => k_is)
    (case a10 => k_is)
    (case l10 => k_is)
    (case c10 => k_is)
    (case k10 => k_is)
    (case a11 => k_is)
    (case l11 => k_is)
    (case c11 => k_is)
    (case k11 => k_is)
    (case a12 => k_is)
    (case l12 => k_is)
    (case c12 => k_is)
    (case k12 => k_is)
    (case a13 => k_is)
    (case l13 => k_is)
    (case c13 => k_is)
    (case k13 => k_is)
    (case a14 => k_is)
    (case l14 => k_is)
    (case c14 => k_is)
    (case k14 => k_is)
    (case a15 => k_is)
    (case l15 => k_is)
    (case c15 => k_is)
    (case k15 => k_is)
    (case a16 => k_is)
    (case l16 => k_is)
    (case c16 => k_is)
    (case k16 => k_is)
    (case a17 => k_is)
    (case i17 => k_is)
    (case l17 => k_is)
    (case c17 => k_is)
    (case k17 => k_is)
    (case lT17 => k_is)
    (case vT17 => exact ⟨[_], _, rfl, .cons rfl .nil⟩)
    (case lE_bits => k_is)
    (case vE_bits => exact ⟨_, _, rfl, rfl, by decide, .cons ⟨_, rfl⟩ (.cons ⟨_, rfl⟩ (.cons ⟨_, rfl⟩ (.cons ⟨_, rfl⟩ (.cons ⟨_, rfl⟩ (.cons ⟨_, rfl⟩ (.nil))))))⟩)
    (case mk_Wedge => k_is)
    (case kc_Wedge => k_is)
    (case a18 => k_is)
    (case i18 => k_is)
    (case l18 => k_is)
    (case c18 => k_is)
    (case k18 => k_is)
    (case a19 => k_is)
    (case i19 => k_is)
    (case l19 => k_is)
    (case c19 => k_is)
    (case k19 => k_is)
    (case a20 => k_is)
    (case i20 => k_is)
    (case l20 => k_is)
    (case c20 => k_is)
    (case k20 => k_is)
    (case a21 => k_is)
    (case pg21 => k_is)
    (case pt21 => k_is)
    (case i21 => k_is)
    (case l21 => k_is)
    (case c21 => k_is)
    (case k21 => k_is)
    (case a22 => k_is)
    (case pg22 => k_is)
    (case pt22 => k_is)
    (case i22 => k_is)
    (case l22 => k_is)
    (case c22 => k_is)
    (case k22 => k_is)
    (case a23 => k_is)
    (case pg23 => k_is)
    (case pt23 => k_is)
    (case i23 => k_is)
    (case l23 => k_is)
    (case c23 => k_is)
    (case k23 => k_is)
    (case a24 => k_is)
    (case i24 => k_is)
    (case l24 => k_is)
    (case c24 => k_is)
    (case k24 => k_is)
    (case a25 => k_is)
    (case i25 => k_is)
    (case l25 => k_is)
    (case c25 => k_is)
    (case k25 => k_is)
    (case a26 => k_is)
    (case i26 => k_is)
    (case l26 => k_is)
    (case c26 => k_is)
    (case k26 => k_is)
    (case a27 => k_is)
    (case i27 => k_is)
    (case l27 => k_is)
    (case c27 => k_is)
    (case k27 => k_is)
    (case a28 => k_is)
    (case i28 => k_is)
    (case l28 => k_is)
    (case c28 => k_is)
    (case k28 => k_is)
    (case a29 => k_is)
    (case i29 => k_is)
    (case l29 => k_is)
    (case c29 => k_is)
    (case k29 => k_is)
    (case a30 => k_is)
    (case l30 => k_is)
    (case c30 => k_is)
    (case k30 => k_is)
    (case a31 => k_is)
    (case l31 => k_is)
    (case c31 => k_is)
    (case k31 => k_is)
    (case a32 => k_is)
    (case l32 => k_is)
    (case c32 => k_is)
    (case k32 => k_is)
    (case a33 => k_is)
    (case l33 => k_is)
    (case c33 => k_is)
    (case k33 => k_is)
    (case a34 => k_is)
    (case l34 => k_is)
    (case c34 => k_is)
    (case k34 => k_is)
    (case a35 => k_is)
    (case l35 => k_is)
    (case c35 => k_is)
    (case k35 => k_is)
    (case a36 => k_is)
    (case l36 => k_is)
    (case c36 => k_is)
    (case k36 => k_is)
    (case a37 => k_is)
    (case l37 => k_is)
    (case c37 => k_is)
    (case k37 => k_is)
    (case a38 => k_is)
    (case l38 => k_is)
    (case c38 => k_is)
    (case k38 => k_is)
    (case a39 => k_is)
    (case l39 => k_is)
    (case c39 => k_is)
    (case k39 => k_is)
    (case a40 => k_is)
    (case l40 => k_is)
    (case c40 => k_is)
    (case k40 => k_is)
    (case a41 => k_is)
    (case l41 => k_is)
    (case c41 => k_is)
    (case k41 => k_is)
    (case a42 => k_is)
    (case l42 => k_is)
    (case c42 => k_is)
    (case k42 => k_is)
    (case a43 => k_is)
    (case l43 => k_is)
    (case c43 => k_is)
    (case k43 => k_is)
    (case a44 => k_is)
    (case l44 => k_is)
    (case c44 => k_is)
    (case k44 => k_is)
    (case a45 => k_is)
    (case l45 => k_is)
    (case c45 => k_is)
    (case k45 => k_is)
    (case a46 => k_is)
    (case l46 => k_is)
    (case c46 => k_is)
    (case k46 => k_is)
    (case a47 => k_is)
    (case l47 => k_is)
    (case c47 => k_is)
    (case k47 => k_is)
    (case a48 => k_is)
    (case l48 => k_is)
    (case c48 => k_is)
    (case k48 => k_is)
    (case a49 => k_is)
    (case l49 => k_is)
    (case c49 => k_is)
    (case k49 => k_is)
    (case a50 => k_is)
    (case l50 => k_is)
    (case c50 => k_is)
    (case k50 => k_is)
    (case a51 => k_is)
    (case l51 => k_is)
    (case c51 => k_is)
    (case k51 => k_is)
    (case a52 => k_is)
    (case l52 => k_is)
    (case c52 => k_is)
    (case k52 => k_is)
    (case a53 => k_is)
    (case l53 => k_is)
    (case c53 => k_is)
    (case k53 => k_is)
    (case a54 => k_is)
    (case l54 => k_is)
    (case c54 => k_is)
    (case k54 => k_is)
    (case a55 => k_is)
    (case l55 => k_is)
    (case c55 => k_is)
    (case k55 => k_is)
    (case a56 => k_is)
    (case l56 => k_is)
    (case c56 => k_is)
    (case k56 => k_is)
    (case a57 => k_is)
    (case l57 => k_is)
    (case c57 => k_is)
    (case k57 => k_is)
    (case a58 => k_is)
    (case l58 => k_is)
    (case c58 => k_is)
    (case k58 => k_is)
    (case a59 => k_is)
    (case l59 => k_is)
    (case c59 => k_is)
    (case k59 => k_is)
    (case a60 => k_is)
    (case l60 => k_is)
    (case c60 => k_is)
    (case k60 => k_is)
    (case a61 => k_is)
    (case l61 => k_is)
    (case c61 => k_is)
    (case k61 => k_is)
    (case a62 => k_is)
    (case l62 => k_is)
    (case c62 => k_is)
    (case k62 => k_is)
    (case a63 => k_is)
    (case l63 => k_is)
    (case c63 => k_is)
    (case k63 => k_is)
    (case h_sfR => first | rfl | k_is)
    (case h_sfW => first | rfl | k_is)
    (case h_sI => first | rfl | k_is)
    (case h_sC => first | rfl | k_is)
    (case h_iM => k_is)
    (case h_iR => k_is)
