import PyProof.Rows.All
import Wide.All
import OpenK.AllK
import Wide.FinOn
import HandS.ForMost
import HandS.OwnEq
import HandS.SlotsOwn
import KE.KOpsOwn
import PyProof.ListMulAny
import PyProof.ConsumeWalk
import PyProof.WalksMore
import HandS.IsInst
import HandS.Wide
import HandS.Zip
import HandS.Defaults
import HandS.Walk
import KE.BitLaws
import KE.KCallOwn
import HandS.ClsMeth
import HandS.MakeKwOnly
import PyProof.InstEq
import KE.KFmtOwn
import HandS.List
import PyProof.WalkInts
import HandS.RevRange
import HandS.Conv
import HandS.Gcd
import HandS.Property
import HandS.WideBits
import HandS.Iter
import KE.GoesEnum
import KE.GoesZip
import HandS.FStr
import HandS.SortRule
import HandS.Style
import HandS.Deep
import PySem.Challenge.RW_turnsleft_k04_lists_of_ratios_and_tones
set_option Elab.async false
set_option linter.all false
set_option maxRecDepth 100000
namespace TL
open PySem PySem.Spec PyProof.Rows L2
section
variable {X : Cx} {pins : List (Addr × Obj)} {σ : L2.St} {H : Hp} {s : Shared} {a b C dx dy f : Addr} {fs gs : List (Str × V)} {k : Nat} {fd : FuncData} {ps : List Str} {sp : Sp} {CX : CXT} {E : XK}
theorem inst_at (I : Inv X pins σ H s) (h : H a = some (.ins C dx fs)) : ∃ od, PySem.W.InstAt s.heap a (PySem.W.instObj C dx) C (some od) := by
  obtain ⟨mA, J, _⟩ := ins_get I.hok h
  obtain ⟨od, J, _⟩ := J.look
  exact ⟨od, J⟩
/-- what an own operator's def asks: the def that stands at f in the class at C under a name -/
structure OpAt (K : PySem.W.Frag) (C f : Addr) (name : Str) : Prop where
  sf : PySem.W.selfFirst K C = true
  at_ : PySem.W.findIn K (.ref C) name = some (some (.ref f))
  fn : PySem.W.isFn K (.ref f) = true
/-- x op y, both instances of the class at C -/
def rOw (C : Addr) (sp : Sp) (E : XK) : R2 := fun x y H Q => ∃ a dx fs b dy gs, x = .ref a ∧ y = .ref b ∧ H a = some (.ins C dx fs) ∧ H b = some (.ins C dy gs) ∧ sp [x, y] H Q E
theorem cb {P : Value → Shared → Prop} {z : V} {v : Value} {s' : Shared} (r : RelV z v) (h : P v s') : PySem.W.CmpBack P v s' := by
  cases z with
  | non => cases (show v = Value.none from r); exact h
  | bl b => cases (show v = Value.bool b from r); exact h
  | int i => obtain ⟨t, e⟩ := (show ∃ t, v = Value.int i t from r); cases e; exact h
  | str x => obtain ⟨t, e⟩ := (show ∃ t, v = Value.str x t from r); cases e; exact h
  | byt b => obtain ⟨t, e⟩ := (show ∃ t, v = Value.bytes b t from r); cases e; exact h
  | flt b => obtain ⟨t, e⟩ := (show ∃ t, v = Value.float b t from r); cases e; exact h
  | ref a => cases (show v = Value.ref a from r); exact h
  | ty n => cases (show v = Value.type n from r); exact h
theorem op_ow {op : Operator} (o : OpAt X.K C f (PySem.dunder op.info.2)) (F : FnOk X.prog X.w X.K X.mg X.base CX k f fd ps sp) (hr : Room k X.A) (hb : Binds X.K fd ps []) (hx : Passes CX X E) : OpR X (binaryOp op) (rOw C sp E) := by
  intro pins s σ H x y v u Q I rx ry h
  obtain ⟨a, dx, fs, b, dy, gs, rfl, rfl, ha, hb', q⟩ := h
  cases (show v = Value.ref a from rx)
  cases (show u = Value.ref b from ry)
  obtain ⟨od, J⟩ := inst_at I ha
  obtain ⟨od', J'⟩ := inst_at I hb'
  obtain ⟨m, hF⟩ := I.fr
  refine PySem.W.binop_K hF I.ok.mod.kin J J'.type o.sf o.at_ o.fn ?_
  refine wpAny_mono (run_fn (us := [.ref a, .ref b]) (vs := [.ref a, .ref b]) F hr hb .nil hx I (.cons rfl (.cons rfl .nil)) q) (fun w s' z => ?_) fun _ _ x => x
  obtain ⟨z', H', I', rz, qz⟩ := z
  exact cb rz ⟨z', H', I', rz, qz⟩
/-- x op n, x an instance of the class at C, n a whole number -/
def rOwI (C : Addr) (sp : Sp) (E : XK) : R2 := fun x y H Q => ∃ a dx fs n, x = .ref a ∧ y = .int n ∧ H a = some (.ins C dx fs) ∧ sp [x, y] H Q E
theorem op_owI {op : Operator} {g : Addr} {fo ro : Option Value} (o : OpAt X.K C f (PySem.dunder op.info.2)) (hr1 : PySem.W.findIn X.K (.ref C) (PySem.dunderR op.info.2) = some (some (.ref g)))
    (h1 : PySem.W.findIn X.K (.type "int") (PySem.dunder op.info.2) = some fo) (h2 : PySem.W.findIn X.K (.type "int") (PySem.dunderR op.info.2) = some ro) (hsub : PySem.W.subIn X.K (.type "int") (.ref C) = some false)
    (F : FnOk X.prog X.w X.K X.mg X.base CX k f fd ps sp) (hr : Room k X.A) (hb : Binds X.K fd ps []) (hx : Passes CX X E) : OpR X (binaryOp op) (rOwI C sp E) := by
  intro pins s σ H x y v u Q I rx ry h
  obtain ⟨a, dx, fs, n, rfl, rfl, ha, q⟩ := h
  cases (show v = Value.ref a from rx)
  obtain ⟨t, rfl⟩ := (show ∃ t, u = Value.int n t from ry)
  obtain ⟨od, J⟩ := inst_at I ha
  obtain ⟨m, hF⟩ := I.fr
  refine PySem.W.ksp_binT (T := "int") hF I.ok.mod.kin J rfl o.sf o.at_ o.fn hr1 (.inr ⟨_, rfl⟩) h1 h2 hsub ?_
  refine wpAny_mono (run_fn (us := [.ref a, .int n t]) (vs := [.ref a, .int n]) F hr hb .nil hx I (.cons rfl (.cons ⟨_, rfl⟩ .nil)) q) (fun w s' z => ?_) fun _ _ x => x
  obtain ⟨z', H', I', rz, qz⟩ := z
  exact cb rz ⟨z', H', I', rz, qz⟩
/-- -x -/
def rNeg (C : Addr) (sp : Sp) (E : XK) : V → Hp → VK → Prop := fun x H Q => ∃ a dx fs, x = .ref a ∧ H a = some (.ins C dx fs) ∧ sp [x] H Q E
theorem un_ow (at_ : PySem.W.findIn X.K (.ref C) "__neg__" = some (some (.ref f))) (fn : PySem.W.isFn X.K (.ref f) = true) (F : FnOk X.prog X.w X.K X.mg X.base CX k f fd ps sp) (hr : Room k X.A) (hb : Binds X.K fd ps []) (hx : Passes CX X E) :
    UnR X (unaryOp .USub) (rNeg C sp E) := by
  intro pins s σ H x v Q I rx h
  obtain ⟨a, dx, fs, rfl, ha, q⟩ := h
  cases (show v = Value.ref a from rx)
  obtain ⟨od, J⟩ := inst_at I ha
  obtain ⟨m, hF⟩ := I.fr
  refine PySem.W.ksp_neg hF I.ok.mod.kin J at_ fn ?_
  exact run_fn (us := [.ref a]) (vs := [.ref a]) F hr hb .nil hx I (.cons rfl .nil) q
/-- x == y, both instances of the class at C -/
theorem op_owEq (at_ : PySem.W.findIn X.K (.ref C) "__eq__" = some (some (.ref f))) (fn : PySem.W.isFn X.K (.ref f) = true) (F : FnOk X.prog X.w X.K X.mg X.base CX k f fd ps sp) (hr : Room k X.A) (hb : Binds X.K fd ps []) (hx : Passes CX X E) :
    OpR X (compareOp .Eq) (rOw C sp E) := by
  intro pins s σ H x y v u Q I rx ry h
  obtain ⟨a, dx, fs, b, dy, gs, rfl, rfl, ha, hb', q⟩ := h
  cases (show v = Value.ref a from rx)
  cases (show u = Value.ref b from ry)
  obtain ⟨od, J⟩ := inst_at I ha
  obtain ⟨od', J'⟩ := inst_at I hb'
  obtain ⟨m, hF⟩ := I.fr
  refine PySem.W.cmp_K (op := .Eq) (tb := .ref C) hr.units0 hF I.ok.mod.kin J J'.type (by simp [PySem.W.notFirst]) at_ fn ?_
  refine wpAny_mono (run_fn (us := [.ref a, .ref b]) (vs := [.ref a, .ref b]) F hr hb .nil hx I (.cons rfl (.cons rfl .nil)) q) (fun w s' z => ?_) fun _ _ x => x
  obtain ⟨z', H', I', rz, qz⟩ := z
  exact cb rz ⟨z', H', I', rz, qz⟩
/-- any(t), t a tuple of whole numbers -/
theorem iter_anyT {prog : Program} {w : World} {A : Around} {E : Value → Shared → Prop} {s : Shared} {l : Addr} {items : Array Value} {Q : Value → Shared → Prop} (hl : s.heap.IsTuple l items)
    (h : ∀ s₂ : Shared, s₂ = { s with heap := s.heap.push { cls := .type "tuple_iterator", data := .fields #[.ref l, .int 0 0] } } →
      (s₂.heap.IsTupleIter s.heap.objs.size l 0 ∧ s₂.heap.IsTuple l items) → l ≠ s.heap.objs.size → Q (.ref s.heap.objs.size) s₂) : wpAny (model prog w) A (pyIter (.ref l)) Q E s := by
  have hlt : l < s.heap.objs.size := by obtain ⟨_, e, _⟩ := hl; exact Heap.lt_size e
  exact wpAny_pyIter_tuple hl (h _ rfl ⟨⟨_, Heap.get?_push_size _ rfl, rfl, rfl⟩, hl.push _⟩ (Nat.ne_of_lt hlt))
theorem truth_ints {prog : Program} {w : World} {A : Around} {ns : List Int} {its : List Value} (e : Vals (ns.map V.int) its) :
    TruthOf prog w A (fun i v => its.toArray[i]? = some v) (fun i => ns.getD i 0 != 0) := fun i v s Q E hv hq => by
  have hv' : its[i]? = some v := by simpa using hv
  have hl := e.length
  rw [List.length_map] at hl
  have hi : i < its.length := (List.getElem?_eq_some_iff.mp hv').1
  have hi2 : i < ns.length := by omega
  obtain ⟨u, hu, ru⟩ := e.get (i := i) (x := V.int ns[i]) (by rw [List.getElem?_map, List.getElem?_eq_getElem hi2]; rfl)
  rw [hv'] at hu
  cases hu
  obtain ⟨t, rfl⟩ := ru
  have hg : ns.getD i 0 = ns[i] := by rw [List.getD_eq_getElem?_getD, List.getElem?_eq_getElem hi2]; rfl
  have hq' : Q (ns.getD i 0 != 0) s := hq
  rw [hg] at hq'
  exact PyProof.Rows.truthy_int hq'
theorem any_rangeI : ∀ ns : List Int, (List.range ns.length).any (fun i => ns.getD i 0 != 0) = ns.any (fun n => n != 0)
  | [] => rfl
  | b :: bs => by
    rw [List.length_cons, List.range_succ_eq_map, List.any_cons, List.any_map, List.any_cons, ← any_rangeI bs]
    all_goals rfl
def rAnyT (K : PySem.W.Frag) : List V → Hp → VK → Prop := fun vs H Q => ∃ (a : Addr) (ns : List Int), vs = [V.ref a] ∧ SqT K H a (ns.map V.int) ∧ Q (.bl (ns.any fun n => n != 0)) H
theorem cr_anyT (hc : X.calm = true) : CallR X (.builtin "any") (rAnyT X.K) := by
  intro pins s σ H vs us Q I r h
  obtain ⟨a, ns, rfl, hs, q⟩ := h
  obtain ⟨its, rv, hl, _⟩ := I.tuple hs
  rw [Vals.ref1 r]
  have hlen := rv.length
  rw [List.length_map] at hlen
  refine call_any_walk (iter_anyT (items := its.toArray) (show s.heap.IsTuple a its.toArray from hl) fun s₂ e2 st hne => ?_)
  subst e2
  refine ⟨_, _, _, _, _, _, _, rfl, Walks.tuple (A := X.A.in1) (I.ok.hd hc) _ a hne its.toArray, st, truth_ints rv, fun h' tk hk => ?_⟩
  refine ⟨.bl _, H, I.kept fun b o eo => hk b o (fun hmem => ?_) (Heap.get?_push_of_some _ eo), ?_, q⟩
  · rcases List.mem_cons.mp hmem with e1 | hmem
    · exact absurd (e1 ▸ Heap.lt_size eo) (Nat.lt_irrefl _)
    · cases hmem
  · show Value.bool _ = Value.bool _
    rw [← any_rangeI, List.size_toArray, ← hlen]
/-- bool(x), x an instance with its own __bool__ -/
theorem truthy_X {M : Model} {A : Around} {E' : Value → Shared → Prop} {s : Shared} {K : PySem.W.Frag} {x C f : Addr} {ox : Obj} {od : Option Obj} {Q : Bool → Shared → Prop} (X₀ : K.In s.heap) (I : PySem.W.InstAt s.heap x ox C od) (hs : PySem.W.findIn K (.ref C) "__bool__" = some (some (.ref f))) (hf : PySem.W.isFn K (.ref f) = true)
    (h : wpAny M A (call (.ref f) [.ref x]) (fun r s' => ∃ b, r = Value.bool b ∧ Q b s') E' s) : wpAny M A (truthy (.ref x)) Q E' s := by
  unfold truthy
  refine wpAny_bind (m := callSpecial? (.ref x) (Str.ofString "__bool__")) (PySem.W.special_fn X₀ I hs (beq_iff_eq.mp hf) (wpAny_mono h (fun r s' hr => ?_) fun _ _ y => y))
  obtain ⟨b, rfl, hr⟩ := hr
  exact wpAny_pure hr
theorem bool_own {prog : Program} {w : World} {A : Around} {E' : Value → Shared → Prop} {s : Shared} {K : PySem.W.Frag} {x C f : Addr} {ox : Obj} {od : Option Obj} {Q : Value → Shared → Prop} (X₀ : K.In s.heap) (I : PySem.W.InstAt s.heap x ox C od) (hs : PySem.W.findIn K (.ref C) "__bool__" = some (some (.ref f))) (hf : PySem.W.isFn K (.ref f) = true)
    (h : wpAny (model prog w) A.in1.in1 (call (.ref f) [.ref x]) (fun r s' => ∃ b, r = Value.bool b ∧ Q r s') E' s) : wpAny (model prog w) A (call (.type "bool") [.ref x]) Q E' s := by
  refine callType_codes (T := "bool") (Bi := Builtin.«object.__init__») (Q₁ := fun r s₁ => ∃ b, r = Value.bool b ∧ Q r s₁) PySem.F.called_bool (PySem.F.typeCall_bool_1 _) PySem.F.entry_object_init ?_ ?_
  · refine codeAny_of_tree ?_
    show wpAny _ A.in1.in1 (do checkBuiltinCall "bool.__new__" ⟨[.type "bool", .ref x], []⟩; again (.builtin "bool.__new__" ⟨[.type "bool", .ref x], []⟩)) _ _ s
    refine wpAny_bind (wpAny_of_eq (PySem.F.newCall_bool_1 _) (wpAny_pure ⟨plainId_quiet (by decide +kernel) _, codeAny_builtin PySem.F.entry_bool_new ?_⟩))
    rw [Around.under_plainId (by decide +kernel) _]
    unfold Builtin.«bool.__new__»
    refine wpAny_bind (wpAny_of_eq (a := true) rfl ?_)
    refine PySem.W.KFB.if_not rfl ?_
    refine wpAny_bind (wpAny_of_eq (a := true) PySem.F.conv_sub_bool ?_)
    refine PySem.W.KFB.if_not rfl ?_
    refine wpAny_bind (wpAny_of_eq (a := [Value.ref x]) rfl ?_)
    refine wpAny_bind (truthy_X X₀ I hs hf (wpAny_mono h (fun r s₁ hr => ?_) fun _ _ y => y))
    obtain ⟨b, rfl, hq⟩ := hr
    exact ⟨b, rfl, wpAny_pure ⟨b, rfl, hq⟩⟩
  · rintro obj s₁ ⟨b, rfl, hq⟩
    exact ⟨PySem.typeIs_bool _ _, PySem.F.args_object_init_2 _ _, object_init_meets PySem.F.called_bool.init.lookup PySem.F.called_bool.made (by decide) prog w A.in1 _ s₁ ⟨PySem.typeIs_bool _ _, rfl, hq⟩⟩
def rBoolOw (C : Addr) (sp : Sp) (E : XK) : List V → Hp → VK → Prop := fun vs H Q => ∃ a dx fs, vs = [.ref a] ∧ H a = some (.ins C dx fs) ∧ sp [.ref a] H (fun v H' => ∃ b, v = .bl b ∧ Q v H') E
theorem run_at2 {A : Around} {Q : VK} {us : List Value} {ws : List V} (F : FnOk X.prog X.w X.K X.mg X.base CX k f fd ps sp) (hr : Room k A) (e0 : Env0 X.prog X.w X.K X.mg X.base A X.stack s H) (hb : Binds X.K fd ps []) (hx : Passes CX X E) (I : Inv X pins σ H s) (r : Vals ws us) (h : sp ws H Q E) :
    wpAny (model X.prog X.w) A (call (.ref f) us) (EP X pins σ Q) X.xe s := by
  have hl : us.length = ps.length := by rw [← r.length]; exact F.len _ _ _ _ h
  refine wpAny_call (codeAny_mono (F.run A X.stack s H ⟨us, []⟩ us ws Q E hr e0 (by have := hb s us I.kIn (by simpa using hl); simpa using this) r h) fun r s' hq => ?_)
  cases r with
  | error e => exact hx pins σ H s e s' I hq
  | ok fl =>
    cases fl with
    | ret u => exact I.after hq
    | next => exact False.elim hq
    | brk => exact False.elim hq
    | cont => exact False.elim hq
theorem call_boolOw (at_ : PySem.W.findIn X.K (.ref C) "__bool__" = some (some (.ref f))) (fn : PySem.W.isFn X.K (.ref f) = true) (F : FnOk X.prog X.w X.K X.mg X.base CX k f fd ps sp) (hr : Room (k + 2) X.A) (hb : Binds X.K fd ps []) (hx : Passes CX X E) :
    CallR X (.type "bool") (rBoolOw C sp E) := by
  intro pins s σ H vs us Q I r h
  obtain ⟨a, dx, fs, rfl, ha, q⟩ := h
  obtain rfl := Vals.ref1 r
  obtain ⟨od, J⟩ := inst_at I ha
  have hr2 : Room k X.A.in1.in1 := (show Room (k + 1) X.A.in1 from Room.in1 hr).in1
  refine bool_own I.kIn J at_ fn (wpAny_mono (run_at2 (us := [.ref a]) (ws := [.ref a]) F hr2 I.env0.in1.in1 hb hx I (.cons rfl .nil) q) (fun w s' z => ?_) fun _ _ x => x)
  obtain ⟨z', H', I', rz, b, rfl, qz⟩ := z
  cases (show w = Value.bool b from rz)
  exact ⟨b, rfl, .bl b, H', I', rfl, qz⟩
/-- n op x, n a whole number, x an instance of the class at C with the reflected def -/
theorem int_mul_ref (a : Int) (t : Tok) (x C dx : Addr) :
    Meets (Builtin.«int.__mul__» ⟨[.int a t, .ref x], []⟩) (fun _ R s => (∃ od, s.heap.get? x = some (PySem.W.instObj C dx) ∧ od = dx) ∧ R (.ok (.ret Value.notImplemented)) s) :=
  .of_wp fun prog w A R s h => by obtain ⟨hp, g, d, tk, os⟩ := s; obtain ⟨⟨_, hl, _⟩, h⟩ := h; wp_walk; exact ⟨_, rfl, h⟩
def rIOw (C : Addr) (sp : Sp) (E : XK) : R2 := fun x y H Q => ∃ a dx fs n, x = .int n ∧ y = .ref a ∧ H a = some (.ins C dx fs) ∧ sp [y, x] H Q E
set_option maxHeartbeats 2000000 in
theorem binR {prog : Program} {w : World} {A : Around} {E' : Value → Shared → Prop} {s : Shared} {K : PySem.W.Frag} {x C f g : Addr} {dx : Addr} {od : Option Obj} {n : Int} {t : Tok} {Q : Value → Shared → Prop}
    (X : K.In s.heap) (I : PySem.W.InstAt s.heap x (PySem.W.instObj C dx) C od) (hc : PySem.W.selfFirst K C = true) (hs : PySem.W.findIn K (.ref C) (PySem.dunder "mul") = some (some (.ref g)))
    (hr : PySem.W.findIn K (.ref C) (PySem.dunderR "mul") = some (some (.ref f))) (hf : PySem.W.isFn K (.ref f) = true) (hsub : PySem.W.subIn K (.ref C) (.type "int") = some false) (hx : s.heap.get? x = some (PySem.W.instObj C dx))
    (h : wpAny (model prog w) A (call (.ref f) [.ref x, .int n t]) (PySem.W.CmpBack Q) E' s) : wpAny (model prog w) A (binaryOp .Mult (.int n t) (.ref x)) Q E' s := by
  obtain ⟨cd, rest, hcd, hm⟩ := PySem.W.ksp_first hc
  have one := PySem.W.ksp_try (name := PySem.dunderR "mul") X I hr hf h
  obtain ⟨hh, gg, d, tt, os⟩ := s
  have L1 : PySem.W.Looks (model prog w) hh (typeOf (.ref x)) (.ref C) := I.type
  have L2 : PySem.W.Looks (model prog w) hh (typeOf (.int n t)) (.type "int") := PySem.W.Looks.of_pure rfl
  have L3 : PySem.W.Looks (model prog w) hh (fillsNumberSlot (.ref C) "mul") true := PySem.W.fills_K (nm := "mul") X hcd hm hs
  have L4 : PySem.W.Looks (model prog w) hh (fillsNumberSlot (.type "int") "mul") true := PySem.W.Looks.of_pure PySem.F.fills_int_mul
  have L5 : PySem.W.Looks (model prog w) hh (isSubtype (.ref C) (.type "int")) false := PySem.W.looks_subIn X hsub
  have L7 : PySem.W.Looks (model prog w) hh (numberSlotInPython (.type "int") "mul") false := PySem.W.Looks.of_pure rfl
  have hne : (Value.type "int" == Value.ref C) = false := Bool.eq_false_iff.mpr fun q => by cases beq_iff_eq.mp q
  show wpAny _ _ (binaryOp .Mult (.int n t) (.ref x)) _ _ _
  simp only [binaryOp, Operator.info]
  refine wpAny_holding (wpAny_bind ?_)
  unfold binaryOp1
  refine wpAny_bind (L2.at (wpAny_bind (L1.at (wpAny_bind (L4.at ?_)))))
  simp only [hne, Bool.false_eq_true, if_false]
  refine wpAny_bind (L3.at ?_)
  simp only [Bool.and_self, if_true]
  refine wpAny_bind (L5.at ?_)
  simp only [Bool.false_eq_true, if_false, Bool.not_false, Bool.and_self, if_true, pure_bind]
  refine wpAny_bind (L7.at ?_)
  simp only [Bool.false_eq_true, if_false, pure_bind]
  refine wpAny_bind (wpAny_tryMethod_declines (PySem.typeIs_int _ n t) PySem.F.slot_int_mul (call_meets PySem.F.slot_int_mul (PySem.typeIs_int _ n t) PySem.F.entry_int_mul (PySem.F.args_int_mul_2 _ _) (int_mul_ref n t x C dx) ⟨⟨dx, hx, rfl⟩, rfl, ?_⟩))
  simp only [Bool.false_eq_true, if_false, pure_bind]
  refine wpAny_bind (wpAny_mono one (fun r s' hr' => ?_) fun _ _ e => e)
  obtain ⟨v, rfl, hq⟩ := hr'
  exact wpAny_bind (wpAny_rule (wpAny_pure (wpAny_pure hq)))
theorem op_IOw (o : OpAt X.K C f (PySem.dunderR "mul")) {g : Addr} (hm : PySem.W.findIn X.K (.ref C) (PySem.dunder "mul") = some (some (.ref g))) (hsub : PySem.W.subIn X.K (.ref C) (.type "int") = some false)
    (F : FnOk X.prog X.w X.K X.mg X.base CX k f fd ps sp) (hr : Room k X.A) (hb : Binds X.K fd ps []) (hx : Passes CX X E) : OpR X (binaryOp .Mult) (rIOw C sp E) := by
  intro pins s σ H x y v u Q I rx ry h
  obtain ⟨a, dx, fs, n, rfl, rfl, ha, q⟩ := h
  obtain ⟨t, rfl⟩ := (show ∃ t, v = Value.int n t from rx)
  cases (show u = Value.ref a from ry)
  obtain ⟨mA, O, _⟩ := ins_get I.hok ha
  obtain ⟨od, J, _⟩ := O.look
  refine binR I.kIn J o.sf hm o.at_ o.fn hsub O.obj ?_
  refine wpAny_mono (run_fn (us := [.ref a, .int n t]) (vs := [.ref a, .int n]) F hr hb .nil hx I (.cons rfl (.cons ⟨_, rfl⟩ .nil)) q) (fun w s' z => ?_) fun _ _ x => x
  obtain ⟨z', H', I', rz, qz⟩ := z
  exact cb rz ⟨z', H', I', rz, qz⟩
end
theorem d_add : PySem.dunder Operator.Add.info.2 = ("__add__" : Str) := by decide +kernel
theorem d_sub : PySem.dunder Operator.Sub.info.2 = ("__sub__" : Str) := by decide +kernel
theorem d_mul : PySem.dunder Operator.Mult.info.2 = ("__mul__" : Str) := by decide +kernel
theorem d_mul' : PySem.dunder "mul" = ("__mul__" : Str) := by decide +kernel
theorem d_rmul : PySem.dunderR Operator.Mult.info.2 = ("__rmul__" : Str) := by decide +kernel
theorem d_rmul' : PySem.dunderR "mul" = ("__rmul__" : Str) := by decide +kernel
end TL
namespace TL
open PySem L2
/-! ### heaps -/
theorem Same.new {H : Hp} {p : Addr} {o : HO} (h : H p = none) : Same H (upd H p o) := fun b u q => by rw [upd_ne (ne_of_none q h)]; exact q
theorem seqT {K : PySem.W.Frag} {H H' : Hp} {a : Addr} {xs : List V} (e : Same H H') (h : SqT K H a xs) : SqT K H' a xs := by
  rcases h with (h | ⟨o, h⟩) | h
  · exact .inl (.inl (e _ _ h))
  · exact .inl (.inr ⟨o, e _ _ h⟩)
  · exact .inr h
/-- but for what stands at g, all that was tracked is as it was -/
def Kb (g : Addr) (H H' : Hp) : Prop := ∀ a o, H a = some o → a ≠ g → H' a = some o
theorem Kb.refl (g : Addr) (H : Hp) : Kb g H H := fun _ _ h _ => h
theorem Kb.trans {g : Addr} {H H1 H2 : Hp} (a : Kb g H H1) (b : Kb g H1 H2) : Kb g H H2 := fun c o h n => b c o (a c o h n) n
theorem Kb.same {g : Addr} {H H' : Hp} (a : Same H H') : Kb g H H' := fun c o h _ => a c o h
theorem Kb.at {g : Addr} {H : Hp} {o : HO} : Kb g H (upd H g o) := fun c u h n => by rw [upd_ne n]; exact h
theorem Kb.new {g p : Addr} {H H' : Hp} {o : HO} (a : Kb g H H') (h : H' p = none) : Kb g H (upd H' p o) := a.trans (Kb.same (Same.new h))
theorem tyx_L {K : PySem.W.Frag} {H : Hp} {a : Addr} {xs : List V} (h : SqL K H a xs) : TyX K H (.ref a) (.type "list") := by
  rcases h with (h | ⟨o, h⟩) | ⟨o, its, n, h, c, _⟩
  · exact .base (.lst h)
  · exact .base (.frz h)
  · exact .kList h c
theorem tyx_T {K : PySem.W.Frag} {H : Hp} {a : Addr} {xs : List V} (h : SqT K H a xs) : TyX K H (.ref a) (.type "tuple") := by
  rcases h with (h | ⟨o, h⟩) | ⟨o, its, n, h, c, _⟩
  · exact .base (.tup h)
  · exact .fTuple h
  · exact .kTuple h c
theorem fm {i j : Int} (h : 0 < j) : 0 ≤ i.fmod j ∧ i.fmod j < j := ⟨Int.fmod_nonneg_of_pos _ h, Int.fmod_lt_of_pos _ h⟩
theorem kt_int_list {K : PySem.W.Frag} : PySem.W.kitOne K (.type "int") (.type "list") = some false := kit_ty (by decide +kernel)
theorem kt_int_tuple {K : PySem.W.Frag} : PySem.W.kitOne K (.type "int") (.type "tuple") = some false := kit_ty (by decide +kernel)
theorem kt_int_bool {K : PySem.W.Frag} : PySem.W.kitOne K (.type "int") (.type "bool") = some false := kit_ty (by decide +kernel)
theorem kt_int_int {K : PySem.W.Frag} : PySem.W.kitOne K (.type "int") (.type "int") = some true := kit_ty (by decide +kernel)
theorem kt_int_str {K : PySem.W.Frag} : PySem.W.kitOne K (.type "int") (.type "str") = some false := kit_ty (by decide +kernel)
theorem kt_int_dict {K : PySem.W.Frag} : PySem.W.kitOne K (.type "int") (.type "dict") = some false := kit_ty (by decide +kernel)
theorem kt_bool_list {K : PySem.W.Frag} : PySem.W.kitOne K (.type "bool") (.type "list") = some false := kit_ty (by decide +kernel)
theorem kt_bool_tuple {K : PySem.W.Frag} : PySem.W.kitOne K (.type "bool") (.type "tuple") = some false := kit_ty (by decide +kernel)
theorem kt_bool_bool {K : PySem.W.Frag} : PySem.W.kitOne K (.type "bool") (.type "bool") = some true := kit_ty (by decide +kernel)
theorem kt_bool_int {K : PySem.W.Frag} : PySem.W.kitOne K (.type "bool") (.type "int") = some true := kit_ty (by decide +kernel)
theorem kt_bool_str {K : PySem.W.Frag} : PySem.W.kitOne K (.type "bool") (.type "str") = some false := kit_ty (by decide +kernel)
theorem kt_bool_dict {K : PySem.W.Frag} : PySem.W.kitOne K (.type "bool") (.type "dict") = some false := kit_ty (by decide +kernel)
theorem kt_str_list {K : PySem.W.Frag} : PySem.W.kitOne K (.type "str") (.type "list") = some false := kit_ty (by decide +kernel)
theorem kt_str_tuple {K : PySem.W.Frag} : PySem.W.kitOne K (.type "str") (.type "tuple") = some false := kit_ty (by decide +kernel)
theorem kt_str_bool {K : PySem.W.Frag} : PySem.W.kitOne K (.type "str") (.type "bool") = some false := kit_ty (by decide +kernel)
theorem kt_str_int {K : PySem.W.Frag} : PySem.W.kitOne K (.type "str") (.type "int") = some false := kit_ty (by decide +kernel)
theorem kt_str_str {K : PySem.W.Frag} : PySem.W.kitOne K (.type "str") (.type "str") = some true := kit_ty (by decide +kernel)
theorem kt_str_dict {K : PySem.W.Frag} : PySem.W.kitOne K (.type "str") (.type "dict") = some false := kit_ty (by decide +kernel)
theorem kt_NoneType_list {K : PySem.W.Frag} : PySem.W.kitOne K (.type "NoneType") (.type "list") = some false := kit_ty (by decide +kernel)
theorem kt_NoneType_tuple {K : PySem.W.Frag} : PySem.W.kitOne K (.type "NoneType") (.type "tuple") = some false := kit_ty (by decide +kernel)
theorem kt_NoneType_bool {K : PySem.W.Frag} : PySem.W.kitOne K (.type "NoneType") (.type "bool") = some false := kit_ty (by decide +kernel)
theorem kt_NoneType_int {K : PySem.W.Frag} : PySem.W.kitOne K (.type "NoneType") (.type "int") = some false := kit_ty (by decide +kernel)
theorem kt_NoneType_str {K : PySem.W.Frag} : PySem.W.kitOne K (.type "NoneType") (.type "str") = some false := kit_ty (by decide +kernel)
theorem kt_NoneType_dict {K : PySem.W.Frag} : PySem.W.kitOne K (.type "NoneType") (.type "dict") = some false := kit_ty (by decide +kernel)
theorem kt_list_list {K : PySem.W.Frag} : PySem.W.kitOne K (.type "list") (.type "list") = some true := kit_ty (by decide +kernel)
theorem kt_list_tuple {K : PySem.W.Frag} : PySem.W.kitOne K (.type "list") (.type "tuple") = some false := kit_ty (by decide +kernel)
theorem kt_list_bool {K : PySem.W.Frag} : PySem.W.kitOne K (.type "list") (.type "bool") = some false := kit_ty (by decide +kernel)
theorem kt_list_int {K : PySem.W.Frag} : PySem.W.kitOne K (.type "list") (.type "int") = some false := kit_ty (by decide +kernel)
theorem kt_list_str {K : PySem.W.Frag} : PySem.W.kitOne K (.type "list") (.type "str") = some false := kit_ty (by decide +kernel)
theorem kt_list_dict {K : PySem.W.Frag} : PySem.W.kitOne K (.type "list") (.type "dict") = some false := kit_ty (by decide +kernel)
theorem kt_tuple_list {K : PySem.W.Frag} : PySem.W.kitOne K (.type "tuple") (.type "list") = some false := kit_ty (by decide +kernel)
theorem kt_tuple_tuple {K : PySem.W.Frag} : PySem.W.kitOne K (.type "tuple") (.type "tuple") = some true := kit_ty (by decide +kernel)
theorem kt_tuple_bool {K : PySem.W.Frag} : PySem.W.kitOne K (.type "tuple") (.type "bool") = some false := kit_ty (by decide +kernel)
theorem kt_tuple_int {K : PySem.W.Frag} : PySem.W.kitOne K (.type "tuple") (.type "int") = some false := kit_ty (by decide +kernel)
theorem kt_tuple_str {K : PySem.W.Frag} : PySem.W.kitOne K (.type "tuple") (.type "str") = some false := kit_ty (by decide +kernel)
theorem kt_tuple_dict {K : PySem.W.Frag} : PySem.W.kitOne K (.type "tuple") (.type "dict") = some false := kit_ty (by decide +kernel)
theorem rIsi_mk {K : PySem.W.Frag} {H : Hp} {Q : VK} {x c : V} {t u : Value} {b : Bool} (ty : TyX K H x t) (cl : ClsV c u) (e : PySem.W.kitOne K t u = some b) (q : Q (.bl b) H) : rIsi K [x, c] H Q := ⟨x, c, t, u, b, rfl, cl, ty, e, q⟩
theorem ri_int_list {K : PySem.W.Frag} {H : Hp} {Q : VK} {i : Int} (q : Q (.bl false) H) : rIsi K [.int i, .ty "list"] H Q := rIsi_mk (TyX.base (TyOf.int _)) (ClsV.ty _) kt_int_list q
theorem ri_int_tuple {K : PySem.W.Frag} {H : Hp} {Q : VK} {i : Int} (q : Q (.bl false) H) : rIsi K [.int i, .ty "tuple"] H Q := rIsi_mk (TyX.base (TyOf.int _)) (ClsV.ty _) kt_int_tuple q
theorem ri_int_bool {K : PySem.W.Frag} {H : Hp} {Q : VK} {i : Int} (q : Q (.bl false) H) : rIsi K [.int i, .ty "bool"] H Q := rIsi_mk (TyX.base (TyOf.int _)) (ClsV.ty _) kt_int_bool q
theorem ri_int_int {K : PySem.W.Frag} {H : Hp} {Q : VK} {i : Int} (q : Q (.bl true) H) : rIsi K [.int i, .ty "int"] H Q := rIsi_mk (TyX.base (TyOf.int _)) (ClsV.ty _) kt_int_int q
theorem ri_int_str {K : PySem.W.Frag} {H : Hp} {Q : VK} {i : Int} (q : Q (.bl false) H) : rIsi K [.int i, .ty "str"] H Q := rIsi_mk (TyX.base (TyOf.int _)) (ClsV.ty _) kt_int_str q
theorem ri_int_dict {K : PySem.W.Frag} {H : Hp} {Q : VK} {i : Int} (q : Q (.bl false) H) : rIsi K [.int i, .ty "dict"] H Q := rIsi_mk (TyX.base (TyOf.int _)) (ClsV.ty _) kt_int_dict q
theorem ri_bool_list {K : PySem.W.Frag} {H : Hp} {Q : VK} {c : Bool} (q : Q (.bl false) H) : rIsi K [.bl c, .ty "list"] H Q := rIsi_mk (TyX.base (TyOf.bl _)) (ClsV.ty _) kt_bool_list q
theorem ri_bool_tuple {K : PySem.W.Frag} {H : Hp} {Q : VK} {c : Bool} (q : Q (.bl false) H) : rIsi K [.bl c, .ty "tuple"] H Q := rIsi_mk (TyX.base (TyOf.bl _)) (ClsV.ty _) kt_bool_tuple q
theorem ri_bool_bool {K : PySem.W.Frag} {H : Hp} {Q : VK} {c : Bool} (q : Q (.bl true) H) : rIsi K [.bl c, .ty "bool"] H Q := rIsi_mk (TyX.base (TyOf.bl _)) (ClsV.ty _) kt_bool_bool q
theorem ri_bool_int {K : PySem.W.Frag} {H : Hp} {Q : VK} {c : Bool} (q : Q (.bl true) H) : rIsi K [.bl c, .ty "int"] H Q := rIsi_mk (TyX.base (TyOf.bl _)) (ClsV.ty _) kt_bool_int q
theorem ri_bool_str {K : PySem.W.Frag} {H : Hp} {Q : VK} {c : Bool} (q : Q (.bl false) H) : rIsi K [.bl c, .ty "str"] H Q := rIsi_mk (TyX.base (TyOf.bl _)) (ClsV.ty _) kt_bool_str q
theorem ri_bool_dict {K : PySem.W.Frag} {H : Hp} {Q : VK} {c : Bool} (q : Q (.bl false) H) : rIsi K [.bl c, .ty "dict"] H Q := rIsi_mk (TyX.base (TyOf.bl _)) (ClsV.ty _) kt_bool_dict q
theorem ri_str_list {K : PySem.W.Frag} {H : Hp} {Q : VK} {z : Str} (q : Q (.bl false) H) : rIsi K [.str z, .ty "list"] H Q := rIsi_mk (TyX.base (TyOf.str _)) (ClsV.ty _) kt_str_list q
theorem ri_str_tuple {K : PySem.W.Frag} {H : Hp} {Q : VK} {z : Str} (q : Q (.bl false) H) : rIsi K [.str z, .ty "tuple"] H Q := rIsi_mk (TyX.base (TyOf.str _)) (ClsV.ty _) kt_str_tuple q
theorem ri_str_bool {K : PySem.W.Frag} {H : Hp} {Q : VK} {z : Str} (q : Q (.bl false) H) : rIsi K [.str z, .ty "bool"] H Q := rIsi_mk (TyX.base (TyOf.str _)) (ClsV.ty _) kt_str_bool q
theorem ri_str_int {K : PySem.W.Frag} {H : Hp} {Q : VK} {z : Str} (q : Q (.bl false) H) : rIsi K [.str z, .ty "int"] H Q := rIsi_mk (TyX.base (TyOf.str _)) (ClsV.ty _) kt_str_int q
theorem ri_str_str {K : PySem.W.Frag} {H : Hp} {Q : VK} {z : Str} (q : Q (.bl true) H) : rIsi K [.str z, .ty "str"] H Q := rIsi_mk (TyX.base (TyOf.str _)) (ClsV.ty _) kt_str_str q
theorem ri_str_dict {K : PySem.W.Frag} {H : Hp} {Q : VK} {z : Str} (q : Q (.bl false) H) : rIsi K [.str z, .ty "dict"] H Q := rIsi_mk (TyX.base (TyOf.str _)) (ClsV.ty _) kt_str_dict q
theorem ri_NoneType_list {K : PySem.W.Frag} {H : Hp} {Q : VK}  (q : Q (.bl false) H) : rIsi K [.non, .ty "list"] H Q := rIsi_mk (TyX.base TyOf.non) (ClsV.ty _) kt_NoneType_list q
theorem ri_NoneType_tuple {K : PySem.W.Frag} {H : Hp} {Q : VK}  (q : Q (.bl false) H) : rIsi K [.non, .ty "tuple"] H Q := rIsi_mk (TyX.base TyOf.non) (ClsV.ty _) kt_NoneType_tuple q
theorem ri_NoneType_bool {K : PySem.W.Frag} {H : Hp} {Q : VK}  (q : Q (.bl false) H) : rIsi K [.non, .ty "bool"] H Q := rIsi_mk (TyX.base TyOf.non) (ClsV.ty _) kt_NoneType_bool q
theorem ri_NoneType_int {K : PySem.W.Frag} {H : Hp} {Q : VK}  (q : Q (.bl false) H) : rIsi K [.non, .ty "int"] H Q := rIsi_mk (TyX.base TyOf.non) (ClsV.ty _) kt_NoneType_int q
theorem ri_NoneType_str {K : PySem.W.Frag} {H : Hp} {Q : VK}  (q : Q (.bl false) H) : rIsi K [.non, .ty "str"] H Q := rIsi_mk (TyX.base TyOf.non) (ClsV.ty _) kt_NoneType_str q
theorem ri_NoneType_dict {K : PySem.W.Frag} {H : Hp} {Q : VK}  (q : Q (.bl false) H) : rIsi K [.non, .ty "dict"] H Q := rIsi_mk (TyX.base TyOf.non) (ClsV.ty _) kt_NoneType_dict q
theorem ri_list_list {K : PySem.W.Frag} {H : Hp} {Q : VK} {a : Addr} {xs : List V} (h : SqL K H a xs) (q : Q (.bl true) H) : rIsi K [.ref a, .ty "list"] H Q := rIsi_mk (tyx_L h) (ClsV.ty _) kt_list_list q
theorem ri_list_tuple {K : PySem.W.Frag} {H : Hp} {Q : VK} {a : Addr} {xs : List V} (h : SqL K H a xs) (q : Q (.bl false) H) : rIsi K [.ref a, .ty "tuple"] H Q := rIsi_mk (tyx_L h) (ClsV.ty _) kt_list_tuple q
theorem ri_list_bool {K : PySem.W.Frag} {H : Hp} {Q : VK} {a : Addr} {xs : List V} (h : SqL K H a xs) (q : Q (.bl false) H) : rIsi K [.ref a, .ty "bool"] H Q := rIsi_mk (tyx_L h) (ClsV.ty _) kt_list_bool q
theorem ri_list_int {K : PySem.W.Frag} {H : Hp} {Q : VK} {a : Addr} {xs : List V} (h : SqL K H a xs) (q : Q (.bl false) H) : rIsi K [.ref a, .ty "int"] H Q := rIsi_mk (tyx_L h) (ClsV.ty _) kt_list_int q
theorem ri_list_str {K : PySem.W.Frag} {H : Hp} {Q : VK} {a : Addr} {xs : List V} (h : SqL K H a xs) (q : Q (.bl false) H) : rIsi K [.ref a, .ty "str"] H Q := rIsi_mk (tyx_L h) (ClsV.ty _) kt_list_str q
theorem ri_list_dict {K : PySem.W.Frag} {H : Hp} {Q : VK} {a : Addr} {xs : List V} (h : SqL K H a xs) (q : Q (.bl false) H) : rIsi K [.ref a, .ty "dict"] H Q := rIsi_mk (tyx_L h) (ClsV.ty _) kt_list_dict q
theorem ri_tuple_list {K : PySem.W.Frag} {H : Hp} {Q : VK} {a : Addr} {xs : List V} (h : SqT K H a xs) (q : Q (.bl false) H) : rIsi K [.ref a, .ty "list"] H Q := rIsi_mk (tyx_T h) (ClsV.ty _) kt_tuple_list q
theorem ri_tuple_tuple {K : PySem.W.Frag} {H : Hp} {Q : VK} {a : Addr} {xs : List V} (h : SqT K H a xs) (q : Q (.bl true) H) : rIsi K [.ref a, .ty "tuple"] H Q := rIsi_mk (tyx_T h) (ClsV.ty _) kt_tuple_tuple q
theorem ri_tuple_bool {K : PySem.W.Frag} {H : Hp} {Q : VK} {a : Addr} {xs : List V} (h : SqT K H a xs) (q : Q (.bl false) H) : rIsi K [.ref a, .ty "bool"] H Q := rIsi_mk (tyx_T h) (ClsV.ty _) kt_tuple_bool q
theorem ri_tuple_int {K : PySem.W.Frag} {H : Hp} {Q : VK} {a : Addr} {xs : List V} (h : SqT K H a xs) (q : Q (.bl false) H) : rIsi K [.ref a, .ty "int"] H Q := rIsi_mk (tyx_T h) (ClsV.ty _) kt_tuple_int q
theorem ri_tuple_str {K : PySem.W.Frag} {H : Hp} {Q : VK} {a : Addr} {xs : List V} (h : SqT K H a xs) (q : Q (.bl false) H) : rIsi K [.ref a, .ty "str"] H Q := rIsi_mk (tyx_T h) (ClsV.ty _) kt_tuple_str q
theorem ri_tuple_dict {K : PySem.W.Frag} {H : Hp} {Q : VK} {a : Addr} {xs : List V} (h : SqT K H a xs) (q : Q (.bl false) H) : rIsi K [.ref a, .ty "dict"] H Q := rIsi_mk (tyx_T h) (ClsV.ty _) kt_tuple_dict q
def rLenSq (K : PySem.W.Frag) : List V → Hp → VK → Prop := fun xs H Q => ∃ p ys, xs = [.ref p] ∧ (SqL K H p ys ∨ SqT K H p ys) ∧ Q (.int ys.length) H
def rListOf (K : PySem.W.Frag) : List V → Hp → VK → Prop := fun xs H Q => ∃ p ys, xs = [.ref p] ∧ (SqL K H p ys ∨ SqT K H p ys) ∧ ∀ l, H l = none → Q (.ref l) (upd H l (.lst ys))
def rTupOf (K : PySem.W.Frag) : List V → Hp → VK → Prop := fun xs H Q => ∃ p ys, xs = [.ref p] ∧ ((SqL K H p ys ∧ ∀ l, H l = none → Q (.ref l) (upd H l (.tup ys))) ∨ (SqT K H p ys ∧ Q (.ref p) H))
/-- a list or a tuple -/
def Sq (K : PySem.W.Frag) (H : Hp) (a : Addr) (xs : List V) : Prop := SqL K H a xs ∨ SqT K H a xs
theorem Sq.same {K : PySem.W.Frag} {H H' : Hp} {a : Addr} {xs : List V} (h : Sq K H a xs) (s : Same H H') : Sq K H' a xs := h.elim (fun q => .inl (s.seq q)) fun q => .inr (seqT s q)
theorem seqL_ins {K : PySem.W.Frag} {H : Hp} {a p C dx : Addr} {fs : List (Str × V)} {o : HO} {xs : List V} (hp : H p = some (.ins C dx fs)) (h : SqL K H a xs) : SqL K (upd H p o) a xs := by
  rcases h with (h | ⟨u, h⟩) | h
  · exact .inl (.inl (by rw [upd_ne (ne_of h hp (by intro z; cases z))]; exact h))
  · exact .inl (.inr ⟨u, by rw [upd_ne (ne_of h hp (by intro z; cases z))]; exact h⟩)
  · exact .inr h
theorem seqT_ins {K : PySem.W.Frag} {H : Hp} {a p C dx : Addr} {fs : List (Str × V)} {o : HO} {xs : List V} (hp : H p = some (.ins C dx fs)) (h : SqT K H a xs) : SqT K (upd H p o) a xs := by
  rcases h with (h | ⟨u, h⟩) | h
  · exact .inl (.inl (by rw [upd_ne (ne_of h hp (by intro z; cases z))]; exact h))
  · exact .inl (.inr ⟨u, by rw [upd_ne (ne_of h hp (by intro z; cases z))]; exact h⟩)
  · exact .inr h
theorem Sq.ins {K : PySem.W.Frag} {H : Hp} {a p C dx : Addr} {fs : List (Str × V)} {o : HO} {xs : List V} (h : Sq K H a xs) (hp : H p = some (.ins C dx fs)) : Sq K (upd H p o) a xs := h.elim (fun q => .inl (seqL_ins hp q)) fun q => .inr (seqT_ins hp q)
/-- tuple(x) of either -/
def rTup1 (K : PySem.W.Frag) : List V → Hp → VK → Prop := fun vs H Q => ∃ p xs, vs = [.ref p] ∧ Sq K H p xs ∧ ∀ t H', Same H H' → SqT K H' t xs → Q (.ref t) H'
theorem call_tup1 {X : Cx} : CallR X (.type "tuple") (rTup1 X.K) := by
  intro pins s σ H xs us Q I r h
  obtain ⟨p, ys, rfl, hq, q⟩ := h
  refine call_tuple_of pins s σ H _ us Q I r ⟨p, ys, rfl, ?_⟩
  rcases hq with hq | hq
  · exact .inl ⟨hq, fun l hl => q l _ (Same.new hl) (SqT.of upd_same)⟩
  · exact .inr ⟨hq, q p H (Same.refl H) hq⟩
/-! ### a statement, then the rest, with a word between them -/
def tCut (t u : TS) : TS := fun D σ H => ∃ Mid : L2.St → Hp → Prop, t { D with nx := Mid } σ H ∧ ∀ σ' H', Mid σ' H' → u D σ' H'
theorem pss_cut {X : Cx} {st : Stmt} {rest : List Stmt} {t u : TS} (h1 : PS X st t) (h2 : PSs X rest u) : PSs X (st :: rest) (tCut t u) := by
  refine ⟨fun pins s σ H D I h => ?_⟩
  obtain ⟨Mid, hm, hu⟩ := h
  refine wpAny_execs_cons (thn (h1.run pins s σ H { D with nx := Mid } I hm) fun f s1 q => ?_)
  cases f with
  | next =>
    obtain ⟨σ', H', I', q⟩ := q
    exact h2.run pins s1 σ' H' D I' (hu σ' H' q)
  | ret v => exact q
  | brk => exact q
  | cont => exact q
/-! ### the law's bag: the cells, how many were taken, the rest of a great cell, a mixed number, a count -/
structure Bg where
  b : Addr
  L : Addr
  ns : List Int
structure Bag (B : Bg) (H : Hp) : Prop where
  ex : ∃ (i r s c : Int), H B.b = some (.lst [.ref B.L, .int i, .int r, .int s, .int c]) ∧ 0 ≤ i ∧ 0 ≤ r ∧ 0 ≤ s ∧ s < 2147483648
  cells : H B.L = some (.lst (B.ns.map V.int))
  ne : B.L ≠ B.b
theorem Bag.same {B : Bg} {H H' : Hp} (h : Bag B H) (s : Same H H') : Bag B H' := by
  obtain ⟨i, r, z, c, h1, h2⟩ := h.ex
  exact ⟨⟨i, r, z, c, s _ _ h1, h2⟩, s _ _ h.cells, h.ne⟩
theorem Bag.nb {B : Bg} {H : Hp} {p : Addr} (h : Bag B H) (hp : H p = none) : p ≠ B.b := by
  obtain ⟨i, r, z, c, h1, h2⟩ := h.ex
  exact Ne.symm (ne_of_none h1 hp)
theorem Bag.nL {B : Bg} {H : Hp} {p : Addr} (h : Bag B H) (hp : H p = none) : p ≠ B.L := Ne.symm (ne_of_none h.cells hp)
theorem Bag.upd {B : Bg} {H : Hp} {p : Addr} {o : HO} (h : Bag B H) (h1 : p ≠ B.b) (h2 : p ≠ B.L) : Bag B (L2.upd H p o) := by
  obtain ⟨i, r, z, c, e1, e2⟩ := h.ex
  exact ⟨⟨i, r, z, c, by rw [upd_ne (Ne.symm h1)]; exact e1, e2⟩, by rw [upd_ne (Ne.symm h2)]; exact h.cells, h.ne⟩
theorem Bag.new {B : Bg} {H : Hp} {p : Addr} {o : HO} (h : Bag B H) (hp : H p = none) : Bag B (L2.upd H p o) := h.upd (h.nb hp) (h.nL hp)
/-! ### comprehensions: what each turn gives is known (Same), or only bounded, while the bag changes (Kb) -/
section
variable {J : It} {n : Nat} {G : Hp → Prop} {Y : Nat → Hp → V → Hp → Prop} {K : PySem.W.Frag} {a b D : Addr} {xs ys : List V} {g : TG} {te : TE} {vs : List Nat} {σ : L2.St} {H0 : Hp} {Qd : Hp → Prop} {j : Nat}
theorem take_app {ys : List V} {i : Nat} {y : V} (h : ys[i]? = some y) : ys.take i ++ [y] = ys.take (i + 1) := by
  rw [List.take_add_one, h]
  rfl
/-- what is to be shown of a comprehension -/
def LcGoal (J : It) (g : TG) (te : TE) (vs : List Nat) (σ : L2.St) (H0 : Hp) (D : Addr) (Qd : Hp → Prop) : Prop :=
  ∃ W : Nat → Nat → Hp → Prop, (∃ m, W 0 m (upd H0 D (.lst []))) ∧ ∀ i m H, W i m H →
      (J.stop i H ∧ Qd H) ∨ (J.go i H ∧ ∃ Nx : Hp → Prop, (∀ H', Nx H' → ∃ m', m' < m ∧ W (i + 1) m' H') ∧ ∀ x H', J.yld i H x H' → g x (wipe σ vs) H' fun σ2 H2 => wipe σ2 vs = wipe σ vs ∧ tYes σ2 H2 fun b H3 =>
        if b = true then te σ2 H3 fun y H4 => ∃ acc, H4 D = some (.lst acc) ∧ acc.length < sizeLine ∧ Nx (upd H4 D (.lst (acc ++ [y]))) else Nx H3)
theorem lcm (w : Walk J n G Y) (ys : List V) (hn : ys.length = n) (hz : n ≤ 100000) (hD : H0 D = none) (hG : ∀ H, Same H0 H → G H)
    (hs : ∀ i y x H H', i < n → ys[i]? = some y → Same H0 H → Y i H x H' → ∀ k : VK, (∀ H4, Same H H4 → k y H4) → g x (wipe σ vs) H' fun σ2 H2 => wipe σ2 vs = wipe σ vs ∧ te σ2 H2 k)
    (hd : ∀ H, Same H0 H → H D = some (.lst ys) → Qd H) : LcGoal J g te vs σ H0 D Qd := by
  refine lc_it w (fun i H => Same H0 H ∧ H D = some (.lst (ys.take i))) ⟨Same.new hD, upd_same⟩ (fun i H _ h => hG H h.1) (fun i x H H' hi h hy => ?_) (fun H h => ?_)
  · have hi2 : i < ys.length := by omega
    refine hs i ys[i] x H H' hi (List.getElem?_eq_getElem hi2) h.1 hy _ fun H4 s4 => ⟨ys.take i, s4 _ _ h.2, ?_, fun c u q => ?_, ?_⟩
    · refine Nat.lt_of_le_of_lt (Nat.le_trans (List.length_take_le' _ _) (by omega : ys.length ≤ 100000)) (by decide)
    · rw [upd_ne (ne_of_none q hD)]
      exact s4 _ _ (h.1 _ _ q)
    · rw [upd_same, take_app (List.getElem?_eq_getElem hi2)]
  · refine hd H h.1 ?_
    rw [h.2, ← hn, List.take_length]
theorem lcb {B : Bg} (w : Walk J n G Y) (P : V → Prop) (hz : n ≤ 100000) (hB : Bag B H0) (hD : H0 D = none) (hG : ∀ H, Kb B.b H0 H → G H)
    (hs : ∀ i x H H', i < n → Kb B.b H0 H → Bag B H → Y i H x H' → ∀ k : VK, (∀ y H4, P y → Kb B.b H H4 → Bag B H4 → k y H4) → g x (wipe σ vs) H' fun σ2 H2 => wipe σ2 vs = wipe σ vs ∧ te σ2 H2 k)
    (hd : ∀ ys H, ys.length = n → (∀ y ∈ ys, P y) → Kb B.b H0 H → Bag B H → H D = some (.lst ys) → Qd H) : LcGoal J g te vs σ H0 D Qd := by
  have nb := hB.nb hD
  have nL := hB.nL hD
  refine lc_it w (fun i H => Kb B.b H0 H ∧ Bag B H ∧ ∃ ys, H D = some (.lst ys) ∧ ys.length = i ∧ ∀ y ∈ ys, P y) ⟨Kb.same (Same.new hD), hB.new hD, [], upd_same, rfl, fun y hy => by cases hy⟩ (fun i H _ h => hG H h.1) (fun i x H H' hi h hy => ?_) (fun H h => ?_)
  · obtain ⟨h1, h2, ys, h3, h4, h5⟩ := h
    refine hs i x H H' hi h1 h2 hy _ fun y H4 p kb b4 => ⟨ys, kb _ _ h3 nb, ?_, fun c u q ne => ?_, b4.upd nb nL, ys ++ [y], upd_same, ?_, ?_⟩
    · exact Nat.lt_of_le_of_lt (by omega : ys.length ≤ 100000) (by decide)
    · rw [upd_ne (ne_of_none q hD)]
      exact kb _ _ (h1 _ _ q ne) ne
    · rw [List.length_append, h4]
      rfl
    · intro z hz
      rcases List.mem_append.mp hz with q | q
      · exact h5 z q
      · rw [List.mem_singleton.mp q]
        exact p
  · obtain ⟨h1, h2, ys, h3, h4, h5⟩ := h
    exact hd ys H h4 h5 h1 h2 h3
end
theorem walk_zipT {K : PySem.W.Frag} {a b : Addr} {xs ys : List V} {n : Nat} (hn : n = min xs.length ys.length) : Walk (RZ.ItzT K a b) n (fun H => SqT K H a xs ∧ SqT K H b ys) (YPair (fun i => xs[i]?) (fun i => ys[i]?)) := by
  subst hn
  refine ⟨fun i _ hi q => ?_, fun _ q => ⟨xs, ys, q.1, q.2, by omega⟩, fun i H v H' _ q y => ?_⟩
  · have h1 : i < xs.length := by omega
    have h2 : i < ys.length := by omega
    exact ⟨xs, ys, xs[i], ys[i], q.1, q.2, by simp [h1], by simp [h2]⟩
  · obtain ⟨T, x, z, h1, h2, h3, h4, h5⟩ := y
    exact ⟨T, x, z, h1, h2, h3, h4 xs q.1, h5 ys q.2⟩
theorem ite_dec {p A B : Prop} [Decidable p] (h : p) (q : A) : if decide p = true then A else B := by
  rw [decide_eq_true h]
  exact q
theorem ite_dec' {p A B : Prop} [Decidable p] (h : ¬ p) (q : B) : if decide p = true then A else B := by
  rw [decide_eq_false h]
  exact q
theorem all_rep (n : Nat) : (List.replicate n true).all id = true := by
  rw [List.all_eq_true]
  intro x hx
  rw [(List.mem_replicate.mp hx).2]
  rfl
theorem rep_get {n i : Nat} {x y : V} (h : (List.replicate n x)[i]? = some y) : y = x := (List.mem_replicate.mp (List.mem_of_getElem? h)).2
theorem lc_zipT {K : PySem.W.Frag} {a b D : Addr} {xs ys : List Int} {f : Int → Int → Int} {te : TE} {vs : List Nat} {σ : L2.St} {H0 : Hp} {Qd : Hp → Prop} {i j : Nat} (h1 : SqT K H0 a (xs.map V.int)) (h2 : SqT K H0 b (ys.map V.int)) (hl : xs.length = ys.length) (hz : xs.length ≤ 1000) (hD : H0 D = none)
    (hw : ∀ u v, wipe (((wipe σ vs).set i (some u)).set j (some v)) vs = wipe σ vs)
    (hs : ∀ (u v : Int) (H : Hp) (k : VK), u ∈ xs → v ∈ ys → k (.int (f u v)) H → te (((wipe σ vs).set i (some (.int u))).set j (some (.int v))) H k)
    (hd : ∀ H, Same H0 H → H D = some (.lst ((List.zipWith f xs ys).map V.int)) → Qd H) : LcGoal (RZ.ItzT K a b) (gTup K 2 (gCons (gName i) (gCons (gName j) gNil))) te vs σ H0 D Qd := by
  refine lcm (walk_zipT (n := xs.length) (by rw [List.length_map, List.length_map]; omega)) ((List.zipWith f xs ys).map V.int) (by rw [List.length_map, List.length_zipWith]; omega) (by omega) hD (fun H' s => ⟨seqT s h1, seqT s h2⟩) ?_ hd
  rintro t y x H1 H2 hi hy s1 ⟨Tp, u, z, rfl, hT, rfl, hu, hz'⟩ k hk
  replace hu : (xs.map V.int)[t]? = some u := hu
  replace hz' : (ys.map V.int)[t]? = some z := hz'
  rw [List.getElem?_map] at hy hu hz'
  obtain ⟨y', hy1, rfl⟩ := Option.map_eq_some_iff.mp hy
  obtain ⟨u', hu1, rfl⟩ := Option.map_eq_some_iff.mp hu
  obtain ⟨z', hz1, rfl⟩ := Option.map_eq_some_iff.mp hz'
  rw [List.getElem?_zipWith, hu1, hz1] at hy1
  obtain rfl : f u' z' = y' := Option.some.inj hy1
  refine ⟨Tp, [.int u', .int z'], rfl, SqT.of upd_same, rfl, .int u', [.int z'], rfl, .int z', [], rfl, rfl, hw _ _, ?_⟩
  exact hs u' z' _ k (List.mem_of_getElem? hu1) (List.mem_of_getElem? hz1) (hk _ (Same.new hT))
theorem lc_zipL {K : PySem.W.Frag} {a b D : Addr} {xs ys : List Int} {f : Int → Int → Int} {te : TE} {vs : List Nat} {σ : L2.St} {H0 : Hp} {Qd : Hp → Prop} {i j : Nat} (h1 : SqL K H0 a (xs.map V.int)) (h2 : SqL K H0 b (ys.map V.int)) (hl : xs.length = ys.length) (hz : xs.length ≤ 1000) (hD : H0 D = none)
    (hw : ∀ u v, wipe (((wipe σ vs).set i (some u)).set j (some v)) vs = wipe σ vs)
    (hs : ∀ (u v : Int) (H : Hp) (k : VK), u ∈ xs → v ∈ ys → k (.int (f u v)) H → te (((wipe σ vs).set i (some (.int u))).set j (some (.int v))) H k)
    (hd : ∀ H, Same H0 H → H D = some (.lst ((List.zipWith f xs ys).map V.int)) → Qd H) : LcGoal (Itz K a b) (gTup K 2 (gCons (gName i) (gCons (gName j) gNil))) te vs σ H0 D Qd := by
  refine lcm (walk_zip (n := xs.length) (by rw [List.length_map, List.length_map]; omega)) ((List.zipWith f xs ys).map V.int) (by rw [List.length_map, List.length_zipWith]; omega) (by omega) hD (fun H' s => ⟨s.seq h1, s.seq h2⟩) ?_ hd
  rintro t y x H1 H2 hi hy s1 ⟨Tp, u, z, rfl, hT, rfl, hu, hz'⟩ k hk
  replace hu : (xs.map V.int)[t]? = some u := hu
  replace hz' : (ys.map V.int)[t]? = some z := hz'
  rw [List.getElem?_map] at hy hu hz'
  obtain ⟨y', hy1, rfl⟩ := Option.map_eq_some_iff.mp hy
  obtain ⟨u', hu1, rfl⟩ := Option.map_eq_some_iff.mp hu
  obtain ⟨z', hz1, rfl⟩ := Option.map_eq_some_iff.mp hz'
  rw [List.getElem?_zipWith, hu1, hz1] at hy1
  obtain rfl : f u' z' = y' := Option.some.inj hy1
  refine ⟨Tp, [.int u', .int z'], rfl, SqT.of upd_same, rfl, .int u', [.int z'], rfl, .int z', [], rfl, rfl, hw _ _, ?_⟩
  exact hs u' z' _ k (List.mem_of_getElem? hu1) (List.mem_of_getElem? hz1) (hk _ (Same.new hT))
theorem lc_mapT {K : PySem.W.Frag} {a D : Addr} {xs : List Int} {f : Int → Int} {te : TE} {vs : List Nat} {σ : L2.St} {H0 : Hp} {Qd : Hp → Prop} {i : Nat} (h1 : SqT K H0 a (xs.map V.int)) (hz : xs.length ≤ 1000) (hD : H0 D = none)
    (hw : ∀ u, wipe ((wipe σ vs).set i (some u)) vs = wipe σ vs) (hs : ∀ (u : Int) (H : Hp) (k : VK), u ∈ xs → k (.int (f u)) H → te ((wipe σ vs).set i (some (.int u))) H k)
    (hd : ∀ H, Same H0 H → H D = some (.lst ((xs.map f).map V.int)) → Qd H) : LcGoal (Itt K a) (gName i) te vs σ H0 D Qd := by
  refine lcm (walk_tup (K := K) (a := a) (xs := xs.map V.int)) ((xs.map f).map V.int) (by simp) (by rw [List.length_map]; omega) hD (fun H' s => seqT s h1) ?_ hd
  rintro t y x H1 H2 hi hy s1 ⟨rfl, hu⟩ k hk
  rw [List.getElem?_map] at hy hu
  obtain ⟨y', hy1, rfl⟩ := Option.map_eq_some_iff.mp hy
  obtain ⟨u', hu1, rfl⟩ := Option.map_eq_some_iff.mp hu
  rw [List.getElem?_map, hu1] at hy1
  obtain rfl : f u' = y' := Option.some.inj hy1
  exact ⟨hw _, hs u' _ k (List.mem_of_getElem? hu1) (hk _ (Same.refl _))⟩
theorem lc_mapL {K : PySem.W.Frag} {a D : Addr} {xs : List Int} {f : Int → Int} {te : TE} {vs : List Nat} {σ : L2.St} {H0 : Hp} {Qd : Hp → Prop} {i : Nat} (h1 : SqL K H0 a (xs.map V.int)) (hz : xs.length ≤ 1000) (hD : H0 D = none)
    (hw : ∀ u, wipe ((wipe σ vs).set i (some u)) vs = wipe σ vs) (hs : ∀ (u : Int) (H : Hp) (k : VK), u ∈ xs → k (.int (f u)) H → te ((wipe σ vs).set i (some (.int u))) H k)
    (hd : ∀ H, Same H0 H → H D = some (.lst ((xs.map f).map V.int)) → Qd H) : LcGoal (Itl K a) (gName i) te vs σ H0 D Qd := by
  refine lcm (walk_list (K := K) (a := a) (xs := xs.map V.int)) ((xs.map f).map V.int) (by simp) (by rw [List.length_map]; omega) hD (fun H' s => s.seq h1) ?_ hd
  rintro t y x H1 H2 hi hy s1 ⟨rfl, hu⟩ k hk
  rw [List.getElem?_map] at hy hu
  obtain ⟨y', hy1, rfl⟩ := Option.map_eq_some_iff.mp hy
  obtain ⟨u', hu1, rfl⟩ := Option.map_eq_some_iff.mp hu
  rw [List.getElem?_map, hu1] at hy1
  obtain rfl : f u' = y' := Option.some.inj hy1
  exact ⟨hw _, hs u' _ k (List.mem_of_getElem? hu1) (hk _ (Same.refl _))⟩
/-! ### whole data: lists and tuples of whole numbers -/
theorem dpAll_ints {K : PySem.W.Frag} {H : Hp} : ∀ ns : List Int, DpAll K H (ns.map V.int) (ns.map PyData.int)
  | [] => .nil
  | n :: ns => .cons (.int n) (dpAll_ints ns)
theorem lay_ints : ∀ ns : List Int, PyData.canLayAll0 (ns.map PyData.int) = true
  | [] => by simp [PyData.canLayAll0]
  | n :: ns => by simp [PyData.canLayAll0, PyData.canLay0, lay_ints ns]
theorem depth_ints : ∀ ns : List Int, PyData.depthAll (ns.map PyData.int) = 0
  | [] => by simp [PyData.depthAll]
  | n :: ns => by simp [PyData.depthAll, PyData.depth, depth_ints ns]
theorem shaped_tupI (ns : List Int) : SeqAt.shaped (.tuple (ns.map PyData.int)) = true := by simp [SeqAt.shaped, PyData.canLay0, PyData.depth, lay_ints, depth_ints]
theorem shaped_lstI (ns : List Int) : SeqAt.shaped (.list (ns.map PyData.int)) = true := by simp [SeqAt.shaped, PyData.canLay0, PyData.depth, lay_ints, depth_ints]
theorem shaped_two (xs ys : List Int) : SeqAt.shaped (.tuple [.list (xs.map PyData.int), .list (ys.map PyData.int)]) = true := by simp [SeqAt.shaped, PyData.canLay0, PyData.canLayAll0, PyData.depth, PyData.depthAll, lay_ints, depth_ints]
theorem eqv_ints : ∀ xs ys : List Int, PyData.eqvAll (xs.map PyData.int) (ys.map PyData.int) = decide (xs = ys)
  | [], [] => by simp [PyData.eqvAll]
  | [], y :: ys => by simp [PyData.eqvAll]
  | x :: xs, [] => by simp [PyData.eqvAll]
  | x :: xs, y :: ys => by
    simp only [List.map_cons, PyData.eqvAll, PyData.eqv, eqv_ints xs ys, List.cons.injEq]
    by_cases h1 : x = y <;> by_cases h2 : xs = ys <;> simp [h1, h2]
theorem eqv_tupI (xs ys : List Int) : PyData.eqv (.tuple (xs.map PyData.int)) (.tuple (ys.map PyData.int)) = decide (xs = ys) := by simp only [PyData.eqv, eqv_ints]
theorem eqv_lstI (xs ys : List Int) : PyData.eqv (.list (xs.map PyData.int)) (.list (ys.map PyData.int)) = decide (xs = ys) := by simp only [PyData.eqv, eqv_ints]
theorem eqv_two (x y : List Int × List Int) : PyData.eqv (.tuple [.list (x.1.map PyData.int), .list (x.2.map PyData.int)]) (.tuple [.list (y.1.map PyData.int), .list (y.2.map PyData.int)]) = decide (x = y) := by
  obtain ⟨a, b⟩ := x
  obtain ⟨c, d⟩ := y
  simp only [PyData.eqv, PyData.eqvAll, eqv_ints, Prod.mk.injEq]
  by_cases h1 : a = c <;> by_cases h2 : b = d <;> simp [h1, h2]
/-- == of two tuples of whole numbers -/
def rEqTI (K : PySem.W.Frag) : R2 := fun x y H Q => ∃ (a b : Addr) (xs ys : List Int), x = .ref a ∧ y = .ref b ∧ SqT K H a (xs.map V.int) ∧ SqT K H b (ys.map V.int) ∧ Q (.bl (decide (xs = ys))) H
theorem op_eqTI {X : Cx} (hu : X.A.units + 64 < cLine) : OpR X (compareOp .Eq) (rEqTI X.K) := by
  intro pins s σ H x y v u Q I rx ry h
  obtain ⟨a, b, xs, ys, rfl, rfl, h1, h2, q⟩ := h
  exact op_eqD hu pins s σ H _ _ v u Q I rx ry ⟨_, _, .tup h1 (dpAll_ints xs), .tup h2 (dpAll_ints ys), shaped_tupI xs, shaped_tupI ys, by rw [eqv_tupI]; exact q⟩
theorem and1 (n : Int) : Builtin.bitAnd n 1 = n.fmod 2 := by
  have h := PyProof.Rows.bitAnd_m1 n
  rw [Int.fmod_eq_emod_of_nonneg _ (by decide)]
  exact h
/-- a tuple that is read stands when a list is changed -/
theorem seqT_lst {K : PySem.W.Frag} {H : Hp} {a p : Addr} {zs : List V} {o : HO} {xs : List V} (hp : H p = some (.lst zs)) (h : SqT K H a xs) : SqT K (upd H p o) a xs := by
  rcases h with (h | ⟨u, h⟩) | h
  · exact .inl (.inl (by rw [upd_ne (ne_of h hp (by intro z; cases z))]; exact h))
  · exact .inl (.inr ⟨u, by rw [upd_ne (ne_of h hp (by intro z; cases z))]; exact h⟩)
  · exact .inr h
theorem seqT_kb {K : PySem.W.Frag} {H H' : Hp} {b a : Addr} {zs xs : List V} (hb : H b = some (.lst zs)) (k : Kb b H H') (h : SqT K H a xs) : SqT K H' a xs := by
  rcases h with (h | ⟨u, h⟩) | h
  · exact .inl (.inl (k _ _ h (ne_of h hb (by intro z; cases z))))
  · exact .inl (.inr ⟨u, k _ _ h (ne_of h hb (by intro z; cases z))⟩)
  · exact .inr h
section
variable {J : It} {n : Nat} {G : Hp → Prop} {Y : Nat → Hp → V → Hp → Prop} {D : Addr} {g : TG} {te : TE} {vs : List Nat} {σ : L2.St} {H0 : Hp} {Qd : Hp → Prop}
/-- a comprehension whose turns give new things, of which something is known -/
theorem lcs (w : Walk J n G Y) (P : Nat → V → Hp → Prop) (hP : ∀ i y H H', Same H H' → P i y H → P i y H') (hPD : ∀ i y H zs zs', H D = some (.lst zs) → P i y H → P i y (upd H D (.lst zs'))) (hz : n ≤ 100000) (hD : H0 D = none) (hG : ∀ H, Same H0 H → G H)
    (hs : ∀ i x H H', i < n → Same H0 H → Y i H x H' → ∀ k : VK, (∀ y H4, Same H H4 → P i y H4 → k y H4) → g x (wipe σ vs) H' fun σ2 H2 => wipe σ2 vs = wipe σ vs ∧ te σ2 H2 k)
    (hd : ∀ (ys : List V) H, ys.length = n → (∀ (i : Nat) y, ys[i]? = some y → P i y H) → Same H0 H → H D = some (.lst ys) → Qd H) : LcGoal J g te vs σ H0 D Qd := by
  refine lc_it w (fun i H => Same H0 H ∧ ∃ ys : List V, H D = some (.lst ys) ∧ ys.length = i ∧ ∀ (t : Nat) y, ys[t]? = some y → P t y H) ⟨Same.new hD, [], upd_same, rfl, fun t y h => by cases h⟩ (fun i H _ h => hG H h.1) (fun i x H H' hi h hy => ?_) (fun H h => ?_)
  · obtain ⟨h1, ys, h3, h4, h5⟩ := h
    refine hs i x H H' hi h1 hy _ fun y H4 s4 p => ⟨ys, s4 _ _ h3, ?_, fun c u q => ?_, ys ++ [y], upd_same, ?_, ?_⟩
    · exact Nat.lt_of_le_of_lt (by omega : ys.length ≤ 100000) (by decide)
    · rw [upd_ne (ne_of_none q hD)]
      exact s4 _ _ (h1 _ _ q)
    · rw [List.length_append, h4]
      rfl
    · intro t z hz
      refine hPD t z H4 ys _ (s4 _ _ h3) ?_
      rcases Nat.lt_or_ge t ys.length with q | q
      · rw [List.getElem?_append_left q] at hz
        exact hP _ _ _ _ s4 (h5 t z hz)
      · rw [List.getElem?_append_right q] at hz
        have e : t - ys.length = 0 := by
          have := (List.getElem?_eq_some_iff.mp hz).1
          simp at this
          omega
        rw [e] at hz
        obtain rfl : y = z := Option.some.inj hz
        have : t = i := by omega
        rw [this]
        exact p
  · obtain ⟨h1, ys, h3, h4, h5⟩ := h
    exact hd ys H h4 h5 h1 h3
end
end TL
namespace TL
/-! ### products of powers of primes -/
def pp : List Nat → List Nat → Nat
  | p :: ps, a :: as => p ^ a * pp ps as
  | _, _ => 1
def prs : List Nat := [2, 3, 5, 7, 11, 13]
def PC : List Nat → Prop
  | [] => True
  | p :: ps => 1 < p ∧ (∀ q ∈ ps, Nat.Coprime p q) ∧ PC ps
theorem pc_prs : PC prs := by simp only [PC, prs]; decide
theorem pc_drop : ∀ (n : Nat) {ps : List Nat}, PC ps → PC (ps.drop n)
  | 0, _, h => h
  | n + 1, [], h => h
  | n + 1, p :: ps, h => pc_drop n h.2.2
theorem pc_take : ∀ (n : Nat) {ps : List Nat}, PC ps → PC (ps.take n)
  | 0, _, _ => trivial
  | n + 1, [], h => h
  | n + 1, p :: ps, h => ⟨h.1, fun q hq => h.2.1 q (List.mem_of_mem_take hq), pc_take n h.2.2⟩
theorem pp_pos : ∀ {ps : List Nat} (as : List Nat), PC ps → 0 < pp ps as
  | [], _, _ => Nat.one_pos
  | p :: ps, [], _ => Nat.one_pos
  | p :: ps, a :: as, h => Nat.mul_pos (Nat.pow_pos (Nat.lt_trans Nat.one_pos h.1)) (pp_pos as h.2.2)
theorem cop_pp {k : Nat} : ∀ {ps : List Nat} (as : List Nat), (∀ q ∈ ps, Nat.Coprime k q) → Nat.Coprime k (pp ps as)
  | [], _, _ => Nat.coprime_one_right k
  | p :: ps, [], _ => Nat.coprime_one_right k
  | p :: ps, a :: as, h => Nat.Coprime.mul_right ((h p (List.mem_cons_self ..)).pow_right a) (cop_pp as fun q hq => h q (List.mem_cons_of_mem _ hq))
def Apart : List Nat → List Nat → Prop
  | a :: as, b :: bs => (a = 0 ∨ b = 0) ∧ Apart as bs
  | _, _ => True
theorem cop_ud : ∀ {ps as bs : List Nat}, PC ps → Apart as bs → Nat.Coprime (pp ps as) (pp ps bs)
  | [], _, _, _, _ => Nat.coprime_one_left _
  | p :: ps, [], _, _, _ => Nat.coprime_one_left _
  | p :: ps, a :: as, [], _, _ => Nat.coprime_one_right _
  | p :: ps, a :: as, b :: bs, h, d => by
    have ih := cop_ud h.2.2 d.2
    have h1 : Nat.Coprime (p ^ a) (pp ps bs) := (cop_pp bs h.2.1).pow_left a
    have h2 : Nat.Coprime (pp ps as) (p ^ b) := (Nat.Coprime.symm (cop_pp as h.2.1)).pow_right b
    have h3 : Nat.Coprime (p ^ a) (p ^ b) := by
      rcases d.1 with e | e
      · rw [e, Nat.pow_zero]
        exact Nat.coprime_one_left _
      · rw [e, Nat.pow_zero]
        exact Nat.coprime_one_right _
    exact Nat.Coprime.mul_left (Nat.Coprime.mul_right h3 h1) (Nat.Coprime.mul_right h2 ih)
theorem pp_add : ∀ (ps as bs : List Nat), as.length = bs.length → pp ps as * pp ps bs = pp ps (List.zipWith (· + ·) as bs)
  | [], _, _, _ => by simp [pp]
  | p :: ps, [], [], _ => by simp [pp]
  | p :: ps, a :: as, b :: bs, h => by
    have ih := pp_add ps as bs (by simpa using h)
    simp only [pp, List.zipWith_cons_cons, ← ih, Nat.pow_add]
    ac_rfl
theorem pp_pow (n : Nat) : ∀ (ps as : List Nat), pp ps as ^ n = pp ps (as.map (n * ·))
  | [], _ => by simp [pp]
  | p :: ps, [] => by simp [pp]
  | p :: ps, a :: as => by
    simp only [pp, List.map_cons, ← pp_pow n ps as, Nat.mul_pow]
    rw [← Nat.pow_mul, Nat.mul_comm a n]
/-! ### a ratio by its exponents -/
def upE (e : List Int) : List Nat := e.map Int.toNat
def dnE (e : List Int) : List Nat := e.map fun x => (-x).toNat
def up (e : List Int) : Nat := pp prs (upE e)
def dn (e : List Int) : Nat := pp prs (dnE e)
def addE (e f : List Int) : List Int := List.zipWith (· + ·) e f
def subE (e f : List Int) : List Int := List.zipWith (· - ·) e f
def mulE (n : Int) (e : List Int) : List Int := e.map (n * ·)
def negE (e : List Int) : List Int := e.map (- ·)
theorem up_pos (e : List Int) : 0 < up e := pp_pos _ pc_prs
theorem dn_pos (e : List Int) : 0 < dn e := pp_pos _ pc_prs
theorem apart_ud : ∀ e : List Int, Apart (upE e) (dnE e)
  | [] => trivial
  | x :: e => ⟨(show x.toNat = 0 ∨ (-x).toNat = 0 by omega), apart_ud e⟩
theorem cop_e (e : List Int) : Nat.Coprime (up e) (dn e) := cop_ud pc_prs (apart_ud e)
theorem up_neg (e : List Int) : up (negE e) = dn e := by
  unfold up dn upE dnE negE
  rw [List.map_map]
  rfl
theorem dn_neg (e : List Int) : dn (negE e) = up e := by
  unfold up dn upE dnE negE
  rw [List.map_map]
  congr 1
  apply List.map_congr_left
  intro x _
  simp
def both (e f : List Int) : List Nat := List.zipWith (fun x y => x.toNat + y.toNat - (x + y).toNat) e f
theorem up_mul (e f : List Int) (h : e.length = f.length) : up e * up f = pp prs (both e f) * up (addE e f) := by
  unfold up
  rw [pp_add _ _ _ (by simpa [upE] using h), pp_add _ _ _ (by simp [both, upE, addE])]
  congr 1
  apply List.ext_getElem
  · simp [both, upE, addE]
  · intro i h1 h2
    simp [both, upE, addE]
    omega
theorem dn_mul (e f : List Int) (h : e.length = f.length) : dn e * dn f = pp prs (both e f) * dn (addE e f) := by
  unfold dn
  rw [pp_add _ _ _ (by simpa [dnE] using h), pp_add _ _ _ (by simp [both, dnE, addE])]
  congr 1
  apply List.ext_getElem
  · simp [both, dnE, addE]
  · intro i h1 h2
    simp [both, dnE, addE]
    omega
/-- a fraction told over a common factor -/
theorem gcd_of {a b e m : Nat} (g : Nat.Coprime a b) : Nat.gcd (m * a) (m * b) = m := by
  rw [Nat.gcd_mul_left, g.gcd_eq_one, Nat.mul_one]
theorem ud_nil_iff {e : List Int} (h : e.length = 6) : up e = 1 → (∀ x ∈ e, x ≤ 0) := by
  intro u
  suffices H : ∀ {ps : List Nat} {as : List Nat}, PC ps → as.length ≤ ps.length → pp ps as = 1 → ∀ a ∈ as, a = 0 by
    intro x hx
    have := H pc_prs (by simp [upE, prs, h]) u x.toNat (List.mem_map.mpr ⟨x, hx, rfl⟩)
    omega
  intro ps
  induction ps with
  | nil =>
    intro as _ hl _ a ha
    have := List.length_eq_zero_iff.mp (Nat.le_zero.mp hl)
    rw [this] at ha
    cases ha
  | cons p ps ih =>
    intro as hp hl hu a ha
    cases as with
    | nil => cases ha
    | cons b bs =>
      have hu' : p ^ b = 1 ∧ pp ps bs = 1 := ⟨Nat.eq_one_of_mul_eq_one_right hu, Nat.eq_one_of_mul_eq_one_left hu⟩
      rcases List.mem_cons.mp ha with e | e
      · subst e
        have h1 := hu'.1
        rcases Nat.eq_zero_or_pos a with z | z
        · exact z
        · have := Nat.one_lt_pow (by omega : a ≠ 0) hp.1
          omega
      · exact ih hp.2.2 (by simpa using hl) hu'.2 a e
theorem pp_one : ∀ {ps as : List Nat}, PC ps → as.length ≤ ps.length → pp ps as = 1 → ∀ a ∈ as, a = 0
  | _, [], _, _, _, a, ha => by cases ha
  | [], b :: bs, _, hl, _, a, ha => by simp at hl
  | p :: ps, b :: bs, hp, hl, hu, a, ha => by
    have h1 : p ^ b = 1 := Nat.eq_one_of_mul_eq_one_right hu
    have h2 : pp ps bs = 1 := Nat.eq_one_of_mul_eq_one_left hu
    rcases List.mem_cons.mp ha with e | e
    · subst e
      rcases Nat.eq_zero_or_pos a with z | z
      · exact z
      · have := Nat.one_lt_pow (by omega : a ≠ 0) hp.1
        omega
    · exact pp_one hp.2.2 (by simpa using hl) h2 a e
theorem pp_drop {as : List Nat} {i : Nat} (hi : i < 6) (hl : as.length = 6) : ∃ p a, prs[i]? = some p ∧ as[i]? = some a ∧ 1 < p ∧ p ≤ 13 ∧ pp (prs.drop i) (as.drop i) = p ^ a * pp (prs.drop (i + 1)) (as.drop (i + 1)) ∧
    Nat.Coprime p (pp (prs.drop (i + 1)) (as.drop (i + 1))) ∧ 0 < pp (prs.drop (i + 1)) (as.drop (i + 1)) := by
  have h1 : i < prs.length := hi
  have h2 : i < as.length := by omega
  have hp := pc_drop i pc_prs
  rw [List.drop_eq_getElem_cons h1] at hp
  refine ⟨prs[i], as[i], List.getElem?_eq_getElem h1, List.getElem?_eq_getElem h2, hp.1, ?_, ?_, cop_pp _ hp.2.1, pp_pos _ hp.2.2⟩
  · have : ∀ p ∈ prs, p ≤ 13 := by decide
    exact this _ (List.getElem_mem h1)
  · rw [List.drop_eq_getElem_cons h1, List.drop_eq_getElem_cons h2]
    rfl
theorem pp_take : ∀ {ps as : List Nat} {i p a : Nat}, ps[i]? = some p → as[i]? = some a → pp (ps.take (i + 1)) (as.take (i + 1)) = pp (ps.take i) (as.take i) * p ^ a
  | [], _, _, _, _, h, _ => by simp at h
  | q :: ps, [], _, _, _, _, h => by simp at h
  | q :: ps, b :: bs, 0, p, a, h1, h2 => by
    simp at h1 h2
    subst h1 h2
    simp [pp]
  | q :: ps, b :: bs, i + 1, p, a, h1, h2 => by
    have ih := pp_take (ps := ps) (as := bs) (i := i) (p := p) (a := a) (by simpa using h1) (by simpa using h2)
    simp only [List.take_succ_cons, pp] at ih ⊢
    rw [ih, Nat.mul_assoc]
theorem pp_split : ∀ (i : Nat) (ps as : List Nat), ps.length = as.length → pp ps as = pp (ps.take i) (as.take i) * pp (ps.drop i) (as.drop i)
  | 0, ps, as, _ => by simp [pp]
  | i + 1, [], [], _ => by simp [pp]
  | i + 1, p :: ps, a :: as, h => by
    simp only [List.take_succ_cons, List.drop_succ_cons, pp]
    rw [pp_split i ps as (by simpa using h), Nat.mul_assoc]
theorem pp_take_le {i : Nat} {as : List Nat} (hl : as.length = 6) : pp (prs.take i) (as.take i) ≤ pp prs as := by
  rw [pp_split i prs as (by rw [hl]; rfl)]
  exact Nat.le_mul_of_pos_right _ (pp_pos _ (pc_drop i pc_prs))
def fill (as : List Nat) (i : Nat) : List Nat := as.take i ++ List.replicate (6 - i) 0
theorem fill_len {as : List Nat} {i : Nat} (hl : as.length = 6) (hi : i ≤ 6) : (fill as i).length = 6 := by
  simp [fill, hl]
  omega
theorem fill_all {as : List Nat} (hl : as.length = 6) : fill as 6 = as := by simp [fill, List.take_of_length_le (Nat.le_of_eq hl)]
theorem fill_set {as : List Nat} {i a : Nat} (hi : i < 6) (hl : as.length = 6) (ha : as[i]? = some a) : (fill as i).set i a = fill as (i + 1) := by
  apply List.ext_getElem
  · rw [List.length_set, fill_len hl (by omega), fill_len hl (by omega)]
  · intro j h1 h2
    have ha' := (List.getElem?_eq_some_iff.mp ha).2
    simp only [fill, List.getElem_set, List.getElem_append, List.length_take, List.getElem_take, List.getElem_replicate]
    by_cases e : i = j
    · subst e
      simp [hl, ha', show i < min (i + 1) 6 by omega]
    · rw [if_neg e]
      by_cases e2 : j < i
      · simp [hl, show j < min i 6 by omega, show j < min (i + 1) 6 by omega]
      · simp [hl, show ¬ j < min i 6 by omega, show ¬ j < min (i + 1) 6 by omega]
theorem fill_one {as : List Nat} {i : Nat} (hi : i < 6) (hl : as.length = 6) (h : pp (prs.drop i) (as.drop i) = 1) : fill as i = as := by
  have z := pp_one (pc_drop i pc_prs) (by simp [prs, hl]) h
  apply List.ext_getElem
  · rw [fill_len hl (by omega), hl]
  · intro j h1 h2
    simp only [fill, List.getElem_append, List.length_take, List.getElem_take, List.getElem_replicate]
    by_cases e : j < min i as.length
    · rw [dif_pos e]
    · rw [dif_neg e]
      have : as[j] ∈ as.drop i := by
        rw [List.mem_iff_getElem]
        exact ⟨j - i, by simp; omega, by simp [show i + (j - i) = j by omega]⟩
      exact (z _ this).symm
/-! ### how often a number divides -/
theorem split_at {p a n : Nat} (hp : 1 < p) (hc : Nat.Coprime p n) (hn : 0 < n) : ¬ p ^ 64 ∣ p ^ (a % 64) * n ∧ ¬ p ∣ n := by
  have h1 : ¬ p ∣ n := fun h => by
    have := hc.eq_one_of_dvd h
    omega
  refine ⟨fun h => h1 ?_, h1⟩
  have h2 : p ^ (a % 64 + 1) ∣ p ^ (a % 64) * n := Nat.dvd_trans (Nat.pow_dvd_pow p (by omega)) h
  rw [Nat.pow_succ] at h2
  exact Nat.dvd_of_mul_dvd_mul_left (Nat.pow_pos (by omega)) h2
theorem split_eq (p a n : Nat) : p ^ a * n = (p ^ 64) ^ (a / 64) * (p ^ (a % 64) * n) := by
  rw [← Nat.mul_assoc, ← Nat.pow_mul, ← Nat.pow_add, Nat.div_add_mod]
theorem pow_inj {p a b A B : Nat} (hp : 1 < p) (hA : Nat.Coprime p A) (h : p ^ a * A = p ^ b * B) : b ≤ a := by
  rcases Nat.lt_or_ge a b with c | c
  · exfalso
    have e : b = a + (b - a - 1 + 1) := by omega
    rw [e, Nat.pow_add, Nat.mul_assoc, Nat.pow_succ] at h
    have h2 := Nat.eq_of_mul_eq_mul_left (Nat.pow_pos (Nat.lt_trans Nat.one_pos hp)) h
    have : p ∣ A := ⟨p ^ (b - a - 1) * B, by rw [h2]; ac_rfl⟩
    have := hA.eq_one_of_dvd this
    omega
  · exact c
theorem pp_inj : ∀ {ps as bs : List Nat}, PC ps → as.length = ps.length → bs.length = ps.length → pp ps as = pp ps bs → as = bs
  | [], [], [], _, _, _, _ => rfl
  | p :: ps, a :: as, b :: bs, hp, h1, h2, h => by
    have cA := cop_pp (k := p) as hp.2.1
    have cB := cop_pp (k := p) bs hp.2.1
    have l1 := pow_inj hp.1 cA h
    have l2 := pow_inj hp.1 cB h.symm
    obtain rfl : a = b := by omega
    have h3 := Nat.eq_of_mul_eq_mul_left (Nat.pow_pos (Nat.lt_trans Nat.one_pos hp.1)) (show p ^ a * pp ps as = p ^ a * pp ps bs from h)
    rw [pp_inj hp.2.2 (by simpa using h1) (by simpa using h2) h3]
theorem e_inj {e f : List Int} (he : e.length = 6) (hf : f.length = 6) (hu : up e = up f) (hd : dn e = dn f) : e = f := by
  have a := pp_inj pc_prs (by simp [upE, he, prs]) (by simp [upE, hf, prs]) (show pp prs (upE e) = pp prs (upE f) from hu)
  have b := pp_inj pc_prs (by simp [dnE, he, prs]) (by simp [dnE, hf, prs]) (show pp prs (dnE e) = pp prs (dnE f) from hd)
  apply List.ext_getElem (by omega)
  intro i h1 h2
  have a' : (upE e)[i]? = (upE f)[i]? := by rw [a]
  have b' : (dnE e)[i]? = (dnE f)[i]? := by rw [b]
  simp [upE, dnE, h1, h2] at a' b'
  omega
theorem toNat_mulN (n : Nat) (x : Int) : ((n : Int) * x).toNat = n * x.toNat := by
  rcases Int.le_total 0 x with c | c
  · obtain ⟨k, rfl⟩ := Int.eq_ofNat_of_zero_le c
    rw [← Int.natCast_mul, Int.toNat_natCast, Int.toNat_natCast]
  · rw [Int.toNat_of_nonpos c, Int.toNat_of_nonpos (Int.mul_nonpos_of_nonneg_of_nonpos (by omega) c), Nat.mul_zero]
theorem up_pow (n : Nat) (e : List Int) : up e ^ n = up (mulE n e) := by
  unfold up
  rw [pp_pow]
  congr 1
  apply List.ext_getElem
  · simp [upE, mulE]
  · intro i h1 h2
    simp only [upE, mulE, List.getElem_map, toNat_mulN]
theorem neg_mulE (n : Int) (e : List Int) : negE (mulE n e) = mulE (-n) e := by
  apply List.ext_getElem
  · simp [negE, mulE]
  · intro i h1 h2
    simp [negE, mulE, Int.neg_mul]
theorem mul_negE (n : Int) (e : List Int) : mulE n (negE e) = mulE (-n) e := by
  apply List.ext_getElem
  · simp [negE, mulE]
  · intro i h1 h2
    simp [negE, mulE, Int.neg_mul, Int.mul_neg]
theorem dn_pow (n : Nat) (e : List Int) : dn e ^ n = dn (mulE n e) := by
  rw [← up_neg, ← up_neg, up_pow, mul_negE, neg_mulE]
theorem pp_at {as : List Nat} {i : Nat} (hi : i < 6) (hl : as.length = 6) : ∃ p a r, prs[i]? = some p ∧ as[i]? = some a ∧ 1 < p ∧ p ≤ 13 ∧ pp prs as = p ^ a * r ∧ 0 < r ∧ ¬ p ∣ r := by
  obtain ⟨p, a, e1, e2, g1, g2, g3, g4, g5⟩ := pp_drop hi hl
  have c1 : ∀ i : Fin 6, ∀ q ∈ prs.take i.val, Nat.Coprime (prs[i.val]'i.isLt) q := by decide
  have ep : prs[i]'hi = p := (List.getElem?_eq_some_iff.mp e1).2
  have c2 := c1 ⟨i, hi⟩
  simp only [ep] at c2
  have cop : Nat.Coprime p (pp (prs.take i) (as.take i) * pp (prs.drop (i + 1)) (as.drop (i + 1))) := Nat.Coprime.mul_right (cop_pp _ c2) g4
  refine ⟨p, a, pp (prs.take i) (as.take i) * pp (prs.drop (i + 1)) (as.drop (i + 1)), e1, e2, g1, g2, ?_, Nat.mul_pos (pp_pos _ (pc_take i pc_prs)) g5, fun h => ?_⟩
  · rw [pp_split i prs as (by rw [hl]; rfl), g3]
    ac_rfl
  · have := cop.eq_one_of_dvd h
    omega
end TL
namespace TL
open PySem PySem.Spec PyProof.Rows L2
theorem repr_X {prog : Program} {w : World} {A : Around} {E' : Value → Shared → Prop} {s : Shared} {K : PySem.W.Frag} {x C f : Addr} {ox : Obj} {od : Option Obj} {Q : Value → Shared → Prop} (hu : A.in1.units < cLine) (X₀ : K.In s.heap) (I : PySem.W.InstAt s.heap x ox C od) (hs : PySem.W.findIn K (.ref C) "__repr__" = some (some (.ref f)))
    (hf : PySem.W.isFn K (.ref f) = true) (h : wpAny (model prog w) A.in1 (call (.ref f) [.ref x]) (fun r s' => ∃ b t, r = Value.str b t ∧ Q r s') E' s) : wpAny (model prog w) A (call (.builtin "repr") [.ref x]) Q E' s := by
  refine Calls.call_function_entry PySem.F.kind_repr PySem.F.plain_repr PySem.F.entry_repr (PySem.F.args_repr1 _) (show wpAny _ _ (Builtin.«repr» _) _ _ s from ?_)
  unfold Builtin.«repr»
  refine wpAny_bind (m := oneArg "repr" _) (wpAny_pure (wpAny_bind (wpAny_cRoomFor hu (wpAny_bind (wpAny_bind (I.type.here ((PySem.W.looks_findIn X₀ hs).here ?_)))))))
  show wpAny _ _ (if (some (Value.ref f)).isNone = true then _ else _) _ _ s
  refine (if_neg (by simp) : (if (some (Value.ref f)).isNone = true then _ else _) = _) ▸ ?_
  refine wpAny_bind (m := callSpecialIfBound? (.ref x) (Str.ofString "__repr__") _) (PySem.W.ifBound_K X₀ I hs hf (wpAny_mono h (fun r s' ⟨b, t, e, hr⟩ => ?_) fun _ _ y => y))
  subst e
  refine wpAny_bind (wpAny_isInstance (typeIs_str _ _ _) isSubtype_str_str (by first | exact wpAny_pure ⟨_, rfl, hr⟩ | (rw [if_pos rfl]; exact wpAny_pure ⟨_, rfl, hr⟩)))
section
variable {X : Cx} {CX : CXT} {k : Nat} {C f : Addr} {fd : FuncData} {ps : List Str} {sp : Sp} {E : XK}
/-! ### str(x), x an instance with its own __str__ -/
def rStrOw (C : Addr) (sp : Sp) (E : XK) : List V → Hp → VK → Prop := fun vs H Q => ∃ a dx fs, vs = [.ref a] ∧ H a = some (.ins C dx fs) ∧ sp [.ref a] H (fun v H' => ∃ b, v = .str b ∧ Q v H') E
theorem call_strOw (at_ : PySem.W.findIn X.K (.ref C) "__str__" = some (some (.ref f))) (fn : PySem.W.isFn X.K (.ref f) = true) (F : FnOk X.prog X.w X.K X.mg X.base CX k f fd ps sp) (hr : Room (k + 2) X.A) (hb : Binds X.K fd ps []) (hx : Passes CX X E) :
    CallR X (.type "str") (rStrOw C sp E) := by
  intro pins s σ H vs us Q I r h
  obtain ⟨a, dx, fs, rfl, ha, q⟩ := h
  obtain rfl := Vals.ref1 r
  obtain ⟨od, J⟩ := inst_at I ha
  have hr2 : Room k X.A.in1.in1 := (show Room (k + 1) X.A.in1 from Room.in1 hr).in1
  refine PySem.W.kso_call (by have := hr2.units; omega) I.kIn J at_ fn (wpAny_mono (run_at2 (us := [.ref a]) (ws := [.ref a]) F hr2 I.env0.in1.in1 hb hx I (.cons rfl .nil) q) (fun w s' z => ?_) fun _ _ x => x)
  obtain ⟨z', H', I', rz, b, rfl, qz⟩ := z
  obtain ⟨t, rfl⟩ := rz
  exact ⟨.str b, H', I', ⟨t, rfl⟩, qz⟩
/-! ### repr(x), x an instance with its own __repr__ -/
theorem call_reprOw (at_ : PySem.W.findIn X.K (.ref C) "__repr__" = some (some (.ref f))) (fn : PySem.W.isFn X.K (.ref f) = true) (F : FnOk X.prog X.w X.K X.mg X.base CX k f fd ps sp) (hr : Room (k + 1) X.A) (hb : Binds X.K fd ps []) (hx : Passes CX X E) :
    CallR X (.builtin "repr") (rStrOw C sp E) := by
  intro pins s σ H vs us Q I r h
  obtain ⟨a, dx, fs, rfl, ha, q⟩ := h
  obtain rfl := Vals.ref1 r
  obtain ⟨od, J⟩ := inst_at I ha
  have hr1 : Room k X.A.in1 := Room.in1 hr
  refine repr_X (by have := hr1.units; omega) I.kIn J at_ fn (wpAny_mono (run_at2 (us := [.ref a]) (ws := [.ref a]) F hr1 I.env0.in1 hb hx I (.cons rfl .nil) q) (fun w s' z => ?_) fun _ _ x => x)
  obtain ⟨z', H', I', rz, b, rfl, qz⟩ := z
  obtain ⟨t, rfl⟩ := rz
  exact ⟨b, t, rfl, .str b, H', I', ⟨t, rfl⟩, qz⟩
/-! ### o.m(k = v, ..), a method called by names alone -/
def tMethK (C : Addr) (m : Str) (sp : Sp) (gV : List V → List V → List V) (E : XK) (ta : TE) (tk : TA) : TE := fun σ H Q => ta σ H fun x H1 => ∃ a dx fs, x = .ref a ∧ H1 a = some (.ins C dx fs) ∧ fs.lookup m = none ∧
  tk σ H1 fun zs H2 => sp (gV [x] zs) H2 Q E
theorem pe_methK {o : Expr} {m : Str} {apos pos : Pos} {kws : List Keyword} {ta : TE} {tk : TA} {ks : List Str} {g : List Value → List Value → List Value} {gV : List V → List V → List V} {pl : Sem Bool} (he : PE X o ta) (c : Cls X.K C) (hm : Meth X.K C m f) (F : FnOk X.prog X.w X.K X.mg X.base CX k f fd ps sp) (hr : Room k X.A)
    (hb : KBinds X.K fd ps ks g gV) (hx : Passes CX X E) (hkw : PK X kws tk) (hall : (backToKw pos (keywordEach kws X.env)).all (·.1.isSome) = true := by rfl) (hks : (backToKw pos (keywordEach kws X.env)).filterMap (·.1) = ks := by rfl)
    (hpl : ((backTo pos (starEach [] X.env)).any (·.1) || (backToKw pos (keywordEach kws X.env)).any (·.1.isNone)) = false := by rfl)
    (ht : eval (.Call (.Attribute o m apos) [] kws pos) X.env = (do
      let ov ← eval o X.env
      standAt apos.atName
      let (f, first) ← holding [ov] (getMethod ov m pl)
      callWith pos f first (backTo pos (starEach [] X.env)) (backToKw pos (keywordEach kws X.env))) := by rfl) : PE X (.Call (.Attribute o m apos) [] kws pos) (tMethK C m sp gV E ta tk) := by
  refine ⟨fun pins s σ H Q I h => PySem.W.methodCall_KW (pl := pl) (thn (he.run pins s σ H _ I h) fun u s1 ⟨x, H1, I1, rx, a, dx, fs, ex, ea, l, q⟩ => ?_) ht⟩
  subst ex
  obtain rfl : u = Value.ref a := rx
  refine getmeth_ok I1 ea c hm l (PySem.W.callWith_KW0 (first := [.ref a]) (h₀ := X.base) I.ok.mod.kin hm.kp hall (thn (hkw.run pos pins s1 σ H1 _ I1 q) fun ws s2 ⟨zs, H2, I2, rz, q2⟩ => ⟨I2.kIn, ?_⟩) hpl)
  rw [hks]
  exact run_fnk (us := [.ref a]) (vs := [.ref a]) F hr hb hx I2 (.cons rfl .nil) rz q2
/-! ### C.m(..), m a staticmethod of C: its record at p, its def at f -/
structure SMet (K : PySem.W.Frag) (C : Addr) (m : Str) (p f : Addr) : Prop where
  at_ : PySem.W.findCls K (.ref C) (.type "type") m = some (.get (.builtin "staticmethod.__get__") (.ref p) .none (.ref C))
  rc : ∃ rest, PySem.W.recIn K p "staticmethod" = some (.ref f :: rest)
  kp : PySem.W.keepIn K (.ref f) = true
theorem getsm_ok {pins : List (Addr × Obj)} {σ : L2.St} {H : Hp} {s : Shared} {A : Around} {E : Value → Shared → Prop} {m : Str} {p : Addr} {pl : Sem Bool} {Q : Value × List Value → Shared → Prop} (I : Inv X pins σ H s) (r : ClX.CRead X.K C (.type "type")) (c : SMet X.K C m p f)
    (h : ∀ s', Inv X pins σ H s' → Q (.ref f, []) s') : wpAny (model X.prog X.w) A (getMethod (.ref C) m pl) Q E s := by
  obtain ⟨rest, hp⟩ := c.rc
  exact PySem.W.method_cls I.kIn r.ga (PySem.W.cls_bind I.kIn r.rd c.at_ (wpAny_call (PySem.W.sm_get (s := { s with toks := s.toks + 1 }) I.kIn hp (PySem.W.handed_on rfl (h _ (I.tok _))))))
def tSm (C : Addr) (sp : Sp) (dvs : List V) (E : XK) (ta : TE) (t : TA) : TE := fun σ H Q => ta σ H fun x H1 => x = .ref C ∧ t σ H1 fun vs H2 => sp (vs ++ dvs) H2 Q E
theorem pe_sm {o e : Expr} {es : List Expr} {m : Str} {p : Addr} {apos pos : Pos} {ta : TE} {t : TA} {dvs : List V} {ds : List Value} {pl : Sem Bool} (he : PE X o ta) (r : ClX.CRead X.K C (.type "type")) (c : SMet X.K C m p f) (F : FnOk X.prog X.w X.K X.mg X.base CX k f fd ps sp) (hr : Room k X.A) (hb : Binds X.K fd ps ds) (hd : Vals dvs ds) (hx : Passes CX X E)
    (ha : PA X (e :: es) t) (hst : starEach (e :: es) X.env = (false, eval e X.env) :: starEach es X.env := by rfl) (hpl : (backTo pos (starEach es X.env)).any (·.1) = false := by rfl)
    (ht : eval (.Call (.Attribute o m apos) (e :: es) [] pos) X.env = (do
      let ov ← eval o X.env
      standAt apos.atName
      let (f, first) ← holding [ov] (getMethod ov m pl)
      callWith pos f first (backTo pos (starEach (e :: es) X.env)) (backToKw pos (keywordEach [] X.env))) := by rfl) : PE X (.Call (.Attribute o m apos) (e :: es) [] pos) (tSm C sp dvs E ta t) := by
  refine ⟨fun pins s σ H Q I h => PySem.W.methodCall_KW (pl := pl) (thn (he.run pins s σ H _ I h) fun u s1 ⟨x, H1, I1, rx, ex, q⟩ => ?_) ht⟩
  subst ex
  obtain rfl : u = Value.ref C := rx
  refine getsm_ok I1 r c fun s2 I2 => PySem.W.callWith_K (first := []) (h₀ := X.base) I.ok.mod.kin c.kp (thn (ha.run pos pins s2 σ H1 _ I2 q) fun us s3 ⟨vs, H2, I3, rv, q2⟩ => ⟨I3.kIn, ?_⟩) hst hpl
  exact run_fn (us := us) (vs := vs) F hr hb hd hx I3 rv q2
def tSmK (C : Addr) (sp : Sp) (gV : List V → List V → List V) (E : XK) (ta : TE) (tk : TA) : TE := fun σ H Q => ta σ H fun x H1 => x = .ref C ∧ tk σ H1 fun zs H2 => sp (gV [] zs) H2 Q E
theorem pe_smK {o : Expr} {m : Str} {p : Addr} {apos pos : Pos} {kws : List Keyword} {ta : TE} {tk : TA} {ks : List Str} {g : List Value → List Value → List Value} {gV : List V → List V → List V} {pl : Sem Bool} (he : PE X o ta) (r : ClX.CRead X.K C (.type "type")) (c : SMet X.K C m p f) (F : FnOk X.prog X.w X.K X.mg X.base CX k f fd ps sp) (hr : Room k X.A)
    (hb : KBinds X.K fd ps ks g gV) (hx : Passes CX X E) (hkw : PK X kws tk) (hall : (backToKw pos (keywordEach kws X.env)).all (·.1.isSome) = true := by rfl) (hks : (backToKw pos (keywordEach kws X.env)).filterMap (·.1) = ks := by rfl)
    (hpl : ((backTo pos (starEach [] X.env)).any (·.1) || (backToKw pos (keywordEach kws X.env)).any (·.1.isNone)) = false := by rfl)
    (ht : eval (.Call (.Attribute o m apos) [] kws pos) X.env = (do
      let ov ← eval o X.env
      standAt apos.atName
      let (f, first) ← holding [ov] (getMethod ov m pl)
      callWith pos f first (backTo pos (starEach [] X.env)) (backToKw pos (keywordEach kws X.env))) := by rfl) : PE X (.Call (.Attribute o m apos) [] kws pos) (tSmK C sp gV E ta tk) := by
  refine ⟨fun pins s σ H Q I h => PySem.W.methodCall_KW (pl := pl) (thn (he.run pins s σ H _ I h) fun u s1 ⟨x, H1, I1, rx, ex, q⟩ => ?_) ht⟩
  subst ex
  obtain rfl : u = Value.ref C := rx
  refine getsm_ok I1 r c fun s2 I2 => PySem.W.callWith_KW0 (first := []) (h₀ := X.base) I.ok.mod.kin c.kp hall (thn (hkw.run pos pins s2 σ H1 _ I2 q) fun ws s3 ⟨zs, H2, I3, rz, q2⟩ => ⟨I3.kIn, ?_⟩) hpl
  rw [hks]
  exact run_fnk (us := []) (vs := []) F hr hb hx I3 .nil rz q2
/-! ### x == y, x an instance with its own __eq__, y something else -/
def rOwN (K : PySem.W.Frag) (C : Addr) (sp : Sp) (E : XK) : R2 := fun x y H Q => ∃ a dx fs t, x = .ref a ∧ H a = some (.ins C dx fs) ∧ TyX K H y (.type t) ∧ PySem.W.subIn K (.type t) (.ref C) = some false ∧ sp [x, y] H Q E
theorem op_owEqN (at_ : PySem.W.findIn X.K (.ref C) "__eq__" = some (some (.ref f))) (fn : PySem.W.isFn X.K (.ref f) = true) (F : FnOk X.prog X.w X.K X.mg X.base CX k f fd ps sp) (hr : Room k X.A) (hb : Binds X.K fd ps []) (hx : Passes CX X E) :
    OpR X (compareOp .Eq) (rOwN X.K C sp E) := by
  intro pins s σ H x y v u Q I rx ry h
  obtain ⟨a, dx, fs, t, rfl, ha, ty, hsub, q⟩ := h
  cases (show v = Value.ref a from rx)
  obtain ⟨od, J⟩ := inst_at I ha
  obtain ⟨P, Z, hP, _⟩ := kit_of I ry ty
  obtain ⟨m, hF⟩ := I.fr
  refine PySem.W.cmp_K (op := .Eq) (tb := .type t) hr.units0 hF I.ok.mod.kin J (Z.ty _ s.heap I.kIn hP) (by simp [PySem.W.notFirst, hsub]) at_ fn ?_
  refine wpAny_mono (run_fn (us := [.ref a, u]) (vs := [.ref a, y]) F hr hb .nil hx I (.cons rfl (.cons ry .nil)) q) (fun w s' z => ?_) fun _ _ x => x
  obtain ⟨z', H', I', rz, qz⟩ := z
  exact cb rz ⟨z', H', I', rz, qz⟩
end
end TL
namespace TL
open PySem L2
/-! ### how keywords bind: one value by place and one by name, or one by name alone -/
def g11 {α : Type} : List α → List α → List α
  | [a], [b] => [a, b]
  | _, _ => []
def g01 {α : Type} : List α → List α → List α
  | [], [a] => [a]
  | _, _ => []
theorem vals_g11 {vs zs : List V} {us ws : List Value} (r : Vals vs us) (q : Vals zs ws) : Vals (g11 vs zs) (g11 us ws) := by
  rcases r with _ | ⟨h1, _ | ⟨_, _⟩⟩ <;> rcases q with _ | ⟨h2, _ | ⟨_, _⟩⟩ <;> first | exact .nil | exact .cons h1 (.cons h2 .nil)
theorem vals_g01 {vs zs : List V} {us ws : List Value} (r : Vals vs us) (q : Vals zs ws) : Vals (g01 vs zs) (g01 us ws) := by
  rcases r with _ | ⟨h1, _ | ⟨_, _⟩⟩ <;> rcases q with _ | ⟨h2, _ | ⟨_, _⟩⟩ <;> first | exact .nil | exact .cons h2 .nil
theorem g11_two {α : Type} {us ws : List α} (h : (g11 us ws).length = 2) : ∃ a b, us = [a] ∧ ws = [b] := by
  match us, ws, h with
  | [a], [b], _ => exact ⟨a, b, rfl, rfl⟩
  | [], _, h => simp [g11] at h
  | _ :: _ :: _, _, h => simp [g11] at h
  | [_], [], h => simp [g11] at h
  | [_], _ :: _ :: _, h => simp [g11] at h
theorem g01_one {α : Type} {us ws : List α} (h : (g01 us ws).length = 1) : ∃ a, us = [] ∧ ws = [a] := by
  match us, ws, h with
  | [], [a], _ => exact ⟨a, rfl, rfl⟩
  | _ :: _, _, h => simp [g01] at h
  | [], [], h => simp [g01] at h
  | [], _ :: _ :: _, h => simp [g01] at h
theorem Fun.kb11 {K : PySem.W.Frag} {x qual : Str} {st : Stmt} {f : Addr} {fd : FuncData} {p1 p2 : Str} (F : L2.Fun K x qual st f fd)
    (h : ∀ (kV doc pm : Value) (an : Option Addr) (cdv ct a b : Value), bindArgs (PySem.W.fnOf x qual (defArgs st) (defBody st) (defScope st) .none kV doc pm an cdv ct) ⟨[a], [(p2, b)]⟩ = pure [(p1, a), (p2, b)]) : KBinds K fd [p1, p2] [p2] g11 g11 := by
  obtain ⟨oc, od, kV, doc, pm, an, cdv, ct, osl, rfl, lk, hcd⟩ := F.ex
  refine ⟨fun s us ws X hl => ?_, vals_g11⟩
  obtain ⟨a, b, rfl, rfl⟩ := g11_two hl
  exact .of_eq (h _ _ _ _ _ _ a b)
theorem Fun.kb01 {K : PySem.W.Frag} {x qual : Str} {st : Stmt} {f : Addr} {fd : FuncData} {p1 : Str} (F : L2.Fun K x qual st f fd)
    (h : ∀ (kV doc pm : Value) (an : Option Addr) (cdv ct a : Value), bindArgs (PySem.W.fnOf x qual (defArgs st) (defBody st) (defScope st) .none kV doc pm an cdv ct) ⟨[], [(p1, a)]⟩ = pure [(p1, a)]) : KBinds K fd [p1] [p1] g01 g01 := by
  obtain ⟨oc, od, kV, doc, pm, an, cdv, ct, osl, rfl, lk, hcd⟩ := F.ex
  refine ⟨fun s us ws X hl => ?_, vals_g01⟩
  obtain ⟨a, rfl, rfl⟩ := g01_one hl
  exact .of_eq (h _ _ _ _ _ _ a)
/-- a def with defaults, called with keywords, all parameters written: g puts them in order -/
theorem FunD.kbinds1 {K : PySem.W.Frag} {x qual : Str} {params : Arguments} {body : List Stmt} {scope : Scope} {dvs : List V} {kws : List (Str × V)} {f : Addr} {fd : FuncData} {ps : List Str} (F : FunD K x qual params body scope dvs kws f fd) (n : Nat) (ks : List Str) (g : {α : Type} → List α → List α → List α) (hd : dvs ≠ [])
    (hrel : ∀ {vs zs : List V} {us ws : List Value}, Vals vs us → Vals zs ws → Vals (g vs zs) (g us ws))
    (h : ∀ (T : Addr) (kV doc pm : Value) (an : Option Addr) (cdv ct : Value) (us its ws : List Value), us.length = n → its.length = dvs.length → ws.length = ks.length →
      ∃ k, bindArgs (PySem.W.fnOf x qual params body scope (.ref T) kV doc pm an cdv ct) ⟨us, ks.zip ws⟩ = seqItems? (.ref T) >>= k ∧ k (some its.toArray) = pure (ps.zip (g us ws))) : KBn K fd ps n ks (fun us ws => g us ws) (fun vs zs => g vs zs) := by
  obtain ⟨oc, od, dV, kV, doc, pm, an, cdv, ct, osl, rfl, lk, hcd, hD, hK⟩ := F.ex
  rcases hD with ⟨e, _⟩ | ⟨_, T, o, its, m, rfl, lT, oT, rT⟩
  · exact absurd e hd
  · refine ⟨fun s us ws X l1 l2 => BindsTo.of_looks fun M => ?_, hrel⟩
    obtain ⟨k, e1, e2⟩ := h T kV doc pm an cdv ct us its ws l1 rT.length.symm l2
    rw [e1]
    exact looks_items X lT oT (.of_pure e2)
/-- the two values by name, the second parameter first -/
def gSwap {α : Type} (us ws : List α) : List α := us ++ ws.reverse
theorem vals_rev {vs : List V} {us : List Value} (r : Vals vs us) : Vals vs.reverse us.reverse := by
  induction r with
  | nil => exact .nil
  | cons h _ ih => rw [List.reverse_cons, List.reverse_cons]; exact ih.append (.cons h .nil)
theorem vals_swap {vs zs : List V} {us ws : List Value} (r : Vals vs us) (q : Vals zs ws) : Vals (gSwap vs zs) (gSwap us ws) := r.append (vals_rev q)
def gApp {α : Type} (us ws : List α) : List α := us ++ ws
theorem vals_app {vs zs : List V} {us ws : List Value} (r : Vals vs us) (q : Vals zs ws) : Vals (gApp vs zs) (gApp us ws) := r.append q
end TL
namespace TL
open PySem L2
/-! ### a def called by names alone -/
section
variable {X : Cx} {CX : CXT} {k : Nat} {x : Str} {f : Addr} {fd : FuncData} {ps ks : List Str} {sp : Sp} {E : XK} {tk : TA} {kws : List Keyword} {p pos : Pos} {g : List Value → List Value → List Value} {gV : List V → List V → List V}
def tCallK0 (sp : Sp) (gV : List V → List V → List V) (E : XK) (tk : TA) : TE := fun σ H Q => tk σ H fun zs H2 => sp (gV [] zs) H2 Q E
theorem pe_callK0 (F : FnOk X.prog X.w X.K X.mg X.base CX k f fd ps sp) (hr : Room k X.A) (hg : Gl X x) (hm : X.mg x = some (.ref f)) (hk : PySem.W.keepIn X.K (.ref f) = true) (hb : KBinds X.K fd ps ks g gV) (hx : Passes CX X E)
    (hkw : PK X kws tk) (hall : (backToKw pos (keywordEach kws X.env)).all (·.1.isSome) = true := by rfl) (hks : (backToKw pos (keywordEach kws X.env)).filterMap (·.1) = ks := by rfl)
    (hdb : (x == ("__debug__" : Str)) = false := by decide)
    (hpl : ((backTo pos (starEach [] X.env)).any (·.1) || (backToKw pos (keywordEach kws X.env)).any (·.1.isNone)) = false := by rfl) :
    PE X (.Call (.Name x p) [] kws pos) (tCallK0 sp gV E tk) := by
  refine ⟨fun pins s σ H Q I h => ?_⟩
  refine wpAny_Call_Name_kw (ld_glob I hg hm ?_ hdb)
  refine PySem.W.callWith_KW0 (first := []) (h₀ := X.base) I.ok.mod.kin hk hall (thn (hkw.run pos pins s σ H _ I h) fun ws s2 ⟨zs, H2, I2, rz, q2⟩ => ⟨I2.kIn, ?_⟩) hpl
  rw [hks]
  exact run_fnk (us := []) (vs := []) F hr hb hx I2 .nil rz q2
end
/-- two values by name, the second parameter first -/
def g02s {α : Type} : List α → List α → List α
  | [], [a, b] => [b, a]
  | _, _ => []
theorem vals_g02s {vs zs : List V} {us ws : List Value} (r : Vals vs us) (q : Vals zs ws) : Vals (g02s vs zs) (g02s us ws) := by
  rcases r with _ | ⟨h1, _⟩
  · rcases q with _ | ⟨h2, _ | ⟨h3, _ | ⟨_, _⟩⟩⟩ <;> first | exact .nil | exact .cons h3 (.cons h2 .nil)
  · exact .nil
theorem g02s_two {α : Type} {us ws : List α} (h : (g02s us ws).length = 2) : ∃ a b, us = [] ∧ ws = [a, b] := by
  match us, ws, h with
  | [], [a, b], _ => exact ⟨a, b, rfl, rfl⟩
  | _ :: _, _, h => simp [g02s] at h
  | [], [], h => simp [g02s] at h
  | [], [_], h => simp [g02s] at h
  | [], _ :: _ :: _ :: _, h => simp [g02s] at h
theorem Fun.kb02s {K : PySem.W.Frag} {x qual : Str} {st : Stmt} {f : Addr} {fd : FuncData} {p1 p2 : Str} (F : L2.Fun K x qual st f fd)
    (h : ∀ (kV doc pm : Value) (an : Option Addr) (cdv ct a b : Value), bindArgs (PySem.W.fnOf x qual (defArgs st) (defBody st) (defScope st) .none kV doc pm an cdv ct) ⟨[], [(p2, b), (p1, a)]⟩ = pure [(p1, a), (p2, b)]) : KBinds K fd [p1, p2] [p2, p1] g02s g02s := by
  obtain ⟨oc, od, kV, doc, pm, an, cdv, ct, osl, rfl, lk, hcd⟩ := F.ex
  refine ⟨fun s us ws X hl => ?_, vals_g02s⟩
  obtain ⟨a, b, rfl, rfl⟩ := g02s_two hl
  exact .of_eq (h _ _ _ _ _ _ b a)
end TL
namespace PySem.W
open PySem PySem.Spec PySem.Calls PyProof.Rows
section
variable {prog : Program} {w : World} {A : Around} {E : Value → Shared → Prop} {s : Shared} {K : Frag} {x C L : Addr} {h₀ : Heap} {m : Str → Option Value} {ox : Obj} {od : Option Obj} {f : Addr} {b tb : Value} {name : Str} {id : String}
theorem ifBound_KB {M : Model} {args : List Value} {Q : Option Value → Shared → Prop} (X : K.In s.heap) (I : InstAt s.heap x ox C od) (hs : findIn K (.ref C) name = some (some (.builtin id))) (hb : ∀ self, bindSpecial (.builtin id) self = pure (.builtin id, [self]))
    (h : wpAny M A (call (.builtin id) (.ref x :: args)) (fun v => Q (some v)) E s) : wpAny M A (callSpecialIfBound? (.ref x) name args) Q E s := by
  simp only [callSpecialIfBound?, bindSpecialIfBound?]
  refine wpAny_holding (wpAny_bind (wpAny_bind (wpAny_bind (I.type.here ((looks_findIn X hs).here ?_)))))
  refine wpAny_bind (wpAny_askSetting (wpAny_ite ?_))
  have fin : wpAny M A (call (.builtin id) ([.ref x] ++ args) >>= fun v => pure (some v)) Q E s := wpAny_bind (wpAny_mono h (fun v s' h' => wpAny_pure h') fun _ _ h' => h')
  split
  · exact wpAny_bind ((Looks.of_pure (hb _)).here (wpAny_pure (by exact fin)))
  · exact wpAny_tryCatch (wpAny_bind ((Looks.of_pure (hb _)).here (wpAny_pure (by exact fin))))
open Builtin in
theorem one_ne {Q : Value → Shared → Prop} (hu : A.in1.units < cLine) (X : K.In s.heap) (I : InstAt s.heap x ox C od) (hm : mroIn K C (.type "object") = some true) (hr : findIn K (.ref C) "__eq__" = some (some (.ref f))) (hf : isFn K (.ref f) = true)
    (h : wpAny (model prog w) A.in1 (call (.ref f) [.ref x, b]) (fun v s' => ∃ c, v = .bool c ∧ Q (.bool (!c)) s') E s) : wpAny (model prog w) A (call (.builtin "object.__ne__") [.ref x, b]) Q E s := by
  refine wpAny_call (codeAny_call_builtin PySem.F.cmp_object.ne.plain PySem.F.cmpEntry_ne (check_slot (i := "object.__ne__") (owner := "object") (n := "__ne__") (by decide +kernel) (by decide +kernel) (I.type.andThen (looks_mroIn X hm)) (PySem.F.cmpArgs_ne _ _) ?_))
  unfold Builtin.«object.__ne__»
  refine wpAny_bind (m := slotArgs "__ne__" 1 _) (wpAny_pure ?_)
  refine wpAny_bind (m := cRoomFor _ _) (wpAny_cRoomFor hu ?_)
  refine wpAny_bind (m := callSpecialIfBound? (.ref x) (Str.ofString "__eq__") _) (ifBound_K X I hr hf (wpAny_mono h (fun r s' hq => ?_) fun _ _ y => y))
  obtain ⟨c, rfl, hq⟩ := hq
  exact wpAny_bind (wpAny_truthy_bool (wpAny_pure hq))
theorem cmp_KNe {Q : Value → Shared → Prop} (hu : A.units < cLine) (hu1 : A.in1.units < cLine) (F : Fr h₀ L s.heap m) (X₀ : K.In h₀) (I : InstAt s.heap x ox C od) (hb : Looks (model prog w) s.heap (typeOf b) tb) (hn : notFirst K C tb = true)
    (hne : findIn K (.ref C) "__ne__" = some (some (.builtin "object.__ne__"))) (hm : mroIn K C (.type "object") = some true) (hs : findIn K (.ref C) "__eq__" = some (some (.ref f))) (hf : isFn K (.ref f) = true)
    (h : wpAny (model prog w) A.in1 (call (.ref f) [.ref x, b]) (fun v s' => ∃ c, v = .bool c ∧ Q (.bool (!c)) s') E s) : wpAny (model prog w) A (richCompare .NotEq (.ref x) b) Q E s := by
  have X := X₀.keeps F.keep
  have one : wpAny (model prog w) A (tryCompare (.ref x) (cmpInfo .NotEq).2.1 b) (fun r s' => ∃ v, r = some v ∧ Q v s') E s := by
    unfold tryCompare
    refine wpAny_bind (ifBound_KB X I hne PySem.F.cmp_object.ne.bind (one_ne hu1 X I hm hs hf (wpAny_mono h (fun v s' hv => ?_) fun _ _ e => e)))
    obtain ⟨c, rfl, hq⟩ := hv
    exact ⟨c, rfl, wpAny_pure ⟨_, rfl, hq⟩⟩
  unfold richCompare
  simp only [oneThing_ref]
  refine wpAny_holding (wpAny_bind (wpAny_cRoomFor hu ?_))
  refine wpAny_bind (I.type.here (wpAny_bind (hb.here ?_)))
  split
  · rename_i q
    have e : subIn K tb (.ref C) = some false := by
      rcases Bool.or_eq_true_iff.mp hn with e | e
      · rw [beq_iff_eq.mp e] at q; simp at q
      · exact beq_iff_eq.mp e
    refine wpAny_bind ((looks_subIn X e).here ?_)
    simp only [Bool.false_eq_true, if_false]
    refine wpAny_bind (wpAny_mono one (fun r s' z => ?_) fun _ _ e => e)
    obtain ⟨v, rfl, hq⟩ := z
    exact wpAny_pure hq
  · refine wpAny_bind (wpAny_pure ?_)
    simp only [Bool.false_eq_true, if_false]
    refine wpAny_bind (wpAny_mono one (fun r s' z => ?_) fun _ _ e => e)
    obtain ⟨v, rfl, hq⟩ := z
    exact wpAny_pure hq
end
end PySem.W
namespace TL
open PySem L2
section
variable {X : Cx} {C f : Addr} {k : Nat} {fd : FuncData} {ps : List Str} {sp : Sp} {CX : CXT} {E : XK}
/-- x != y, both instances of the class at C that has __eq__ alone -/
def rOwNe (C : Addr) (sp : Sp) (E : XK) : R2 := fun x y H Q => ∃ a dx fs b dy gs, x = .ref a ∧ y = .ref b ∧ H a = some (.ins C dx fs) ∧ H b = some (.ins C dy gs) ∧ sp [x, y] H (fun v H' => ∃ c, v = .bl c ∧ Q (.bl (!c)) H') E
theorem op_owNe (at_ : PySem.W.findIn X.K (.ref C) "__eq__" = some (some (.ref f))) (fn : PySem.W.isFn X.K (.ref f) = true) (ne : PySem.W.findIn X.K (.ref C) "__ne__" = some (some (.builtin "object.__ne__"))) (hm : PySem.W.mroIn X.K C (.type "object") = some true)
    (F : FnOk X.prog X.w X.K X.mg X.base CX k f fd ps sp) (hr : Room (k + 1) X.A) (hb : Binds X.K fd ps []) (hx : Passes CX X.nox E) : OpR X (compareOp .NotEq) (rOwNe C sp E) := by
  intro pins s σ H x y v u Q I rx ry h
  obtain ⟨a, dx, fs, b, dy, gs, rfl, rfl, ha, hb', q⟩ := h
  cases (show v = Value.ref a from rx)
  cases (show u = Value.ref b from ry)
  obtain ⟨od, J⟩ := inst_at I ha
  obtain ⟨od', J'⟩ := inst_at I hb'
  obtain ⟨m, hF⟩ := I.fr
  refine PySem.W.cmp_KNe (tb := .ref C) hr.units0 hr.in1.units0 hF I.ok.mod.kin J J'.type (by simp [PySem.W.notFirst]) ne hm at_ fn ?_
  have hl : ([Value.ref a, Value.ref b] ++ []).length = ps.length := by
    rw [← F.len _ _ _ _ q]
    rfl
  refine wpAny_call (codeAny_mono (F.run X.A.in1 X.stack s H ⟨[.ref a, .ref b], []⟩ [.ref a, .ref b] [.ref a, .ref b] _ E hr.in1 I.env0.in1 (hb s [.ref a, .ref b] I.kIn hl) (.cons rfl (.cons rfl .nil)) q) fun r s' hq => ?_)
  cases r with
  | error er => exact False.elim (hx pins σ H s er s' (I.wish _) hq)
  | ok fl =>
    cases fl with
    | ret u =>
      obtain ⟨v, H', I3, rv, c, rfl, q3⟩ := I.after hq
      cases (show u = Value.bool c from rv)
      exact ⟨c, rfl, .bl (!c), H', I3, rfl, q3⟩
    | next => exact False.elim hq
    | brk => exact False.elim hq
    | cont => exact False.elim hq
end
end TL
namespace TL
open PySem L2
/-- two values by name, in order -/
def g02 {α : Type} : List α → List α → List α
  | [], [a, b] => [a, b]
  | _, _ => []
theorem vals_g02 {vs zs : List V} {us ws : List Value} (r : Vals vs us) (q : Vals zs ws) : Vals (g02 vs zs) (g02 us ws) := by
  rcases r with _ | ⟨h1, _⟩
  · rcases q with _ | ⟨h2, _ | ⟨h3, _ | ⟨_, _⟩⟩⟩ <;> first | exact .nil | exact .cons h2 (.cons h3 .nil)
  · exact .nil
theorem g02_two {α : Type} {us ws : List α} (h : (g02 us ws).length = 2) : ∃ a b, us = [] ∧ ws = [a, b] := by
  match us, ws, h with
  | [], [a, b], _ => exact ⟨a, b, rfl, rfl⟩
  | _ :: _, _, h => simp [g02] at h
  | [], [], h => simp [g02] at h
  | [], [_], h => simp [g02] at h
  | [], _ :: _ :: _ :: _, h => simp [g02] at h
theorem Fun.kb02 {K : PySem.W.Frag} {x qual : Str} {st : Stmt} {f : Addr} {fd : FuncData} {p1 p2 : Str} (F : L2.Fun K x qual st f fd)
    (h : ∀ (kV doc pm : Value) (an : Option Addr) (cdv ct a b : Value), bindArgs (PySem.W.fnOf x qual (defArgs st) (defBody st) (defScope st) .none kV doc pm an cdv ct) ⟨[], [(p1, a), (p2, b)]⟩ = pure [(p1, a), (p2, b)]) : KBinds K fd [p1, p2] [p1, p2] g02 g02 := by
  obtain ⟨oc, od, kV, doc, pm, an, cdv, ct, osl, rfl, lk, hcd⟩ := F.ex
  refine ⟨fun s us ws X hl => ?_, vals_g02⟩
  obtain ⟨a, b, rfl, rfl⟩ := g02_two hl
  exact .of_eq (h _ _ _ _ _ _ a b)
/-- three values by name, the third parameter ahead of the second -/
def g03s {α : Type} : List α → List α → List α
  | [], [a, c, b] => [a, b, c]
  | _, _ => []
theorem vals_g03s {vs zs : List V} {us ws : List Value} (r : Vals vs us) (q : Vals zs ws) : Vals (g03s vs zs) (g03s us ws) := by
  rcases r with _ | ⟨h1, _⟩
  · rcases q with _ | ⟨h2, _ | ⟨h3, _ | ⟨h4, _ | ⟨_, _⟩⟩⟩⟩ <;> first | exact .nil | exact .cons h2 (.cons h4 (.cons h3 .nil))
  · exact .nil
theorem g03s_three {α : Type} {us ws : List α} (h : (g03s us ws).length = 3) : ∃ a c b, us = [] ∧ ws = [a, c, b] := by
  match us, ws, h with
  | [], [a, c, b], _ => exact ⟨a, c, b, rfl, rfl⟩
  | _ :: _, _, h => simp [g03s] at h
  | [], [], h => simp [g03s] at h
  | [], [_], h => simp [g03s] at h
  | [], [_, _], h => simp [g03s] at h
  | [], _ :: _ :: _ :: _ :: _, h => simp [g03s] at h
theorem Fun.kb03s {K : PySem.W.Frag} {x qual : Str} {st : Stmt} {f : Addr} {fd : FuncData} {p1 p2 p3 : Str} (F : L2.Fun K x qual st f fd)
    (h : ∀ (kV doc pm : Value) (an : Option Addr) (cdv ct a c b : Value), bindArgs (PySem.W.fnOf x qual (defArgs st) (defBody st) (defScope st) .none kV doc pm an cdv ct) ⟨[], [(p1, a), (p3, c), (p2, b)]⟩ = pure [(p1, a), (p2, b), (p3, c)]) : KBinds K fd [p1, p2, p3] [p1, p3, p2] g03s g03s := by
  obtain ⟨oc, od, kV, doc, pm, an, cdv, ct, osl, rfl, lk, hcd⟩ := F.ex
  refine ⟨fun s us ws X hl => ?_, vals_g03s⟩
  obtain ⟨a, c, b, rfl, rfl⟩ := g03s_three hl
  exact .of_eq (h _ _ _ _ _ _ a c b)
end TL
namespace TL
open PySem PySem.Spec PyProof.Rows L2
/-! ### max and min of a tuple of ints -/
section
variable {prog : Program} {w : World} {A : Around} {E : Value → Shared → Prop} {s : Shared} {l : Addr} {xs : Array (Int × Tok)}
theorem iter_intTuple {Q : Value → Shared → Prop} (hl : s.heap.IsTuple l (intItems xs))
    (h : ∀ s₂ : Shared, s₂ = { s with heap := s.heap.push { cls := .type "tuple_iterator", data := .fields #[.ref l, .int 0 0] } } →
      (s₂.heap.IsTupleIter s.heap.objs.size l 0 ∧ s₂.heap.IsTuple l (intItems xs)) → (∀ b ∈ [s.heap.objs.size, l], b < s₂.heap.objs.size) → l ≠ s.heap.objs.size → Q (.ref s.heap.objs.size) s₂) :
    wpAny (model prog w) A (pyIter (.ref l)) Q E s := by
  have hlt : l < s.heap.objs.size := by obtain ⟨_, e, _⟩ := hl; exact Heap.lt_size e
  refine wpAny_pyIter_tuple hl (h _ rfl ⟨⟨_, Heap.get?_push_size _ rfl, rfl, rfl⟩, hl.push _⟩ (fun b hb => ?_) (Nat.ne_of_lt hlt))
  show b < (s.heap.push _).objs.size
  rw [Heap.size_push]
  rcases List.mem_cons.mp hb with rfl | hb
  · exact Nat.lt_succ_self _
  · rcases List.mem_cons.mp hb with rfl | hb
    · exact Nat.lt_succ_of_lt hlt
    · cases hb
theorem old_keptT {h' : Heap} (hk : ∀ b o, b ∉ [s.heap.objs.size] → (s.heap.push { cls := .type "tuple_iterator", data := .fields #[.ref l, .int 0 0] }).get? b = some o → h'.get? b = some o) :
    ∀ b o, s.heap.get? b = some o → h'.get? b = some o := fun b o e => by
  refine hk b o (fun hm => ?_) (Heap.get?_push_of_some _ e)
  rcases List.mem_cons.mp hm with e1 | hm
  · rw [e1] at e
    exact absurd (Heap.lt_size e) (Nat.lt_irrefl _)
  · cases hm
theorem max_intTuple {Q : Value → Shared → Prop} (hh : A.handled = none) (hl : s.heap.IsTuple l (intItems xs)) (hne : 0 < xs.size)
    (h : ∀ v h' tk, (intItems xs)[argBest (fun i j => decide (numAt xs i > numAt xs j)) (xs.size - 1)]? = some v → (∀ b o, s.heap.get? b = some o → h'.get? b = some o) → Q v { s with heap := h', toks := tk }) :
    wpAny (model prog w) A (call (.builtin "max") [.ref l]) Q E s := by
  refine call_max_walk (iter_intTuple hl fun s₂ e st hfp hlI => ?_)
  subst e
  refine ⟨_, _, _, _, _, _, _, rfl, Walks.tuple (A := A.in1) hh _ l hlI (intItems xs), st, hfp, by simpa [intItems] using hne, CmpOf.ints_gt (numAt xs) (fun _ _ => intItems_at), fun v h' tk hP hk => ?_⟩
  exact h v h' tk (by simpa [intItems] using hP) (old_keptT hk)
theorem min_intTuple {Q : Value → Shared → Prop} (hh : A.handled = none) (hl : s.heap.IsTuple l (intItems xs)) (hne : 0 < xs.size)
    (h : ∀ v h' tk, (intItems xs)[argBest (fun i j => decide (numAt xs i < numAt xs j)) (xs.size - 1)]? = some v → (∀ b o, s.heap.get? b = some o → h'.get? b = some o) → Q v { s with heap := h', toks := tk }) :
    wpAny (model prog w) A (call (.builtin "min") [.ref l]) Q E s := by
  refine call_min_walk (iter_intTuple hl fun s₂ e st hfp hlI => ?_)
  subst e
  refine ⟨_, _, _, _, _, _, _, rfl, Walks.tuple (A := A.in1) hh _ l hlI (intItems xs), st, hfp, by simpa [intItems] using hne, CmpOf.ints_lt (numAt xs) (fun _ _ => intItems_at), fun v h' tk hP hk => ?_⟩
  exact h v h' tk (by simpa [intItems] using hP) (old_keptT hk)
end
section
variable {prog : Program} {w : World} {A : Around} {E : Value → Shared → Prop} {s : Shared} {l : Addr} {its : List Value} {ns : List Int} {Q : Value → Shared → Prop}
theorem max_rawT (hh : A.handled = none) (hl : s.heap.IsTuple l its.toArray) (hi : IntsAre its ns) (hne : 0 < ns.length)
    (h : ∀ h' tk M t', (∀ b o, s.heap.get? b = some o → h'.get? b = some o) → M ∈ ns → (∀ a, a ∈ ns → a ≤ M) → Q (.int M t') { s with heap := h', toks := tk }) : wpAny (model prog w) A (call (.builtin "max") [.ref l]) Q E s := by
  obtain ⟨xs, e⟩ := hi.allInts.items
  have hn : numsOf (intItems xs).toList = ns := by rw [← e]; exact hi.numsOf
  rw [nums_intItems] at hn
  subst hn
  rw [e] at hl
  have hsz : 0 < xs.size := by simpa using hne
  refine max_intTuple hh hl hsz fun v h' tk hv hk => ?_
  obtain ⟨t, rfl⟩ := intItems_at hv
  obtain ⟨h1, h2⟩ := argBest_gt (numAt xs) (xs.size - 1)
  refine h h' tk _ t hk ?_ fun a ha => ?_
  · rw [numAt_eq]; exact PySem.getD_mem (by rw [List.length_map, Array.length_toList]; omega)
  · obtain ⟨j, hj, rfl⟩ := mem_getD ha
    rw [List.length_map, Array.length_toList] at hj
    rw [← numAt_eq]; exact h2 j (by omega)
theorem min_rawT (hh : A.handled = none) (hl : s.heap.IsTuple l its.toArray) (hi : IntsAre its ns) (hne : 0 < ns.length)
    (h : ∀ h' tk M t', (∀ b o, s.heap.get? b = some o → h'.get? b = some o) → M ∈ ns → (∀ a, a ∈ ns → M ≤ a) → Q (.int M t') { s with heap := h', toks := tk }) : wpAny (model prog w) A (call (.builtin "min") [.ref l]) Q E s := by
  obtain ⟨xs, e⟩ := hi.allInts.items
  have hn : numsOf (intItems xs).toList = ns := by rw [← e]; exact hi.numsOf
  rw [nums_intItems] at hn
  subst hn
  rw [e] at hl
  have hsz : 0 < xs.size := by simpa using hne
  refine min_intTuple hh hl hsz fun v h' tk hv hk => ?_
  obtain ⟨t, rfl⟩ := intItems_at hv
  obtain ⟨h1, h2⟩ := argBest_lt (numAt xs) (xs.size - 1)
  refine h h' tk _ t hk ?_ fun a ha => ?_
  · rw [numAt_eq]; exact PySem.getD_mem (by rw [List.length_map, Array.length_toList]; omega)
  · obtain ⟨j, hj, rfl⟩ := mem_getD ha
    rw [List.length_map, Array.length_toList] at hj
    rw [← numAt_eq]; exact h2 j (by omega)
end
section
variable {X : Cx}
/-- max(xs), min(xs) of a list or a tuple of ints -/
def rMaxS (K : PySem.W.Frag) : List V → Hp → VK → Prop := fun vs H Q => ∃ (a : Addr) (ns : List Int), vs = [V.ref a] ∧ Sq K H a (ns.map V.int) ∧ 0 < ns.length ∧ ∀ m, m ∈ ns → (∀ y, y ∈ ns → y ≤ m) → Q (.int m) H
def rMinS (K : PySem.W.Frag) : List V → Hp → VK → Prop := fun vs H Q => ∃ (a : Addr) (ns : List Int), vs = [V.ref a] ∧ Sq K H a (ns.map V.int) ∧ 0 < ns.length ∧ ∀ m, m ∈ ns → (∀ y, y ∈ ns → m ≤ y) → Q (.int m) H
theorem cr_maxS (hc : X.calm = true) : CallR X (.builtin "max") (rMaxS X.K) := by
  intro pins s σ H vs us Q I r h
  obtain ⟨a, ns, rfl, hs, hne, q⟩ := h
  rcases hs with hs | hs
  · exact cr_max hc pins s σ H _ us Q I r ⟨a, ns, rfl, hs, hne, q⟩
  · obtain ⟨its, rv, hl, _⟩ := I.tuple hs
    rw [Vals.ref1 r]
    exact max_rawT (I.ok.hd hc) hl rv.ints hne fun h' tk m t' hk h1 h2 => ⟨.int _, H, I.kept hk, ⟨_, rfl⟩, q m h1 h2⟩
theorem cr_minS (hc : X.calm = true) : CallR X (.builtin "min") (rMinS X.K) := by
  intro pins s σ H vs us Q I r h
  obtain ⟨a, ns, rfl, hs, hne, q⟩ := h
  rcases hs with hs | hs
  · exact cr_min hc pins s σ H _ us Q I r ⟨a, ns, rfl, hs, hne, q⟩
  · obtain ⟨its, rv, hl, _⟩ := I.tuple hs
    rw [Vals.ref1 r]
    exact min_rawT (I.ok.hd hc) hl rv.ints hne fun h' tk m t' hk h1 h2 => ⟨.int _, H, I.kept hk, ⟨_, rfl⟩, q m h1 h2⟩
end
end TL
namespace TL
theorem pp_bound {k : Nat} : ∀ {ps as : List Nat}, (∀ p ∈ ps, 0 < p) → (∀ a ∈ as, a ≤ k) → pp ps as ≤ ps.foldr (· * ·) 1 ^ k
  | [], _, _, _ => by simp [pp]
  | p :: ps, [], h, _ => by
    have : ∀ qs : List Nat, (∀ q ∈ qs, 0 < q) → 0 < qs.foldr (· * ·) 1 := by
      intro qs
      induction qs with
      | nil => intro _; exact Nat.one_pos
      | cons q qs ih => intro hq; exact Nat.mul_pos (hq q (List.mem_cons_self ..)) (ih fun r hr => hq r (List.mem_cons_of_mem _ hr))
    exact Nat.pow_pos (this (p :: ps) h)
  | p :: ps, a :: as, h, ha => by
    have ih := pp_bound (ps := ps) (as := as) (fun q hq => h q (List.mem_cons_of_mem _ hq)) (fun b hb => ha b (List.mem_cons_of_mem _ hb))
    simp only [pp, List.foldr_cons, Nat.mul_pow]
    exact Nat.mul_le_mul (Nat.pow_le_pow_right (h p (List.mem_cons_self ..)) (ha a (List.mem_cons_self ..))) ih
/-- exponents of at most k -/
def Ex (k : Nat) (e : List Int) : Prop := ∀ x ∈ e, x.natAbs ≤ k
theorem ex_up {k : Nat} {e : List Int} (h : Ex k e) : up e ≤ 30030 ^ k := pp_bound (ps := prs) (by decide) fun a ha => by
  obtain ⟨x, hx, rfl⟩ := List.mem_map.mp (show a ∈ e.map Int.toNat from ha)
  have := h x hx
  omega
theorem ex_neg {k : Nat} {e : List Int} (h : Ex k e) : Ex k (negE e) := fun x hx => by
  obtain ⟨y, hy, rfl⟩ := List.mem_map.mp (show x ∈ e.map (- ·) from hx)
  rw [Int.natAbs_neg]
  exact h y hy
theorem ex_dn {k : Nat} {e : List Int} (h : Ex k e) : dn e ≤ 30030 ^ k := by
  rw [← up_neg]
  exact ex_up (ex_neg h)
theorem ex_mul {k : Nat} {e : List Int} {n : Int} {m : Nat} (hn : n.natAbs ≤ m) (h : Ex k e) : Ex (m * k) (mulE n e) := fun x hx => by
  obtain ⟨y, hy, rfl⟩ := List.mem_map.mp (show x ∈ e.map (n * ·) from hx)
  rw [Int.natAbs_mul]
  exact Nat.mul_le_mul hn (h y hy)
theorem big {k : Nat} (h : k ≤ 266) : 30030 ^ k < 2 ^ 4000 := by
  have h1 : 30030 ^ k ≤ (2 ^ 15) ^ k := Nat.pow_le_pow_left (by decide) k
  rw [← Nat.pow_mul] at h1
  exact Nat.lt_of_le_of_lt h1 (Nat.pow_lt_pow_right (by decide) (by omega))
end TL
namespace TL
theorem pp_sum : ∀ {ps as : List Nat}, (∀ p ∈ ps, 0 < p ∧ p ≤ 13) → pp ps as ≤ 13 ^ as.sum
  | [], _, _ => by simp only [pp]; exact Nat.pow_pos (by decide)
  | p :: ps, [], h => by simp [pp]
  | p :: ps, a :: as, h => by
    have ih := pp_sum (ps := ps) (as := as) (fun q hq => h q (List.mem_cons_of_mem _ hq))
    simp only [pp, List.sum_cons, Nat.pow_add]
    exact Nat.mul_le_mul (Nat.pow_le_pow_left (h p (List.mem_cons_self ..)).2 a) ih
theorem set_sum : ∀ (as : List Nat) (j a : Nat), (as.set j a).sum ≤ as.sum + a
  | [], _, _ => by simp
  | x :: as, 0, a => by simp only [List.set_cons_zero, List.sum_cons]; omega
  | x :: as, j + 1, a => by
    have := set_sum as j a
    simp only [List.set_cons_succ, List.sum_cons]
    omega
theorem sum_le {k : Nat} : ∀ {as : List Nat}, (∀ a ∈ as, a ≤ k) → as.sum ≤ as.length * k
  | [], _ => by simp
  | x :: as, h => by
    have ih := sum_le (as := as) fun a ha => h a (List.mem_cons_of_mem _ ha)
    have := h x (List.mem_cons_self ..)
    simp only [List.sum_cons, List.length_cons, Nat.add_mul, Nat.one_mul]
    omega
theorem prs_le : ∀ p ∈ prs, 0 < p ∧ p ≤ 13 := by decide
theorem upE_le {k : Nat} {e : List Int} (h : Ex k e) : ∀ a ∈ upE e, a ≤ k := fun a ha => by
  obtain ⟨x, hx, rfl⟩ := List.mem_map.mp (show a ∈ e.map Int.toNat from ha)
  have := h x hx
  omega
/-- what is known of a drawn ratio -/
def Kd (e : List Int) : Prop := up e < 2 ^ 200 ∧ dn e < 2 ^ 200
theorem up_sum {e : List Int} {m : Nat} (h : (upE e).sum ≤ m) (hm : m ≤ 50) : up e < 2 ^ 200 :=
  Nat.lt_of_le_of_lt (Nat.le_trans (pp_sum (ps := prs) prs_le) (Nat.pow_le_pow_right (by decide) (Nat.le_trans h hm))) (by decide : 13 ^ 50 < 2 ^ 200)
theorem up_ex3 {e : List Int} (h6 : e.length = 6) (h : Ex 3 e) : up e < 2 ^ 200 := up_sum (m := 18) (Nat.le_trans (sum_le (upE_le h)) (by rw [upE, List.length_map, h6]; decide)) (by decide)
theorem kd_ex3 {e : List Int} (h6 : e.length = 6) (h : Ex 3 e) : Kd e := ⟨up_ex3 h6 h, by rw [← up_neg]; exact up_ex3 (by simpa [negE] using h6) (ex_neg h)⟩
theorem up_set40 {e : List Int} {j : Nat} {v : Int} (h6 : e.length = 6) (h : Ex 1 e) (hv : v.natAbs ≤ 40) : up (e.set j v) < 2 ^ 200 := by
  have e1 : upE (e.set j v) = (upE e).set j v.toNat := by simp only [upE, List.map_set]
  refine up_sum (m := 46) ?_ (by decide)
  rw [e1]
  have h1 := set_sum (upE e) j v.toNat
  have h2 := sum_le (upE_le h)
  have h3 : (upE e).length = 6 := by rw [upE, List.length_map, h6]
  rw [h3] at h2
  omega
theorem kd_set40 {e : List Int} {j : Nat} {v : Int} (h6 : e.length = 6) (h : Ex 1 e) (hv : v.natAbs ≤ 40) : Kd (e.set j v) := ⟨up_set40 h6 h hv, by
  rw [← up_neg]
  have e1 : negE (e.set j v) = (negE e).set j (-v) := by simp only [negE, List.map_set]
  rw [e1]
  exact up_set40 (by simpa [negE] using h6) (ex_neg h) (by omega)⟩
theorem pp_ge : ∀ {ps as : List Nat}, (∀ p ∈ ps, 2 ≤ p) → as.length ≤ ps.length → ∀ a ∈ as, 2 ^ a ≤ pp ps as
  | [], [], _, _, _, h => by cases h
  | [], _ :: _, _, h, _, _ => absurd h (by simp)
  | _ :: _, [], _, _, _, h => by cases h
  | p :: ps, b :: as, hp, hl, a, ha => by
    have pos : ∀ (ps as : List Nat), (∀ p ∈ ps, 2 ≤ p) → 0 < pp ps as := by
      intro ps
      induction ps with
      | nil => intro as _; simp [pp]
      | cons q ps ih => intro as h; cases as with
        | nil => simp [pp]
        | cons c as => exact Nat.mul_pos (Nat.pow_pos (Nat.lt_of_lt_of_le (by decide) (h q (List.mem_cons_self ..)))) (ih as fun r hr => h r (List.mem_cons_of_mem _ hr))
    have hp' : ∀ q ∈ ps, 2 ≤ q := fun q hq => hp q (List.mem_cons_of_mem _ hq)
    simp only [pp]
    have p2 := hp p (List.mem_cons_self ..)
    rcases List.mem_cons.mp ha with z | z
    · rw [z]
      exact Nat.le_trans (Nat.pow_le_pow_left p2 b) (Nat.le_mul_of_pos_right _ (pos ps as hp'))
    · exact Nat.le_trans (pp_ge hp' (by simpa using hl) a z) (Nat.le_mul_of_pos_left _ (Nat.pow_pos (by omega)))
theorem ex_of_up {k : Nat} {e : List Int} (h6 : e.length = 6) (hu : up e < 2 ^ k) (hd : dn e < 2 ^ k) : Ex k e := fun x hx => by
  have h1 := pp_ge (ps := prs) (as := upE e) (by decide) (by rw [upE, List.length_map, h6]; decide) x.toNat (List.mem_map.mpr ⟨x, hx, rfl⟩)
  have h2 := pp_ge (ps := prs) (as := dnE e) (by decide) (by rw [dnE, List.length_map, h6]; decide) (-x).toNat (List.mem_map.mpr ⟨x, hx, rfl⟩)
  have g1 : x.toNat < k := (Nat.pow_lt_pow_iff_right (by decide : 1 < 2)).mp (Nat.lt_of_le_of_lt h1 hu)
  have g2 : (-x).toNat < k := (Nat.pow_lt_pow_iff_right (by decide : 1 < 2)).mp (Nat.lt_of_le_of_lt h2 hd)
  omega
/-- the ratio of the numerator alone -/
def posE (e : List Int) : List Int := e.map fun x => ((x.toNat : Nat) : Int)
theorem pos_len (e : List Int) : (posE e).length = e.length := by simp [posE]
theorem up_posE (e : List Int) : up (posE e) = up e := by
  simp only [up, upE, posE, List.map_map]
  congr 1
theorem pp_zero : ∀ (ps as : List Nat), (∀ a ∈ as, a = 0) → pp ps as = 1
  | [], _, _ => by simp [pp]
  | p :: ps, [], _ => by simp [pp]
  | p :: ps, a :: as, h => by
    have := pp_zero ps as fun b hb => h b (List.mem_cons_of_mem _ hb)
    simp only [pp, this, h a (List.mem_cons_self ..), Nat.pow_zero]
theorem dn_posE (e : List Int) : dn (posE e) = 1 := pp_zero _ _ fun a ha => by
  simp only [dnE, posE, List.map_map, List.mem_map] at ha
  obtain ⟨x, _, rfl⟩ := ha
  show (-(x.toNat : Int)).toNat = 0
  omega
theorem kd_pow {e : List Int} {n : Nat} (h : up e < 2 ^ 200) (hn : n ≤ 200) : up e ^ n < 2 ^ 50000 := by
  have h1 : up e ^ n ≤ (2 ^ 200) ^ n := Nat.pow_le_pow_left (Nat.le_of_lt h) n
  rw [← Nat.pow_mul] at h1
  exact Nat.lt_of_le_of_lt h1 (Nat.pow_lt_pow_right (by decide) (by
    have := Nat.mul_le_mul_left 200 hn
    omega))
end TL
namespace TL
/-- the exponents shifted right -/
def shrE (k : Nat) (as : List Nat) : List Nat := as.map (· / 2 ^ k)
def bitE (k : Nat) (as : List Nat) : List Nat := as.map (· / 2 ^ k % 2)
theorem half_step (a k : Nat) : a / 2 ^ k = a / 2 ^ (k + 1) + a / 2 ^ (k + 1) + a / 2 ^ k % 2 := by
  have h : a / 2 ^ (k + 1) = a / 2 ^ k / 2 := by rw [Nat.pow_succ, Nat.div_div_eq_div_mul]
  rw [h]
  omega
theorem pp_step (k : Nat) : ∀ ps as : List Nat, pp ps (shrE k as) = pp ps (shrE (k + 1) as) * pp ps (shrE (k + 1) as) * pp ps (bitE k as)
  | [], _ => by simp [pp, shrE, bitE]
  | _ :: _, [] => by simp [pp, shrE, bitE]
  | p :: ps, a :: as => by
    have ih := pp_step k ps as
    simp only [shrE, bitE, List.map_cons, pp] at ih ⊢
    rw [ih]
    have e : p ^ (a / 2 ^ k) = p ^ (a / 2 ^ (k + 1)) * p ^ (a / 2 ^ (k + 1)) * p ^ (a / 2 ^ k % 2) := by
      rw [← Nat.pow_add, ← Nat.pow_add, ← half_step]
    rw [e]
    simp only [Nat.mul_assoc, Nat.mul_left_comm, Nat.mul_comm]
theorem pp_pos2 : ∀ {ps : List Nat} (as : List Nat), (∀ p ∈ ps, 2 ≤ p) → 0 < pp ps as
  | [], _, _ => by simp [pp]
  | _ :: _, [], _ => by simp [pp]
  | p :: ps, a :: as, h => Nat.mul_pos (Nat.pow_pos (Nat.lt_of_lt_of_le (by decide) (h p (List.mem_cons_self ..)))) (pp_pos2 as fun q hq => h q (List.mem_cons_of_mem _ hq))
theorem pp_mono : ∀ {ps as bs : List Nat}, (∀ p ∈ ps, 2 ≤ p) → as.length = bs.length → (∀ (i a b : Nat), as[i]? = some a → bs[i]? = some b → a ≤ b) → pp ps as ≤ pp ps bs
  | [], _, _, _, _, _ => by simp [pp]
  | _ :: _, [], [], _, _, _ => Nat.le_refl _
  | _ :: _, [], _ :: _, _, h, _ => absurd h (by simp)
  | _ :: _, _ :: _, [], _, h, _ => absurd h (by simp)
  | p :: ps, a :: as, b :: bs, hp, hl, h => by
    have p2 := hp p (List.mem_cons_self ..)
    exact Nat.mul_le_mul (Nat.pow_le_pow_right (by omega) (h 0 a b rfl rfl)) (pp_mono (fun q hq => hp q (List.mem_cons_of_mem _ hq)) (Nat.succ.inj hl) fun i x y hx hy => h (i + 1) x y hx hy)
theorem pp_shr_le {ps as : List Nat} (k : Nat) (hp : ∀ p ∈ ps, 2 ≤ p) : pp ps (shrE k as) ≤ pp ps as := pp_mono hp (by simp [shrE]) fun i a b ha hb => by
  rw [shrE, List.getElem?_map, hb] at ha
  cases ha
  exact Nat.div_le_self _ _
theorem shr_zero (as : List Nat) : shrE 0 as = as := by simp [shrE]
theorem shr_top {as : List Nat} {n : Nat} (h : ∀ a ∈ as, a < 2 ^ n) (ps : List Nat) : pp ps (shrE n as) = 1 := pp_zero _ _ fun a ha => by
  obtain ⟨b, hb, rfl⟩ := List.mem_map.mp (show a ∈ as.map (· / 2 ^ n) from ha)
  exact Nat.div_eq_of_lt (h b hb)
end TL
namespace TL
/-! ### logarithms -/
/-- the mantissa (scale 2^200) and the exponent of p^(2^k) from below -/
def lgL (p : Nat) : Nat → Nat × Nat
  | 0 => if p < 4 then (p * 2 ^ 199, 1) else if p < 8 then (p * 2 ^ 198, 2) else (p * 2 ^ 197, 3)
  | k + 1 => let (a, m) := lgL p k
    let b := a * a / 2 ^ 200
    if b < 2 ^ 201 then (b, 2 * m) else (b / 2, 2 * m + 1)
def lgU (p : Nat) : Nat → Nat × Nat
  | 0 => if p < 4 then (p * 2 ^ 199, 1) else if p < 8 then (p * 2 ^ 198, 2) else (p * 2 ^ 197, 3)
  | k + 1 => let (a, m) := lgU p k
    let b := a * a / 2 ^ 200 + 1
    if b < 2 ^ 201 then (b, 2 * m) else (b / 2 + 1, 2 * m + 1)
theorem lgL_ok (p : Nat) : ∀ k, 2 ^ (lgL p k).2 * (lgL p k).1 ≤ 2 ^ 200 * p ^ 2 ^ k
  | 0 => by
    have e : ∀ i j : Nat, 2 ^ i * (p * 2 ^ j) = 2 ^ (i + j) * p ^ 2 ^ 0 := fun i j => by rw [Nat.pow_add, Nat.pow_zero, Nat.pow_one]; ac_rfl
    unfold lgL
    split
    · exact Nat.le_of_eq (e 1 199)
    · split
      · exact Nat.le_of_eq (e 2 198)
      · exact Nat.le_of_eq (e 3 197)
  | k + 1 => by
    have ih := lgL_ok p k
    unfold lgL
    generalize lgL p k = am at ih ⊢
    obtain ⟨a, m⟩ := am
    dsimp only at ih ⊢
    have h2 : 2 ^ (2 * m) * (a * a) ≤ 2 ^ 200 * (2 ^ 200 * p ^ 2 ^ (k + 1)) := by
      have := Nat.mul_le_mul ih ih
      rw [Nat.pow_succ 2 k, Nat.pow_mul p, Nat.pow_two, Nat.two_mul, Nat.pow_add]
      calc 2 ^ m * 2 ^ m * (a * a) = 2 ^ m * a * (2 ^ m * a) := by ac_rfl
        _ ≤ _ := this
        _ = _ := by ac_rfl
    have h3 : 2 ^ (2 * m) * (a * a / 2 ^ 200) ≤ 2 ^ 200 * p ^ 2 ^ (k + 1) := by
      refine Nat.le_of_mul_le_mul_left (c := 2 ^ 200) ?_ (Nat.pow_pos (show 0 < 2 by decide))
      calc 2 ^ 200 * (2 ^ (2 * m) * (a * a / 2 ^ 200)) = 2 ^ (2 * m) * (2 ^ 200 * (a * a / 2 ^ 200)) := by ac_rfl
        _ ≤ 2 ^ (2 * m) * (a * a) := Nat.mul_le_mul_left _ (Nat.mul_div_le _ _)
        _ ≤ _ := h2
    split
    · exact h3
    · refine Nat.le_trans ?_ h3
      rw [Nat.pow_succ, Nat.mul_assoc]
      exact Nat.mul_le_mul_left _ (Nat.mul_div_le _ _)
theorem lgU_ok (p : Nat) : ∀ k, 2 ^ 200 * p ^ 2 ^ k ≤ 2 ^ (lgU p k).2 * (lgU p k).1
  | 0 => by
    have e : ∀ i j : Nat, 2 ^ i * (p * 2 ^ j) = 2 ^ (i + j) * p ^ 2 ^ 0 := fun i j => by rw [Nat.pow_add, Nat.pow_zero, Nat.pow_one]; ac_rfl
    unfold lgU
    split
    · exact Nat.le_of_eq (e 1 199).symm
    · split
      · exact Nat.le_of_eq (e 2 198).symm
      · exact Nat.le_of_eq (e 3 197).symm
  | k + 1 => by
    have ih := lgU_ok p k
    unfold lgU
    generalize lgU p k = am at ih ⊢
    obtain ⟨a, m⟩ := am
    dsimp only at ih ⊢
    have h2 : 2 ^ 200 * (2 ^ 200 * p ^ 2 ^ (k + 1)) ≤ 2 ^ (2 * m) * (a * a) := by
      have := Nat.mul_le_mul ih ih
      rw [Nat.pow_succ 2 k, Nat.pow_mul p, Nat.pow_two, Nat.two_mul, Nat.pow_add]
      calc _ = 2 ^ 200 * p ^ 2 ^ k * (2 ^ 200 * p ^ 2 ^ k) := by ac_rfl
        _ ≤ _ := this
        _ = _ := by ac_rfl
    have e1 : a * a ≤ 2 ^ 200 * (a * a / 2 ^ 200 + 1) := by
      have := Nat.lt_mul_div_succ (a * a) (b := 2 ^ 200) (Nat.pow_pos (show 0 < 2 by decide))
      omega
    have h3 : 2 ^ 200 * p ^ 2 ^ (k + 1) ≤ 2 ^ (2 * m) * (a * a / 2 ^ 200 + 1) := by
      refine Nat.le_of_mul_le_mul_left (c := 2 ^ 200) ?_ (Nat.pow_pos (show 0 < 2 by decide))
      calc _ ≤ _ := h2
        _ ≤ 2 ^ (2 * m) * (2 ^ 200 * (a * a / 2 ^ 200 + 1)) := Nat.mul_le_mul_left _ e1
        _ = _ := by ac_rfl
    generalize a * a / 2 ^ 200 + 1 = b at h3 ⊢
    split
    · exact h3
    · refine Nat.le_trans h3 ?_
      rw [Nat.pow_succ, Nat.mul_assoc]
      exact Nat.mul_le_mul_left _ (by omega)
def lgs : List Nat := prs.map fun p => if p = 2 then 2 ^ 160 else (lgL p 160).2
theorem lg_low : ∀ p ∈ [3, 5, 7, 11, 13], 2 ^ 200 ≤ (lgL p 160).1 ∧ (lgU p 160).1 ≤ 2 ^ 201 ∧ (lgU p 160).2 = (lgL p 160).2 := by decide +kernel
end TL
namespace TL
def lg (k p : Nat) : Nat := if p = 2 then 2 ^ k else (lgL p k).2
def LGok (k : Nat) : Prop := ∀ p ∈ [3, 5, 7, 11, 13], 2 ^ 200 ≤ (lgL p k).1 ∧ (lgU p k).1 ≤ 2 ^ 201 ∧ (lgU p k).2 = (lgL p k).2
def LG : List Nat := [1461501637330902918203684832716283019655932542976, 2316425289912052156459349012948135070413798762147, 3393501712442504184481985927731639726947261569016, 4102953815156157747466701420553963045838567941448, 5055964974872705667124156087392374807824543452087, 5408198706907511090757516640326961560951895393234]
def LNs : List Int := [69314718055994530941723212145817656807550013436025, 109861228866810969139524523692252570464749055782274, 160943791243410037460075933322618763952560135426851, 194591014905531330510535274344317972963708472958186, 239789527279837054406194357796512929982170685393741, 256494935746153673605348744156531860480526794476020]
theorem lg_eq : prs.map (lg 160) = LG := by decide +kernel
theorem mem_cases {p : Nat} (h : p ∈ prs) : p = 2 ∨ p ∈ [3, 5, 7, 11, 13] := List.mem_cons.mp h
theorem lg_le {k : Nat} (hk : LGok k) : ∀ p ∈ prs, 2 ^ lg k p ≤ p ^ 2 ^ k ∧ p ^ 2 ^ k ≤ 2 ^ (lg k p + 1) := by
  intro p hp
  have f : p ∈ [3, 5, 7, 11, 13] → 2 ^ lg k p ≤ p ^ 2 ^ k ∧ p ^ 2 ^ k ≤ 2 ^ (lg k p + 1) := fun hq => by
    have h2 : ¬ p = 2 := fun e => by subst e; revert hq; decide
    have h := hk p hq
    have hl := lgL_ok p k
    have hu := lgU_ok p k
    unfold lg
    rw [if_neg h2]
    rw [h.2.2] at hu
    constructor
    · refine Nat.le_of_mul_le_mul_left (c := 2 ^ 200) ?_ (Nat.pow_pos (show 0 < 2 by decide))
      refine Nat.le_trans ?_ hl
      rw [Nat.mul_comm]
      exact Nat.mul_le_mul_left _ h.1
    · refine Nat.le_of_mul_le_mul_left (c := 2 ^ 200) ?_ (Nat.pow_pos (show 0 < 2 by decide))
      refine Nat.le_trans hu ?_
      rw [Nat.pow_succ 2 (lgL p k).2]
      calc 2 ^ (lgL p k).2 * (lgU p k).1 ≤ 2 ^ (lgL p k).2 * 2 ^ 201 := Nat.mul_le_mul_left _ h.2.1
        _ = _ := by rw [show 201 = 200 + 1 from rfl, Nat.pow_succ 2 200]; ac_rfl
  have g : p = 2 → 2 ^ lg k p ≤ p ^ 2 ^ k ∧ p ^ 2 ^ k ≤ 2 ^ (lg k p + 1) := fun e => by
    subst e
    unfold lg
    rw [if_pos rfl]
    exact ⟨Nat.le_refl _, Nat.pow_le_pow_right (by decide) (Nat.le_succ _)⟩
  have := mem_cases hp
  rcases this with h | h
  · exact g h
  · exact f h
def dotN : List Nat → List Nat → Nat
  | a :: as, m :: ms => a * m + dotN as ms
  | _, _ => 0
theorem pp_low {k : Nat} (N : Nat) : ∀ (ps as : List Nat), (∀ p ∈ ps, 2 ^ lg k p ≤ p ^ N) → 2 ^ dotN as (ps.map (lg k)) ≤ pp ps as ^ N
  | [], as, _ => by cases as <;> simp [pp, dotN]
  | p :: ps, [], _ => by simp [pp, dotN]
  | p :: ps, a :: as, h => by
    have ih := pp_low N ps as fun q hq => h q (List.mem_cons_of_mem _ hq)
    have h1 := Nat.pow_le_pow_left (h p (List.mem_cons_self ..)) a
    simp only [pp, dotN, List.map_cons]
    rw [Nat.pow_add, Nat.mul_pow, Nat.mul_comm a, Nat.pow_mul]
    refine Nat.mul_le_mul (Nat.le_trans h1 (Nat.le_of_eq ?_)) ih
    rw [← Nat.pow_mul, ← Nat.pow_mul, Nat.mul_comm]
theorem pp_high {k : Nat} (N : Nat) : ∀ (ps as : List Nat), (∀ p ∈ ps, p ^ N ≤ 2 ^ (lg k p + 1)) → pp ps as ^ N ≤ 2 ^ dotN as (ps.map fun p => lg k p + 1)
  | [], as, _ => by cases as <;> simp [pp, dotN]
  | p :: ps, [], _ => by simp [pp, dotN]
  | p :: ps, a :: as, h => by
    have ih := pp_high N ps as fun q hq => h q (List.mem_cons_of_mem _ hq)
    have h1 := Nat.pow_le_pow_left (h p (List.mem_cons_self ..)) a
    simp only [pp, dotN, List.map_cons]
    rw [Nat.pow_add, Nat.mul_pow, Nat.mul_comm a, Nat.pow_mul 2]
    refine Nat.mul_le_mul (Nat.le_trans (Nat.le_of_eq ?_) h1) ih
    rw [← Nat.pow_mul, ← Nat.pow_mul, Nat.mul_comm]
end TL
namespace TL
theorem log_arith (u0 u1 u2 u3 u4 u5 d0 d1 d2 d3 d4 d5 : Int) (hu0 : 0 ≤ u0 ∧ u0 ≤ 100000000) (hd0 : 0 ≤ d0 ∧ d0 ≤ 100000000) (hu1 : 0 ≤ u1 ∧ u1 ≤ 100000000) (hd1 : 0 ≤ d1 ∧ d1 ≤ 100000000) (hu2 : 0 ≤ u2 ∧ u2 ≤ 100000000) (hd2 : 0 ≤ d2 ∧ d2 ≤ 100000000) (hu3 : 0 ≤ u3 ∧ u3 ≤ 100000000) (hd3 : 0 ≤ d3 ∧ d3 ≤ 100000000) (hu4 : 0 ≤ u4 ∧ u4 ≤ 100000000) (hd4 : 0 ≤ d4 ∧ d4 ≤ 100000000) (hu5 : 0 ≤ u5 ∧ u5 ≤ 100000000) (hd5 : 0 ≤ d5 ∧ d5 ≤ 100000000)
    (h : 1000000000000 < 69314718055994530941723212145817656807550013436025 * (u0 - d0) + 109861228866810969139524523692252570464749055782274 * (u1 - d1) + 160943791243410037460075933322618763952560135426851 * (u2 - d2) + 194591014905531330510535274344317972963708472958186 * (u3 - d3) + 239789527279837054406194357796512929982170685393741 * (u4 - d4) + 256494935746153673605348744156531860480526794476020 * (u5 - d5)) : d0 + d1 + d2 + d3 + d4 + d5 < 1461501637330902918203684832716283019655932542976 * (u0 - d0) + 2316425289912052156459349012948135070413798762147 * (u1 - d1) + 3393501712442504184481985927731639726947261569016 * (u2 - d2) + 4102953815156157747466701420553963045838567941448 * (u3 - d3) + 5055964974872705667124156087392374807824543452087 * (u4 - d4) + 5408198706907511090757516640326961560951895393234 * (u5 - d5) := by
  have e : (1461501637330902918203684832716283019655932542976 : Int) * (69314718055994530941723212145817656807550013436025 * (u0 - d0) + 109861228866810969139524523692252570464749055782274 * (u1 - d1) + 160943791243410037460075933322618763952560135426851 * (u2 - d2) + 194591014905531330510535274344317972963708472958186 * (u3 - d3) + 239789527279837054406194357796512929982170685393741 * (u4 - d4) + 256494935746153673605348744156531860480526794476020 * (u5 - d5)) = 69314718055994530941723212145817656807550013436025 * (1461501637330902918203684832716283019655932542976 * (u0 - d0) + 2316425289912052156459349012948135070413798762147 * (u1 - d1) + 3393501712442504184481985927731639726947261569016 * (u2 - d2) + 4102953815156157747466701420553963045838567941448 * (u3 - d3) + 5055964974872705667124156087392374807824543452087 * (u4 - d4) + 5408198706907511090757516640326961560951895393234 * (u5 - d5)) + ((0) * (u0 - d0) + (43793785050518326854944870603338469797498627861749) * (u1 - d1) + (60981911441409731785930514241249787815400823647176) * (u2 - d2) + (2372752774845158157605543358762903037446802137336) * (u3 - d3) + (19222620487342313207063189792419089258108136679041) * (u4 - d4) + (40797832652188279574759729725535034334507174580670) * (u5 - d5)) := by omega
  have r : (0) * (u0 - d0) + (43793785050518326854944870603338469797498627861749) * (u1 - d1) + (60981911441409731785930514241249787815400823647176) * (u2 - d2) + (2372752774845158157605543358762903037446802137336) * (u3 - d3) + (19222620487342313207063189792419089258108136679041) * (u4 - d4) + (40797832652188279574759729725535034334507174580670) * (u5 - d5) ≤ 16716890240630380958030384772130528424296156490597200000000 := by
    clear e h
    have r0 : (0 : Int) * (u0 - d0) ≤ 0 := by omega
    have r1 : (43793785050518326854944870603338469797498627861749 : Int) * (u1 - d1) ≤ 4379378505051832685494487060333846979749862786174900000000 := by omega
    have r2 : (60981911441409731785930514241249787815400823647176 : Int) * (u2 - d2) ≤ 6098191144140973178593051424124978781540082364717600000000 := by omega
    have r3 : (2372752774845158157605543358762903037446802137336 : Int) * (u3 - d3) ≤ 237275277484515815760554335876290303744680213733600000000 := by omega
    have r4 : (19222620487342313207063189792419089258108136679041 : Int) * (u4 - d4) ≤ 1922262048734231320706318979241908925810813667904100000000 := by omega
    have r5 : (40797832652188279574759729725535034334507174580670 : Int) * (u5 - d5) ≤ 4079783265218827957475972972553503433450717458067000000000 := by omega
    generalize (0 : Int) * (u0 - d0) = t0 at *
    generalize (43793785050518326854944870603338469797498627861749 : Int) * (u1 - d1) = t1 at *
    generalize (60981911441409731785930514241249787815400823647176 : Int) * (u2 - d2) = t2 at *
    generalize (2372752774845158157605543358762903037446802137336 : Int) * (u3 - d3) = t3 at *
    generalize (19222620487342313207063189792419089258108136679041 : Int) * (u4 - d4) = t4 at *
    generalize (40797832652188279574759729725535034334507174580670 : Int) * (u5 - d5) = t5 at *
    clear hu0 hu1 hu2 hu3 hu4 hu5 hd0 hd1 hd2 hd3 hd4 hd5
    omega
  have t : d0 + d1 + d2 + d3 + d4 + d5 ≤ 600000000 := by
    clear e h r
    omega
  generalize 1461501637330902918203684832716283019655932542976 * (u0 - d0) + 2316425289912052156459349012948135070413798762147 * (u1 - d1) + 3393501712442504184481985927731639726947261569016 * (u2 - d2) + 4102953815156157747466701420553963045838567941448 * (u3 - d3) + 5055964974872705667124156087392374807824543452087 * (u4 - d4) + 5408198706907511090757516640326961560951895393234 * (u5 - d5) = X at e ⊢
  generalize 69314718055994530941723212145817656807550013436025 * (u0 - d0) + 109861228866810969139524523692252570464749055782274 * (u1 - d1) + 160943791243410037460075933322618763952560135426851 * (u2 - d2) + 194591014905531330510535274344317972963708472958186 * (u3 - d3) + 239789527279837054406194357796512929982170685393741 * (u4 - d4) + 256494935746153673605348744156531860480526794476020 * (u5 - d5) = S at e h
  generalize (0) * (u0 - d0) + (43793785050518326854944870603338469797498627861749) * (u1 - d1) + (60981911441409731785930514241249787815400823647176) * (u2 - d2) + (2372752774845158157605543358762903037446802137336) * (u3 - d3) + (19222620487342313207063189792419089258108136679041) * (u4 - d4) + (40797832652188279574759729725535034334507174580670) * (u5 - d5) = R at e r
  generalize d0 + d1 + d2 + d3 + d4 + d5 = D at t ⊢
  clear hu0 hu1 hu2 hu3 hu4 hu5 hd0 hd1 hd2 hd3 hd4 hd5
  omega
end TL
namespace TL
/-- the logarithm that the program reckons -/
def LN : List Int := LNs
def logE (e : List Int) : Int := (List.zipWith (· * ·) e LN).sum
theorem toN (x : Int) : ((x.toNat : Nat) : Int) - (((-x).toNat : Nat) : Int) = x := by omega
theorem log_lt0 {k : Nat} (hk : LGok k) (hLG : prs.map (lg k) = LG) {e : List Int} (h6 : e.length = 6) (hE : Ex (10 ^ 8) e) (h : 10 ^ 12 < logE e) : dn e < up e := by
  have lo := pp_low (k := k) (2 ^ k) prs (upE e) fun p hp => (lg_le hk p hp).1
  have hi := pp_high (k := k) (2 ^ k) prs (dnE e) fun p hp => (lg_le hk p hp).2
  have e2 : prs.map (fun p => lg k p + 1) = LG.map (· + 1) := by rw [← hLG, List.map_map]; rfl
  rw [hLG] at lo
  rw [e2] at hi
  have key : dotN (dnE e) (LG.map (· + 1)) < dotN (upE e) LG := by
    match e, h6, hE, h with
    | [e0, e1, e2, e3, e4, e5], _, hE, h =>
      have b : ∀ x ∈ [e0, e1, e2, e3, e4, e5], (0 ≤ ((x.toNat : Nat) : Int) ∧ ((x.toNat : Nat) : Int) ≤ 100000000) ∧ (0 ≤ (((-x).toNat : Nat) : Int) ∧ (((-x).toNat : Nat) : Int) ≤ 100000000) := fun x hx => by
        have := hE x hx
        omega
      have b0 := b e0 (by simp)
      have b1 := b e1 (by simp)
      have b2 := b e2 (by simp)
      have b3 := b e3 (by simp)
      have b4 := b e4 (by simp)
      have b5 := b e5 (by simp)
      have a := log_arith _ _ _ _ _ _ _ _ _ _ _ _ b0.1 b0.2 b1.1 b1.2 b2.1 b2.2 b3.1 b3.2 b4.1 b4.2 b5.1 b5.2
        (by
          rw [toN, toN, toN, toN, toN, toN]
          simp only [logE, LN, LNs, List.zipWith, List.sum_cons, List.sum_nil] at h
          clear b b0 b1 b2 b3 b4 b5 hE lo hi
          omega)
      simp only [upE, dnE, LG, List.map, dotN]
      clear b b0 b1 b2 b3 b4 b5 hE lo hi h
      omega
  have hN : 2 ^ k ≠ 0 := Nat.pos_iff_ne_zero.mp (Nat.pow_pos (by decide))
  generalize 2 ^ k = N at *
  rcases Nat.lt_or_ge (dn e) (up e) with c | c
  · exact c
  · exfalso
    have h1 := Nat.pow_le_pow_left c N
    have h2 : (2 : Nat) ^ dotN (upE e) LG ≤ 2 ^ dotN (dnE e) (LG.map (· + 1)) := Nat.le_trans lo (Nat.le_trans h1 hi)
    have h3 := (Nat.pow_le_pow_iff_right (by decide : 1 < 2)).mp h2
    omega
theorem lgok : LGok 160 := lg_low
theorem log_lt {e : List Int} (h6 : e.length = 6) (hE : Ex (10 ^ 8) e) (h : 10 ^ 12 < logE e) : dn e < up e := log_lt0 lgok lg_eq h6 hE h
theorem log_neg : ∀ (e l : List Int), (List.zipWith (· * ·) (negE e) l).sum = - (List.zipWith (· * ·) e l).sum
  | [], l => by simp [negE]
  | e :: es, [] => by simp [negE]
  | e :: es, l :: ls => by
    have ih := log_neg es ls
    simp only [negE, List.map_cons, List.zipWith_cons_cons, List.sum_cons] at ih ⊢
    rw [ih, Int.neg_mul]
    omega
theorem log_add : ∀ (e f l : List Int), e.length = f.length → (List.zipWith (· * ·) (addE e f) l).sum = (List.zipWith (· * ·) e l).sum + (List.zipWith (· * ·) f l).sum
  | [], [], l, _ => by simp [addE]
  | [], _ :: _, _, h => by simp at h
  | _ :: _, [], _, h => by simp at h
  | e :: es, f :: fs, [], _ => by simp [addE]
  | e :: es, f :: fs, l :: ls, h => by
    have ih := log_add es fs ls (Nat.succ.inj h)
    simp only [addE, List.zipWith_cons_cons, List.sum_cons] at ih ⊢
    rw [ih, Int.add_mul]
    omega
theorem log_gt {e : List Int} (h6 : e.length = 6) (hE : Ex (10 ^ 8) e) (h : logE e < - 10 ^ 12) : up e < dn e := by
  have := log_lt (e := negE e) (by simpa [negE] using h6) (ex_neg hE) (by
    have : logE (negE e) = - logE e := log_neg e LN
    rw [this]
    omega)
  rwa [up_neg, dn_neg] at this
theorem below_iff {x y : List Int} (hx : x.length = 6) (hy : y.length = 6) : up x * dn y < up y * dn x ↔ dn (addE y (negE x)) < up (addE y (negE x)) := by
  have hl : y.length = (negE x).length := by simp [negE, hx, hy]
  have h1 := up_mul y (negE x) hl
  have h2 := dn_mul y (negE x) hl
  rw [up_neg] at h1
  rw [dn_neg, Nat.mul_comm] at h2
  rw [h1, h2]
  have hp : 0 < pp prs (both y (negE x)) := pp_pos _ pc_prs
  exact ⟨fun h => Nat.lt_of_mul_lt_mul_left h, fun h => Nat.mul_lt_mul_of_pos_left h hp⟩
/-- where the logarithms are far from one another, they tell which ratio is less -/
theorem below_log {x y : List Int} (hx : x.length = 6) (hy : y.length = 6) (ex : Ex (10 ^ 7) x) (ey : Ex (10 ^ 7) y) (h : 10 ^ 12 < (logE y - logE x).natAbs) : up x * dn y < up y * dn x ↔ 0 < logE y - logE x := by
  rw [below_iff hx hy]
  have hs : (addE y (negE x)).length = 6 := by simp [addE, negE, hx, hy]
  have e1 : logE (addE y (negE x)) = logE y - logE x := by
    have a := log_add y (negE x) LN (by simp [negE, hx, hy])
    have b := log_neg x LN
    show (List.zipWith (· * ·) (addE y (negE x)) LN).sum = (List.zipWith (· * ·) y LN).sum - (List.zipWith (· * ·) x LN).sum
    rw [a, b]
    omega
  have hE : Ex (10 ^ 8) (addE y (negE x)) := fun v hv => by
    simp only [addE, negE] at hv
    obtain ⟨i, hi, rfl⟩ := List.mem_iff_getElem.mp hv
    simp only [List.length_zipWith, List.length_map] at hi
    rw [List.getElem_zipWith, List.getElem_map]
    have := ex x[i] (List.getElem_mem _)
    have := ey y[i] (List.getElem_mem _)
    omega
  rw [← e1] at h ⊢
  constructor
  · intro c
    rcases Int.lt_or_le 0 (logE (addE y (negE x))) with d | d
    · exact d
    · exact absurd (log_gt hs hE (by omega)) (by omega)
  · intro c
    exact log_lt hs hE (by omega)
end TL
namespace TL
open PySem L2

def top (i : Nat) : Stmt := PySem.Challenge.pw_turnsleft_k04_lists_of_ratios_and_tones.main.body.getD i (.Pass ⟨0, 0, 0, 0⟩)
abbrev s_log_of : Stmt := top 9
abbrev N_log_of : List Str := ["powers", "power", "log"]
theorem sc_log_of : FnScope N_log_of ["powers"] (defScope s_log_of) := ⟨rfl, rfl, rfl, by decide +kernel, rfl, by decide +kernel, by decide +kernel⟩
abbrev s_is_number : Stmt := top 13
abbrev N_is_number : List Str := ["value"]
theorem sc_is_number : FnScope N_is_number ["value"] (defScope s_is_number) := ⟨rfl, rfl, rfl, by decide +kernel, rfl, by decide +kernel, by decide +kernel⟩
abbrev s_tone_of : Stmt := top 14
abbrev N_tone_of : List Str := ["over", "under", "shared"]
theorem sc_tone_of : FnScope N_tone_of ["over", "under"] (defScope s_tone_of) := ⟨rfl, rfl, rfl, by decide +kernel, rfl, by decide +kernel, by decide +kernel⟩
abbrev s_Ratio_init : Stmt := inClass (top 22) 0
abbrev N_Ratio_init : List Str := ["self", "over", "under", "shared"]
theorem sc_Ratio_init : FnScope N_Ratio_init ["self", "over", "under"] (defScope s_Ratio_init) := ⟨rfl, rfl, rfl, by decide +kernel, rfl, by decide +kernel, by decide +kernel⟩
abbrev s_Ratio_powers : Stmt := inClass (top 22) 3
abbrev N_Ratio_powers : List Str := ["self"]
theorem sc_Ratio_powers : FnScope N_Ratio_powers ["self"] (defScope s_Ratio_powers) := ⟨rfl, rfl, rfl, by decide +kernel, rfl, by decide +kernel, by decide +kernel⟩
abbrev s_Ratio_mul : Stmt := inClass (top 22) 9
abbrev N_Ratio_mul : List Str := ["self", "other", "one", "two"]
theorem sc_Ratio_mul : FnScope N_Ratio_mul ["self", "other"] (defScope s_Ratio_mul) := ⟨rfl, rfl, rfl, by decide +kernel, rfl, by decide +kernel, by decide +kernel⟩
abbrev s_Ratio_eq : Stmt := inClass (top 22) 11
abbrev N_Ratio_eq : List Str := ["self", "other"]
theorem sc_Ratio_eq : FnScope N_Ratio_eq ["self", "other"] (defScope s_Ratio_eq) := ⟨rfl, rfl, rfl, by decide +kernel, rfl, by decide +kernel, by decide +kernel⟩
abbrev s__raised : Stmt := top 23
abbrev N__raised : List Str := ["base", "exponent", "raised"]
theorem sc__raised : FnScope N__raised ["base", "exponent"] (defScope s__raised) := ⟨rfl, rfl, rfl, by decide +kernel, rfl, by decide +kernel, by decide +kernel⟩
abbrev s__made_of : Stmt := top 24
abbrev N__made_of : List Str := ["powers", "number", "at", "prime", "power"]
theorem sc__made_of : FnScope N__made_of ["powers"] (defScope s__made_of) := ⟨rfl, rfl, rfl, by decide +kernel, rfl, by decide +kernel, by decide +kernel⟩
abbrev s__fraction_of : Stmt := top 25
abbrev N__fraction_of : List Str := ["powers", "over", "under", "prime", "power"]
theorem sc__fraction_of : FnScope N__fraction_of ["powers"] (defScope s__fraction_of) := ⟨rfl, rfl, rfl, by decide +kernel, rfl, by decide +kernel, by decide +kernel⟩
abbrev s_ratio_with : Stmt := top 26
abbrev N_ratio_with : List Str := ["powers", "over", "under", "ratio"]
theorem sc_ratio_with : FnScope N_ratio_with ["powers"] (defScope s_ratio_with) := ⟨rfl, rfl, rfl, by decide +kernel, rfl, by decide +kernel, by decide +kernel⟩
abbrev s__split : Stmt := top 27
abbrev N__split : List Str := ["number", "divisor", "many", "rest", "remainder"]
theorem sc__split : FnScope N__split ["number", "divisor"] (defScope s__split) := ⟨rfl, rfl, rfl, by decide +kernel, rfl, by decide +kernel, by decide +kernel⟩
abbrev s__powers_in : Stmt := top 28
abbrev N__powers_in : List Str := ["number", "powers", "at", "prime", "many", "few"]
theorem sc__powers_in : FnScope N__powers_in ["number"] (defScope s__powers_in) := ⟨rfl, rfl, rfl, by decide +kernel, rfl, by decide +kernel, by decide +kernel⟩
abbrev s__powers_of : Stmt := top 29
abbrev N__powers_of : List Str := ["over", "under", "up", "down"]
theorem sc__powers_of : FnScope N__powers_of ["over", "under"] (defScope s__powers_of) := ⟨rfl, rfl, rfl, by decide +kernel, rfl, by decide +kernel, by decide +kernel⟩
abbrev s_multiplied : Stmt := top 30
abbrev N_multiplied : List Str := ["ratios", "powers", "ratio", "own", "power"]
theorem sc_multiplied : FnScope N_multiplied ["ratios"] (defScope s_multiplied) := ⟨rfl, rfl, rfl, by decide +kernel, rfl, by decide +kernel, by decide +kernel⟩
abbrev s__exact_order : Stmt := top 31
abbrev N__exact_order : List Str := ["ratios", "shared", "ratio", "keyed", "at", "_"]
theorem sc__exact_order : FnScope N__exact_order ["ratios"] (defScope s__exact_order) := ⟨rfl, rfl, rfl, by decide +kernel, rfl, by decide +kernel, by decide +kernel⟩
abbrev s_order_of : Stmt := top 32
abbrev N_order_of : List Str := ["ratios", "logs", "keyed", "order", "at", "above", "ratio", "_", "log"]
theorem sc_order_of : FnScope N_order_of ["ratios"] (defScope s_order_of) := ⟨rfl, rfl, rfl, by decide +kernel, rfl, by decide +kernel, by decide +kernel⟩
abbrev s_in_order : Stmt := top 33
abbrev N_in_order : List Str := ["ratios", "found", "at"]
theorem sc_in_order : FnScope N_in_order ["ratios"] (defScope s_in_order) := ⟨rfl, rfl, rfl, by decide +kernel, rfl, by decide +kernel, by decide +kernel⟩
abbrev s_led : Stmt := top 35
abbrev N_led : List Str := ["tone", "ratio"]
theorem sc_led : FnScope N_led ["tone", "ratio"] (defScope s_led) := ⟨rfl, rfl, rfl, by decide +kernel, rfl, by decide +kernel, by decide +kernel⟩
abbrev s_compared : Stmt := top 36
abbrev N_compared : List Str := ["tone", "ratio", "own", "other"]
theorem sc_compared : FnScope N_compared ["tone", "ratio"] (defScope s_compared) := ⟨rfl, rfl, rfl, by decide +kernel, rfl, by decide +kernel, by decide +kernel⟩
abbrev s_within : Stmt := top 37
abbrev N_within : List Str := ["tone", "start", "length"]
theorem sc_within : FnScope N_within ["tone", "start", "length"] (defScope s_within) := ⟨rfl, rfl, rfl, by decide +kernel, rfl, by decide +kernel, by decide +kernel⟩
abbrev s_l_bag : Stmt := top 39
abbrev N_l_bag : List Str := ["_law_script", "_law_seed", "_law_cell"]
theorem sc_l_bag : FnScope N_l_bag ["_law_script"] (defScope s_l_bag) := ⟨rfl, rfl, rfl, by decide +kernel, rfl, by decide +kernel, by decide +kernel⟩
abbrev s_l_draw : Stmt := top 40
abbrev N_l_draw : List Str := ["_law_bag_here", "_law_sides", "_law_cell", "_law_digit", "_law_seed"]
theorem sc_l_draw : FnScope N_l_draw ["_law_bag_here", "_law_sides"] (defScope s_l_draw) := ⟨rfl, rfl, rfl, by decide +kernel, rfl, by decide +kernel, by decide +kernel⟩
abbrev s_l_of : Stmt := top 41
abbrev N_l_of : List Str := ["_law_bag_here", "_law_things"]
theorem sc_l_of : FnScope N_l_of ["_law_bag_here", "_law_things"] (defScope s_l_of) := ⟨rfl, rfl, rfl, by decide +kernel, rfl, by decide +kernel, by decide +kernel⟩
abbrev s_l_same : Stmt := top 42
abbrev N_l_same : List Str := ["_law_found", "_law_due", "_law_x", "_law_y"]
theorem sc_l_same : FnScope N_l_same ["_law_found", "_law_due"] (defScope s_l_same) := ⟨rfl, rfl, rfl, by decide +kernel, rfl, by decide +kernel, by decide +kernel⟩
abbrev s_l_gcd : Stmt := top 43
abbrev N_l_gcd : List Str := ["_law_x", "_law_y"]
theorem sc_l_gcd : FnScope N_l_gcd ["_law_x", "_law_y"] (defScope s_l_gcd) := ⟨rfl, rfl, rfl, by decide +kernel, rfl, by decide +kernel, by decide +kernel⟩
abbrev s_l_low : Stmt := top 44
abbrev N_l_low : List Str := ["_law_num", "_law_den", "_law_common"]
theorem sc_l_low : FnScope N_l_low ["_law_num", "_law_den"] (defScope s_l_low) := ⟨rfl, rfl, rfl, by decide +kernel, rfl, by decide +kernel, by decide +kernel⟩
abbrev s_l_mul : Stmt := top 45
abbrev N_l_mul : List Str := ["_law_x", "_law_y"]
theorem sc_l_mul : FnScope N_l_mul ["_law_x", "_law_y"] (defScope s_l_mul) := ⟨rfl, rfl, rfl, by decide +kernel, rfl, by decide +kernel, by decide +kernel⟩
abbrev s_l_less : Stmt := top 46
abbrev N_l_less : List Str := ["_law_x", "_law_y"]
theorem sc_l_less : FnScope N_l_less ["_law_x", "_law_y"] (defScope s_l_less) := ⟨rfl, rfl, rfl, by decide +kernel, rfl, by decide +kernel, by decide +kernel⟩
abbrev s_l_product : Stmt := top 47
abbrev N_l_product : List Str := ["_law_things", "_law_found", "_law_x"]
theorem sc_l_product : FnScope N_l_product ["_law_things"] (defScope s_l_product) := ⟨rfl, rfl, rfl, by decide +kernel, rfl, by decide +kernel, by decide +kernel⟩
abbrev s_l_step : Stmt := top 48
abbrev N_l_step : List Str := ["_law_bag_here", "_law_small"]
theorem sc_l_step : FnScope N_l_step ["_law_bag_here"] (defScope s_l_step) := ⟨rfl, rfl, rfl, by decide +kernel, rfl, by decide +kernel, by decide +kernel⟩
abbrev s_l_length : Stmt := top 49
abbrev N_l_length : List Str := ["_law_bag_here", "_law_x"]
theorem sc_l_length : FnScope N_l_length ["_law_bag_here"] (defScope s_l_length) := ⟨rfl, rfl, rfl, by decide +kernel, rfl, by decide +kernel, by decide +kernel⟩
abbrev s_l_ratio : Stmt := top 50
abbrev N_l_ratio : List Str := ["_law_bag_here", "_law_x", "_law_m"]
theorem sc_l_ratio : FnScope N_l_ratio ["_law_bag_here", "_law_x"] (defScope s_l_ratio) := ⟨rfl, rfl, rfl, by decide +kernel, rfl, by decide +kernel, by decide +kernel⟩
abbrev s_l_is : Stmt := top 51
abbrev N_l_is : List Str := ["_law_x"]
theorem sc_l_is : FnScope N_l_is ["_law_x"] (defScope s_l_is) := ⟨rfl, rfl, rfl, by decide +kernel, rfl, by decide +kernel, by decide +kernel⟩
abbrev s_l_seen : Stmt := top 52
abbrev N_l_seen : List Str := ["_law_thing", "_law_x"]
theorem sc_l_seen : FnScope N_l_seen ["_law_thing"] (defScope s_l_seen) := ⟨rfl, rfl, rfl, by decide +kernel, rfl, by decide +kernel, by decide +kernel⟩
abbrev s_l_ranked : Stmt := top 53
abbrev N_l_ranked : List Str := ["_law_things", "_law_spot", "_law_found", "_law_thing", "_law_j"]
theorem sc_l_ranked : FnScope N_l_ranked ["_law_things", "_law_spot"] (defScope s_l_ranked) := ⟨rfl, rfl, rfl, by decide +kernel, rfl, by decide +kernel, by decide +kernel⟩
abbrev s_l_list_so : Stmt := top 54
abbrev N_l_list_so : List Str := ["_law_bag_here", "_law_size", "_law_drawn", "_law_pool", "_law_turn", "_law_x", "_law_lot", "_law_kept", "_law_different", "_law_due", "_law_product_here", "_law_told", "_law_answer"]
theorem sc_l_list_so : FnScope N_l_list_so ["_law_bag_here"] (defScope s_l_list_so) := ⟨rfl, rfl, rfl, by decide +kernel, rfl, by decide +kernel, by decide +kernel⟩
abbrev s_l_beside : Stmt := top 55
abbrev N_l_beside : List Str := ["_law_bag_here", "_law_x", "_law_wide", "_law_step_here"]
theorem sc_l_beside : FnScope N_l_beside ["_law_bag_here", "_law_x"] (defScope s_l_beside) := ⟨rfl, rfl, rfl, by decide +kernel, rfl, by decide +kernel, by decide +kernel⟩
abbrev s_l_tone_so : Stmt := top 56
abbrev N_l_tone_so : List Str := ["_law_bag_here", "_law_x", "_law_low_here", "_law_span", "_law_high", "_law_drawn", "_law_y", "_law_a", "_law_b", "_law_c", "_law_signs", "_law_z", "_law_told", "_law_inside"]
theorem sc_l_tone_so : FnScope N_l_tone_so ["_law_bag_here"] (defScope s_l_tone_so) := ⟨rfl, rfl, rfl, by decide +kernel, rfl, by decide +kernel, by decide +kernel⟩
abbrev s_law : Stmt := top 57
abbrev N_law : List Str := ["_law_script", "_law_bag_here", "_law_turn"]
theorem sc_law : FnScope N_law ["_law_script"] (defScope s_law) := ⟨rfl, rfl, rfl, by decide +kernel, rfl, by decide +kernel, by decide +kernel⟩
structure InsOk (K : PySem.W.Frag) (C : Addr) : Prop where
  ca : PySem.W.findIn K (.ref C) "__class__" = some (some (.builtin "object.__class__"))
  cn : PySem.W.specialIn K (.builtin "object.__class__") "__get__" = some (some (.builtin "getset_descriptor.__get__"))
  ct : PySem.W.takesIn K (.builtin "object.__class__") = some true
  cm : PySem.W.mroIn K C (.type "object") = some true
  me : PySem.W.kitOne K (.ref C) (.ref C) = some true
def PR : List (Nat × Nat) := [(0, 1), (0, 2), (0, 3), (0, 4), (0, 5), (1, 2), (1, 3), (1, 4), (1, 5), (2, 3), (2, 4), (2, 5), (3, 4), (3, 5), (4, 5)]
set_option maxHeartbeats 0 in
structure Tx (K : PySem.W.Frag) (mg : Str → Option Value) : Type where
  z_len : mg "len" = none
  z_abs : mg "abs" = none
  z_int : mg "int" = none
  z_isinstance : mg "isinstance" = none
  z_list : mg "list" = none
  z_tuple : mg "tuple" = none
  z_bool : mg "bool" = none
  z_str : mg "str" = none
  z_all : mg "all" = none
  z_zip : mg "zip" = none
  z_range : mg "range" = none
  z_enumerate : mg "enumerate" = none
  z_divmod : mg "divmod" = none
  z_max : mg "max" = none
  z_min : mg "min" = none
  z_reversed : mg "reversed" = none
  z_sum : mg "sum" = none
  z_sorted : mg "sorted" = none
  C_Ratio : Addr
  c_Ratio : Cls K C_Ratio
  g_Ratio : mg "Ratio" = some (.ref C_Ratio)
  n_Ratio_over : NoAttr K C_Ratio "over"
  n_Ratio_under : NoAttr K C_Ratio "under"
  n_Ratio_powers : NoAttr K C_Ratio "_powers"
  i_Ratio : InsOk K C_Ratio
  e_PRIMES : Addr
  m_PRIMES : mg "PRIMES" = some (.ref e_PRIMES)
  q_PRIMES : ∀ H : Hp, SqT K H e_PRIMES [.int 2, .int 3, .int 5, .int 7, .int 11, .int 13]
  e_NO_POWERS : Addr
  m_NO_POWERS : mg "NO_POWERS" = some (.ref e_NO_POWERS)
  q_NO_POWERS : ∀ H : Hp, SqT K H e_NO_POWERS [.int 0, .int 0, .int 0, .int 0, .int 0, .int 0]
  e_LOGS : Addr
  m_LOGS : mg "LOGS" = some (.ref e_LOGS)
  q_LOGS : ∀ H : Hp, SqT K H e_LOGS [.int 69314718055994530941723212145817656807550013436025, .int 109861228866810969139524523692252570464749055782274, .int 160943791243410037460075933322618763952560135426851, .int 194591014905531330510535274344317972963708472958186, .int 239789527279837054406194357796512929982170685393741, .int 256494935746153673605348744156531860480526794476020]
  m_gcd : mg "gcd" = some (.builtin "math.gcd")
  t_SLACK : Tok
  m_SLACK : mg "SLACK" = some (.int 1000000000000 t_SLACK)
  t_MANY : Tok
  m_MANY : mg "MANY" = some (.int 500 t_MANY)
  f_log_of : Addr
  d_log_of : FuncData
  F_log_of : Fun K "log_of" "log_of" s_log_of f_log_of d_log_of
  b_log_of : Binds K d_log_of ["powers"] []
  m_log_of : mg "log_of" = some (.ref f_log_of)
  f_is_number : Addr
  d_is_number : FuncData
  F_is_number : Fun K "is_number" "is_number" s_is_number f_is_number d_is_number
  b_is_number : Binds K d_is_number ["value"] []
  m_is_number : mg "is_number" = some (.ref f_is_number)
  f_tone_of : Addr
  d_tone_of : FuncData
  F_tone_of : Fun K "tone_of" "tone_of" s_tone_of f_tone_of d_tone_of
  b_tone_of : Binds K d_tone_of ["over", "under"] []
  m_tone_of : mg "tone_of" = some (.ref f_tone_of)
  f_Ratio_init : Addr
  d_Ratio_init : FuncData
  F_Ratio_init : FunD K "__init__" "Ratio.__init__" (defArgs s_Ratio_init) (defBody s_Ratio_init) (defScope s_Ratio_init) [V.int 1] [] f_Ratio_init d_Ratio_init
  ds_Ratio_init : List Value
  v_Ratio_init : Vals [V.int 1] ds_Ratio_init
  b_Ratio_init : Binds K d_Ratio_init ["self", "over", "under"] []
  b1_Ratio_init : Binds K d_Ratio_init ["self", "over", "under"] ds_Ratio_init
  k_Ratio : Mk K C_Ratio f_Ratio_init
  f_Ratio_powers : Addr
  d_Ratio_powers : FuncData
  F_Ratio_powers : Fun K "powers" "Ratio.powers" s_Ratio_powers f_Ratio_powers d_Ratio_powers
  b_Ratio_powers : Binds K d_Ratio_powers ["self"] []
  a_Ratio_powers : Meth K C_Ratio "powers" f_Ratio_powers
  f_Ratio_mul : Addr
  d_Ratio_mul : FuncData
  F_Ratio_mul : Fun K "__mul__" "Ratio.__mul__" s_Ratio_mul f_Ratio_mul d_Ratio_mul
  b_Ratio_mul : Binds K d_Ratio_mul ["self", "other"] []
  a_Ratio_mul : Meth K C_Ratio "__mul__" f_Ratio_mul
  f_Ratio_eq : Addr
  d_Ratio_eq : FuncData
  F_Ratio_eq : Fun K "__eq__" "Ratio.__eq__" s_Ratio_eq f_Ratio_eq d_Ratio_eq
  b_Ratio_eq : Binds K d_Ratio_eq ["self", "other"] []
  a_Ratio_eq : Meth K C_Ratio "__eq__" f_Ratio_eq
  f__raised : Addr
  d__raised : FuncData
  F__raised : Fun K "_raised" "_raised" s__raised f__raised d__raised
  b__raised : Binds K d__raised ["base", "exponent"] []
  m__raised : mg "_raised" = some (.ref f__raised)
  f__made_of : Addr
  d__made_of : FuncData
  F__made_of : Fun K "_made_of" "_made_of" s__made_of f__made_of d__made_of
  b__made_of : Binds K d__made_of ["powers"] []
  m__made_of : mg "_made_of" = some (.ref f__made_of)
  f__fraction_of : Addr
  d__fraction_of : FuncData
  F__fraction_of : Fun K "_fraction_of" "_fraction_of" s__fraction_of f__fraction_of d__fraction_of
  b__fraction_of : Binds K d__fraction_of ["powers"] []
  m__fraction_of : mg "_fraction_of" = some (.ref f__fraction_of)
  f_ratio_with : Addr
  d_ratio_with : FuncData
  F_ratio_with : Fun K "ratio_with" "ratio_with" s_ratio_with f_ratio_with d_ratio_with
  b_ratio_with : Binds K d_ratio_with ["powers"] []
  m_ratio_with : mg "ratio_with" = some (.ref f_ratio_with)
  f__split : Addr
  d__split : FuncData
  F__split : Fun K "_split" "_split" s__split f__split d__split
  b__split : Binds K d__split ["number", "divisor"] []
  m__split : mg "_split" = some (.ref f__split)
  f__powers_in : Addr
  d__powers_in : FuncData
  F__powers_in : Fun K "_powers_in" "_powers_in" s__powers_in f__powers_in d__powers_in
  b__powers_in : Binds K d__powers_in ["number"] []
  m__powers_in : mg "_powers_in" = some (.ref f__powers_in)
  f__powers_of : Addr
  d__powers_of : FuncData
  F__powers_of : Fun K "_powers_of" "_powers_of" s__powers_of f__powers_of d__powers_of
  b__powers_of : Binds K d__powers_of ["over", "under"] []
  m__powers_of : mg "_powers_of" = some (.ref f__powers_of)
  f_multiplied : Addr
  d_multiplied : FuncData
  F_multiplied : Fun K "multiplied" "multiplied" s_multiplied f_multiplied d_multiplied
  b_multiplied : Binds K d_multiplied ["ratios"] []
  m_multiplied : mg "multiplied" = some (.ref f_multiplied)
  f__exact_order : Addr
  d__exact_order : FuncData
  F__exact_order : Fun K "_exact_order" "_exact_order" s__exact_order f__exact_order d__exact_order
  b__exact_order : Binds K d__exact_order ["ratios"] []
  m__exact_order : mg "_exact_order" = some (.ref f__exact_order)
  f_order_of : Addr
  d_order_of : FuncData
  F_order_of : Fun K "order_of" "order_of" s_order_of f_order_of d_order_of
  b_order_of : Binds K d_order_of ["ratios"] []
  m_order_of : mg "order_of" = some (.ref f_order_of)
  f_in_order : Addr
  d_in_order : FuncData
  F_in_order : Fun K "in_order" "in_order" s_in_order f_in_order d_in_order
  b_in_order : Binds K d_in_order ["ratios"] []
  m_in_order : mg "in_order" = some (.ref f_in_order)
  f_led : Addr
  d_led : FuncData
  F_led : Fun K "led" "led" s_led f_led d_led
  b_led : Binds K d_led ["tone", "ratio"] []
  m_led : mg "led" = some (.ref f_led)
  f_compared : Addr
  d_compared : FuncData
  F_compared : Fun K "compared" "compared" s_compared f_compared d_compared
  b_compared : Binds K d_compared ["tone", "ratio"] []
  m_compared : mg "compared" = some (.ref f_compared)
  f_within : Addr
  d_within : FuncData
  F_within : Fun K "within" "within" s_within f_within d_within
  b_within : Binds K d_within ["tone", "start", "length"] []
  m_within : mg "within" = some (.ref f_within)
  f_l_bag : Addr
  d_l_bag : FuncData
  F_l_bag : Fun K "_law_bag" "_law_bag" s_l_bag f_l_bag d_l_bag
  b_l_bag : Binds K d_l_bag ["_law_script"] []
  m_l_bag : mg "_law_bag" = some (.ref f_l_bag)
  f_l_draw : Addr
  d_l_draw : FuncData
  F_l_draw : Fun K "_law_draw" "_law_draw" s_l_draw f_l_draw d_l_draw
  b_l_draw : Binds K d_l_draw ["_law_bag_here", "_law_sides"] []
  m_l_draw : mg "_law_draw" = some (.ref f_l_draw)
  f_l_of : Addr
  d_l_of : FuncData
  F_l_of : Fun K "_law_of" "_law_of" s_l_of f_l_of d_l_of
  b_l_of : Binds K d_l_of ["_law_bag_here", "_law_things"] []
  m_l_of : mg "_law_of" = some (.ref f_l_of)
  f_l_same : Addr
  d_l_same : FuncData
  F_l_same : Fun K "_law_same" "_law_same" s_l_same f_l_same d_l_same
  b_l_same : Binds K d_l_same ["_law_found", "_law_due"] []
  m_l_same : mg "_law_same" = some (.ref f_l_same)
  f_l_gcd : Addr
  d_l_gcd : FuncData
  F_l_gcd : Fun K "_law_gcd" "_law_gcd" s_l_gcd f_l_gcd d_l_gcd
  b_l_gcd : Binds K d_l_gcd ["_law_x", "_law_y"] []
  m_l_gcd : mg "_law_gcd" = some (.ref f_l_gcd)
  f_l_low : Addr
  d_l_low : FuncData
  F_l_low : Fun K "_law_low" "_law_low" s_l_low f_l_low d_l_low
  b_l_low : Binds K d_l_low ["_law_num", "_law_den"] []
  m_l_low : mg "_law_low" = some (.ref f_l_low)
  f_l_mul : Addr
  d_l_mul : FuncData
  F_l_mul : Fun K "_law_mul" "_law_mul" s_l_mul f_l_mul d_l_mul
  b_l_mul : Binds K d_l_mul ["_law_x", "_law_y"] []
  m_l_mul : mg "_law_mul" = some (.ref f_l_mul)
  f_l_less : Addr
  d_l_less : FuncData
  F_l_less : Fun K "_law_less" "_law_less" s_l_less f_l_less d_l_less
  b_l_less : Binds K d_l_less ["_law_x", "_law_y"] []
  m_l_less : mg "_law_less" = some (.ref f_l_less)
  f_l_product : Addr
  d_l_product : FuncData
  F_l_product : Fun K "_law_product" "_law_product" s_l_product f_l_product d_l_product
  b_l_product : Binds K d_l_product ["_law_things"] []
  m_l_product : mg "_law_product" = some (.ref f_l_product)
  f_l_step : Addr
  d_l_step : FuncData
  F_l_step : Fun K "_law_step" "_law_step" s_l_step f_l_step d_l_step
  b_l_step : Binds K d_l_step ["_law_bag_here"] []
  m_l_step : mg "_law_step" = some (.ref f_l_step)
  f_l_length : Addr
  d_l_length : FuncData
  F_l_length : Fun K "_law_length" "_law_length" s_l_length f_l_length d_l_length
  b_l_length : Binds K d_l_length ["_law_bag_here"] []
  m_l_length : mg "_law_length" = some (.ref f_l_length)
  f_l_ratio : Addr
  d_l_ratio : FuncData
  F_l_ratio : Fun K "_law_ratio" "_law_ratio" s_l_ratio f_l_ratio d_l_ratio
  b_l_ratio : Binds K d_l_ratio ["_law_bag_here", "_law_x"] []
  m_l_ratio : mg "_law_ratio" = some (.ref f_l_ratio)
  f_l_is : Addr
  d_l_is : FuncData
  F_l_is : Fun K "_law_is" "_law_is" s_l_is f_l_is d_l_is
  b_l_is : Binds K d_l_is ["_law_x"] []
  m_l_is : mg "_law_is" = some (.ref f_l_is)
  f_l_seen : Addr
  d_l_seen : FuncData
  F_l_seen : Fun K "_law_seen" "_law_seen" s_l_seen f_l_seen d_l_seen
  b_l_seen : Binds K d_l_seen ["_law_thing"] []
  m_l_seen : mg "_law_seen" = some (.ref f_l_seen)
  f_l_ranked : Addr
  d_l_ranked : FuncData
  F_l_ranked : Fun K "_law_ranked" "_law_ranked" s_l_ranked f_l_ranked d_l_ranked
  b_l_ranked : Binds K d_l_ranked ["_law_things", "_law_spot"] []
  m_l_ranked : mg "_law_ranked" = some (.ref f_l_ranked)
  f_l_list_so : Addr
  d_l_list_so : FuncData
  F_l_list_so : Fun K "_law_list_so" "_law_list_so" s_l_list_so f_l_list_so d_l_list_so
  b_l_list_so : Binds K d_l_list_so ["_law_bag_here"] []
  m_l_list_so : mg "_law_list_so" = some (.ref f_l_list_so)
  f_l_beside : Addr
  d_l_beside : FuncData
  F_l_beside : Fun K "_law_beside" "_law_beside" s_l_beside f_l_beside d_l_beside
  b_l_beside : Binds K d_l_beside ["_law_bag_here", "_law_x"] []
  m_l_beside : mg "_law_beside" = some (.ref f_l_beside)
  f_l_tone_so : Addr
  d_l_tone_so : FuncData
  F_l_tone_so : Fun K "_law_tone_so" "_law_tone_so" s_l_tone_so f_l_tone_so d_l_tone_so
  b_l_tone_so : Binds K d_l_tone_so ["_law_bag_here"] []
  m_l_tone_so : mg "_law_tone_so" = some (.ref f_l_tone_so)
  f_law : Addr
  d_law : FuncData
  F_law : Fun K "law" "law" s_law f_law d_law
  b_law : Binds K d_law ["_law_script"] []
  m_law : mg "law" = some (.ref f_law)
  sfR : PySem.W.selfFirst K C_Ratio = true
  ne_Ratio : PySem.W.findIn K (.ref C_Ratio) "__ne__" = some (some (.builtin "object.__ne__"))
  kList : PySem.W.kitOne K (.type "list") (.ref C_Ratio) = some false
  kb_multiplied : KBinds K d_multiplied ["ratios"] ["ratios"] g01 g01
  kb_in_order : KBinds K d_in_order ["ratios"] ["ratios"] g01 g01
  kb_led : KBinds K d_led ["tone", "ratio"] ["tone", "ratio"] g02 g02
  kb_compared : KBinds K d_compared ["tone", "ratio"] ["ratio", "tone"] g02s g02s
  kb_within : KBinds K d_within ["tone", "start", "length"] ["tone", "length", "start"] g03s g03s
/-! ### steps of a reading -/
local macro_rules | `(tactic| walk_at "hp") => `(tactic| first | assumption | exact upd_same | (refine (upd_ne (by first | assumption | (exact Ne.symm (by assumption)))).trans ?_; walk_at "hp"))
local macro_rules | `(tactic| walk_at "ok") => `(tactic| first | (exact Or.inr ⟨by decide, by decide⟩) | (exact ⟨by decide, by decide⟩) | (exact ⟨by decide, by decide, by decide⟩) | (show _ ≠ _; omega) | (show _ ≠ _; decide) | (exact Or.inl ⟨by omega, by omega⟩) | decide)
local macro_rules | `(tactic| walk_at "sq") => `(tactic| first | assumption | exact SqL.of (by walk_at "hp") | exact SqT.of (by walk_at "hp"))
local macro_rules | `(tactic| walk_at "ty") => `(tactic| first | refine ⟨_, _, Value.type "int", Value.type "list", false, rfl, ClsV.ty _, TyX.base (TyOf.int _), kt_int_list, ?_⟩ | refine ⟨_, _, Value.type "bool", Value.type "list", false, rfl, ClsV.ty _, TyX.base (TyOf.bl _), kt_bool_list, ?_⟩ | refine ⟨_, _, Value.type "str", Value.type "list", false, rfl, ClsV.ty _, TyX.base (TyOf.str _), kt_str_list, ?_⟩ | refine ⟨_, _, Value.type "NoneType", Value.type "list", false, rfl, ClsV.ty _, TyX.base TyOf.non, kt_NoneType_list, ?_⟩ | refine ⟨_, _, Value.type "list", Value.type "list", true, rfl, ClsV.ty _, tyx_L (by walk_at "sq"), kt_list_list, ?_⟩ | refine ⟨_, _, Value.type "tuple", Value.type "list", false, rfl, ClsV.ty _, tyx_T (by walk_at "sq"), kt_tuple_list, ?_⟩ | refine ⟨_, _, Value.type "int", Value.type "tuple", false, rfl, ClsV.ty _, TyX.base (TyOf.int _), kt_int_tuple, ?_⟩ | refine ⟨_, _, Value.type "bool", Value.type "tuple", false, rfl, ClsV.ty _, TyX.base (TyOf.bl _), kt_bool_tuple, ?_⟩ | refine ⟨_, _, Value.type "str", Value.type "tuple", false, rfl, ClsV.ty _, TyX.base (TyOf.str _), kt_str_tuple, ?_⟩ | refine ⟨_, _, Value.type "NoneType", Value.type "tuple", false, rfl, ClsV.ty _, TyX.base TyOf.non, kt_NoneType_tuple, ?_⟩ | refine ⟨_, _, Value.type "list", Value.type "tuple", false, rfl, ClsV.ty _, tyx_L (by walk_at "sq"), kt_list_tuple, ?_⟩ | refine ⟨_, _, Value.type "tuple", Value.type "tuple", true, rfl, ClsV.ty _, tyx_T (by walk_at "sq"), kt_tuple_tuple, ?_⟩ | refine ⟨_, _, Value.type "int", Value.type "bool", false, rfl, ClsV.ty _, TyX.base (TyOf.int _), kt_int_bool, ?_⟩ | refine ⟨_, _, Value.type "bool", Value.type "bool", true, rfl, ClsV.ty _, TyX.base (TyOf.bl _), kt_bool_bool, ?_⟩ | refine ⟨_, _, Value.type "str", Value.type "bool", false, rfl, ClsV.ty _, TyX.base (TyOf.str _), kt_str_bool, ?_⟩ | refine ⟨_, _, Value.type "NoneType", Value.type "bool", false, rfl, ClsV.ty _, TyX.base TyOf.non, kt_NoneType_bool, ?_⟩ | refine ⟨_, _, Value.type "list", Value.type "bool", false, rfl, ClsV.ty _, tyx_L (by walk_at "sq"), kt_list_bool, ?_⟩ | refine ⟨_, _, Value.type "tuple", Value.type "bool", false, rfl, ClsV.ty _, tyx_T (by walk_at "sq"), kt_tuple_bool, ?_⟩ | refine ⟨_, _, Value.type "int", Value.type "int", true, rfl, ClsV.ty _, TyX.base (TyOf.int _), kt_int_int, ?_⟩ | refine ⟨_, _, Value.type "bool", Value.type "int", true, rfl, ClsV.ty _, TyX.base (TyOf.bl _), kt_bool_int, ?_⟩ | refine ⟨_, _, Value.type "str", Value.type "int", false, rfl, ClsV.ty _, TyX.base (TyOf.str _), kt_str_int, ?_⟩ | refine ⟨_, _, Value.type "NoneType", Value.type "int", false, rfl, ClsV.ty _, TyX.base TyOf.non, kt_NoneType_int, ?_⟩ | refine ⟨_, _, Value.type "list", Value.type "int", false, rfl, ClsV.ty _, tyx_L (by walk_at "sq"), kt_list_int, ?_⟩ | refine ⟨_, _, Value.type "tuple", Value.type "int", false, rfl, ClsV.ty _, tyx_T (by walk_at "sq"), kt_tuple_int, ?_⟩ | refine ⟨_, _, Value.type "int", Value.type "str", false, rfl, ClsV.ty _, TyX.base (TyOf.int _), kt_int_str, ?_⟩ | refine ⟨_, _, Value.type "bool", Value.type "str", false, rfl, ClsV.ty _, TyX.base (TyOf.bl _), kt_bool_str, ?_⟩ | refine ⟨_, _, Value.type "str", Value.type "str", true, rfl, ClsV.ty _, TyX.base (TyOf.str _), kt_str_str, ?_⟩ | refine ⟨_, _, Value.type "NoneType", Value.type "str", false, rfl, ClsV.ty _, TyX.base TyOf.non, kt_NoneType_str, ?_⟩ | refine ⟨_, _, Value.type "list", Value.type "str", false, rfl, ClsV.ty _, tyx_L (by walk_at "sq"), kt_list_str, ?_⟩ | refine ⟨_, _, Value.type "tuple", Value.type "str", false, rfl, ClsV.ty _, tyx_T (by walk_at "sq"), kt_tuple_str, ?_⟩)
local macro_rules | `(tactic| walk_at "go1") => `(tactic| first
  | (refine ⟨_, rfl, ?_⟩)
  | (refine ⟨_, _, rfl, rfl, ?_⟩)
  | (refine ⟨_, _, _, _, rfl, rfl, SqL.of (by walk_at "hp"), rfl, ?_⟩)
  | (refine Or.inl ⟨_, rfl, ?_⟩)
  | (refine ⟨rfl, ?_⟩)
  | (refine ⟨_, _, rfl, .inl (SqL.of (by walk_at "hp")), ?_⟩)
  | (refine ⟨_, _, rfl, Or.inl (by assumption), ?_⟩)
  | (refine ⟨_, _, rfl, Or.inr (by assumption), ?_⟩)
  | (refine ⟨(by walk_at "ok"), ?_⟩)
  | (refine ⟨_, _, _, _, rfl, rfl, (by walk_at "hp"), rfl, ?_⟩))
local macro_rules | `(tactic| walk_at "go") => `(tactic| repeat (walk_at "go1"))
local macro_rules | `(tactic| walk_at "gt") => `(tactic| repeat (first | walk_at "go1" | walk_at "ty"))

/-! ### the law's own helpers -/
section
variable {P : Program} {w : World} {K : PySem.W.Frag} {mg : Str → Option Value} {base : Heap}
def spDraw : Sp := fun vs H Q _ => ∃ (B : Bg) (n : Int), vs = [.ref B.b, .int n] ∧ 0 < n ∧ n.natAbs < 2 ^ 200 ∧ Bag B H ∧ ∀ (d : Int) (H' : Hp), 0 ≤ d → d < n → Bag B H' → Kb B.b H H' → Q (.int d) H'
theorem ok_draw (T : Tx K mg) : FnOk P w K mg base CX0 1 T.f_l_draw T.d_l_draw ["_law_bag_here", "_law_sides"] spDraw := by
  refine T.F_l_draw.ok sc_l_draw (fun vs H Q E h => ?_) (fun cdv A outer s H vs Q E hr h => ?_)
  · obtain ⟨g, n, rfl, _⟩ := h
    rfl
  obtain ⟨⟨g, L, ns⟩, n, rfl, hn, hn2, ⟨⟨i, r, z, c, hg, hi, hrr, hz, hz2⟩, hL, hne⟩, q⟩ := h
  dsimp only at hg hL hne q
  have nd := sc_l_draw.nd
  refine ⟨_, (pss_cut (ps_if (PW.pt (pw_and (pt_cmpR op_eq (pe_ix (show IxR _ (rIxL K) from ix_list) (pv 0) pe_int (fun _ _ => rfl)) pe_int (nomark _)) (pw_and1 (pt_cmpR op_lt (pe_ix (show IxR _ (rIxL K) from ix_list) (pv 0) pe_int (fun _ _ => rfl)) (pe_callB (show CallR _ _ (rLenSq K) from call_len_seq) (by rfl) T.z_len (by decide +kernel) (pa_cons (pe_ix (show IxR _ (rIxL K) from ix_list) (pv 0) pe_int (fun _ _ => rfl)) pa_nil)) (nomark _))))) (pss_cons (ps_set (i := 2) nd rfl (Or.inl rfl) (pe_callB call_abs (by rfl) T.z_abs (by decide +kernel) (pa_cons (pe_callTy call_int1 (by rfl) T.z_int (by decide +kernel) (pa_cons (pe_ix (show IxR _ (rIxL K) from ix_list) (pe_ix (show IxR _ (rIxL K) from ix_list) (pv 0) pe_int (fun _ _ => rfl)) (pe_ix (show IxR _ (rIxL K) from ix_list) (pv 0) pe_int (fun _ _ => rfl)) (fun _ _ => rfl)) pa_nil)) pa_nil)))
    (pss_cons (ps_asg (pe_op op_add (pe_ix (show IxR _ (rIxL K) from ix_list) (pv 0) pe_int (fun _ _ => rfl)) pe_int) (pg_sub (pv 0) pe_int set_list))
    (pss_one (ps_if (pt_cmpR op_ge (pv 2) (pe_op op_pow pe_int pe_int) (nomark _)) (pss_one (ps_asg (pv 2) (pg_sub (pv 0) pe_int set_list))) (pss_one (ps_asg (pe_op op_modN (pe_callTy call_int1 (by rfl) T.z_int (by decide +kernel) (pa_cons (pe_op op_add (pe_op op_add (pe_op op_mul (pe_ix (show IxR _ (rIxL K) from ix_list) (pv 0) pe_int (fun _ _ => rfl)) pe_int) (pe_op op_mul (pe_op op_modN (pv 2) pe_int) pe_int)) pe_int) pa_nil)) pe_int) (pg_sub (pv 0) pe_int set_list))))))) pss_nil)
    (pss_cons (ps_if (pt_cmpR op_gt (pe_ix (show IxR _ (rIxL K) from ix_list) (pv 0) pe_int (fun _ _ => rfl)) pe_int (nomark _)) (pss_cons (ps_set (i := 3) nd rfl (Or.inl rfl) (pe_op op_modN (pe_callTy call_int1 (by rfl) T.z_int (by decide +kernel) (pa_cons (pe_ix (show IxR _ (rIxL K) from ix_list) (pv 0) pe_int (fun _ _ => rfl)) pa_nil)) (pv 1)))
    (pss_cons (ps_asg (pe_op op_fdivW (pe_ix (show IxR _ (rIxL K) from ix_list) (pv 0) pe_int (fun _ _ => rfl)) (pv 1)) (pg_sub (pv 0) pe_int set_list))
    (pss_one (ps_ret (pv 3))))) pss_nil)
    (pss_cons (ps_asg (pe_op op_add (pe_ix (show IxR _ (rIxL K) from ix_list) (pv 0) pe_int (fun _ _ => rfl)) pe_int) (pg_sub (pv 0) pe_int set_list))
    (pss_cons (ps_set (i := 4) nd rfl (Or.inl rfl) (pe_callTy call_int1 (by rfl) T.z_int (by decide +kernel) (pa_cons (pe_ix (show IxR _ (rIxL K) from ix_list) (pv 0) pe_int (fun _ _ => rfl)) pa_nil)))
    (pss_cons (ps_asg (pe_op op_modN (pe_callTy call_int1 (by rfl) T.z_int (by decide +kernel) (pa_cons (pe_op op_add (pe_op op_add (pe_op op_add (pe_op op_mul (pe_op op_mul (pv 4) (pv 4)) pe_int) (pe_op op_mul (pv 4) pe_int)) (pe_op op_mul (pe_ix (show IxR _ (rIxL K) from ix_list) (pv 0) pe_int (fun _ _ => rfl)) pe_int)) pe_int) pa_nil)) pe_int) (pg_sub (pv 0) pe_int set_list))
    (pss_one (ps_ret (pe_op op_modN (pe_callTy call_int1 (by rfl) T.z_int (by decide +kernel) (pa_cons (pe_op op_add (pe_op op_fdivN (pe_ix (show IxR _ (rIxL K) from ix_list) (pv 0) pe_int (fun _ _ => rfl)) pe_int) (pe_op op_mul (pe_op op_modN (pe_callTy call_int1 (by rfl) T.z_int (by decide +kernel) (pa_cons (pe_ix (show IxR _ (rIxL K) from ix_list) (pv 0) pe_int (fun _ _ => rfl)) pa_nil)) pe_int) pe_int)) pa_nil)) (pv 1))))))))), ?_⟩
  refine ⟨fun σ' H' => (∃ a : Option V, σ' = [some (.ref g), some (.int n), a, none, none]) ∧ Bag ⟨g, L, ns⟩ H' ∧ Kb g H H', ?_, ?_⟩
  · walk_at "go"
    refine ite2 (fun c1 => ?_) (fun c1 => ?_)
    · walk_at "go"
      refine ite2 (fun c2 => ?_) (fun c2 => ?_)
      · have c2' : i < (((ns.map V.int).length : Nat) : Int) := of_decide_eq_true c2
        rw [List.length_map] at c2'
        have hk : i.toNat < ns.length := by omega
        walk_at "go"
        refine ⟨L, ns.map V.int, i, V.int ns[i.toNat], rfl, rfl, SqL.of hL, at_of (j := i.toNat) (by omega) (by rw [List.getElem?_map, List.getElem?_eq_getElem hk]; rfl), ?_⟩
        walk_at "go"
        have c3 : 0 ≤ (if ns[i.toNat] < 0 then -ns[i.toNat] else ns[i.toNat]) := by split <;> omega
        refine ite2 (fun _ => ?_) (fun _ => ?_)
        · walk_at "go"
          exact ⟨⟨_, rfl⟩, ⟨⟨i + 1, _, z, c, upd_same, by omega, c3, hz, hz2⟩, by rw [upd_ne hne, upd_ne hne]; exact hL, hne⟩, Kb.at.trans Kb.at⟩
        · walk_at "go"
          have m1 := fm (i := z * 69621 + (if ns[i.toNat] < 0 then -ns[i.toNat] else ns[i.toNat]).fmod 1000003 * 907 + 29) (j := 2147483629) (by decide)
          exact ⟨⟨_, rfl⟩, ⟨⟨i + 1, r, _, c, upd_same, by omega, hrr, m1.1, by omega⟩, by rw [upd_ne hne, upd_ne hne]; exact hL, hne⟩, Kb.at.trans Kb.at⟩
      · exact ⟨⟨_, rfl⟩, ⟨⟨i, r, z, c, hg, hi, hrr, hz, hz2⟩, hL, hne⟩, Kb.refl _ _⟩
    · walk_at "go"
      exact ⟨⟨_, rfl⟩, ⟨⟨i, r, z, c, hg, hi, hrr, hz, hz2⟩, hL, hne⟩, Kb.refl _ _⟩
  · clear hg hL hne hi hrr hz hz2
    rintro σ' H' ⟨⟨a, rfl⟩, ⟨⟨i, r, z, c, hg, hi, hrr, hz, hz2⟩, hL, hne⟩, kb⟩
    dsimp only at hg hL hne
    walk_at "go"
    refine ite2 (fun c1 => ?_) (fun c1 => ?_)
    · have m1 := fm (i := r) (j := n) hn
      walk_at "go"
      refine ⟨wide_div hn hn2 (by decide) (by decide), ?_⟩
      walk_at "go"
      exact q _ _ m1.1 m1.2 ⟨⟨i, _, z, c, upd_same, hi, Int.ediv_nonneg hrr (by omega), hz, hz2⟩, by rw [upd_ne hne]; exact hL, hne⟩ (kb.trans Kb.at)
    · walk_at "go"
      have m1 := fm (i := z * z * 19 + z * 50021 + (c + 1) * 7877 + 40009) (j := 2147483587) (by decide)
      have m2 := fm (i := ((z * z * 19 + z * 50021 + (c + 1) * 7877 + 40009).fmod 2147483587).fdiv 89 + ((z * z * 19 + z * 50021 + (c + 1) * 7877 + 40009).fmod 2147483587).fmod 9973 * 53) (j := n) hn
      exact q _ _ m2.1 m2.2 ⟨⟨i, r, _, _, upd_same, hi, hrr, m1.1, by omega⟩, by rw [upd_ne hne, upd_ne hne]; exact hL, hne⟩ ((kb.trans Kb.at).trans Kb.at)
/-- the law's bag of a script -/
def spBag (K : PySem.W.Frag) : Sp := fun vs H Q _ => ∃ (a : Addr) (ns : List Int), vs = [.ref a] ∧ SqL K H a (ns.map V.int) ∧ ns.length ≤ 63 ∧ ∀ (B : Bg) (H' : Hp), Same H H' → Bag B H' → H B.b = none → Q (.ref B.b) H'
theorem cut63 {xs : List V} (h : xs.length ≤ 63) : cutV xs none (some 63) = xs := by
  unfold cutV
  have e1 : HT.sIx xs.length 0 none = 0 := rfl
  have e2 : HT.sIx xs.length xs.length (some 63) = xs.length := by
    unfold HT.sIx
    simp
    omega
  rw [e1, e2]
  simp
theorem ok_bag (T : Tx K mg) : FnOk P w K mg base CX0 1 T.f_l_bag T.d_l_bag ["_law_script"] (spBag K) := by
  refine T.F_l_bag.ok sc_l_bag (fun vs H Q E h => ?_) (fun cdv A outer s H vs Q E hr h => ?_)
  · obtain ⟨a, ns, rfl, _⟩ := h
    rfl
  obtain ⟨a, ns, rfl, hS, h63, q⟩ := h
  have nd := sc_l_bag.nd
  have hc : cutV (ns.map V.int) none (some 63) = ns.map V.int := cut63 (by rw [List.length_map]; exact h63)
  refine ⟨_, (pss_cons (ps_set (i := 1) nd rfl (Or.inl rfl) pe_int)
    (pss_cons (ps_for PassesOwn.never rfl (show PI _ _ _ (iList K _) from pi_list (pe_slice (show SlR _ (rSlL K) from sl_list) (pv 0) po_none (po_some pe_int))) (pg_name (i := 2) nd rfl (Or.inl rfl)) (pss_one (ps_set (i := 1) nd rfl (Or.inl rfl) (pe_op op_modN (pe_callTy call_int1 (by rfl) T.z_int (by decide +kernel) (pa_cons (pe_op op_add (pe_op op_add (pe_op op_mul (pv 1) pe_int) (pe_op op_mul (pe_op op_modN (pe_callTy call_int1 (by rfl) T.z_int (by decide +kernel) (pa_cons (pv 2) pa_nil)) pe_int) pe_int)) pe_int) pa_nil)) pe_int))))
    (pss_one (ps_ret (pe_lst (pa_cons (pe_callTy (show CallR _ _ (rListOf K) from call_list_of) (by rfl) T.z_list (by decide +kernel) (pa_cons (pe_slice (show SlR _ (rSlL K) from sl_list) (pv 0) po_none (po_some pe_int)) pa_nil)) (pa_cons pe_int (pa_cons pe_int (pa_cons (pv 1) (pa_cons pe_int pa_nil)))))))))), ?_⟩
  refine ⟨_, rfl, _, rfl, a, _, rfl, hS, fun p hp => ?_⟩
  rw [hc]
  refine ⟨p, rfl, ⟨_, SqL.of upd_same⟩, for_list (K := K) (a := p) (xs := ns.map V.int) (fun i σ' H' => (∃ (z : Int) (v : Option V), σ' = [some (.ref a), some (.int z), v] ∧ 0 ≤ z ∧ z < 2147483648) ∧ H' = upd H p (.lst (ns.map V.int)))
    ⟨⟨7919, none, rfl, by decide, by decide⟩, rfl⟩ (fun i σ' H' _ h => by rw [h.2]; exact SqL.of upd_same) ?_ ?_⟩
  · rintro i y σ' H' hi ⟨⟨z, v, rfl, h1, h2⟩, rfl⟩
    obtain ⟨k, rfl⟩ : ∃ k, y = V.int k := by
      rw [List.getElem?_map] at hi
      cases e : ns[i]? with
      | none => rw [e] at hi; cases hi
      | some k => rw [e] at hi; exact ⟨k, (Option.some.inj hi).symm⟩
    walk_at "go"
    have m1 := fm (i := z * 48271 + k.fmod 1000003 * 401 + 13) (j := 2147483647) (by decide)
    exact ⟨⟨_, _, rfl, m1.1, by omega⟩, rfl⟩
  · rintro σ' H' ⟨⟨z, v, rfl, h1, h2⟩, rfl⟩
    have s1 : Same H (upd H p (.lst (ns.map V.int))) := Same.new hp
    refine ⟨_, rfl, _, rfl, a, _, rfl, s1.seq hS, fun p2 hp2 => ?_⟩
    rw [hc]
    have s2 := s1.trans (Same.new (o := .lst (ns.map V.int)) hp2)
    refine ⟨_, _, rfl, .inl (SqL.of upd_same), fun p3 hp3 => ?_⟩
    have s3 := s2.trans (Same.new (o := .lst (ns.map V.int)) hp3)
    walk_at "go"
    refine ⟨(by show 5 ≤ sizeLine; decide), fun p4 hp4 => ?_⟩
    have n4 : p3 ≠ p4 := ne_of_none upd_same hp4
    exact q ⟨p4, p3, ns⟩ _ (s3.trans (Same.new hp4)) ⟨⟨0, 0, z, 0, upd_same, by decide, by decide, h1, h2⟩, by rw [upd_ne n4]; exact upd_same, n4⟩ (s3.free hp4)
/-- one of some things -/
def spOf (K : PySem.W.Frag) : Sp := fun vs H Q _ => ∃ (B : Bg) (a : Addr) (xs : List V), vs = [.ref B.b, .ref a] ∧ SqL K H a xs ∧ a ≠ B.b ∧ 0 < xs.length ∧ xs.length ≤ 1000 ∧ Bag B H ∧ ∀ (i : Nat) (v : V) (H' : Hp), xs[i]? = some v → Bag B H' → Kb B.b H H' → Q v H'
theorem Kb.seq {g : Addr} {H H' : Hp} {a : Addr} {xs : List V} (e : Kb g H H') (n : a ≠ g) (h : SqL K H a xs) : SqL K H' a xs := by
  rcases h with (h | ⟨o, h⟩) | h
  · exact .inl (.inl (e _ _ h n))
  · exact .inl (.inr ⟨o, e _ _ h n⟩)
  · exact .inr h
theorem ok_of (T : Tx K mg) : FnOk P w K mg base CX0 2 T.f_l_of T.d_l_of ["_law_bag_here", "_law_things"] (spOf K) := by
  have G_l_draw := ok_draw (P := P) (w := w) (base := base) T
  refine T.F_l_of.ok sc_l_of (fun vs H Q E h => ?_) (fun cdv A outer s H vs Q E hr h => ?_)
  · obtain ⟨B, a, xs, rfl, _⟩ := h
    rfl
  obtain ⟨B, a, xs, rfl, hS, hne, h0, h1, hB, q⟩ := h
  have nd := sc_l_of.nd
  refine ⟨_, (pss_one (ps_ret (pe_ix (show IxR _ (rIxL K) from ix_list) (pv 1) (pe_call G_l_draw (hr.mono (by decide)) (by rfl) T.m_l_draw T.F_l_draw.kp T.b_l_draw .nil pass0 (pa_cons (pv 0) (pa_cons (pe_callB (show CallR _ _ (rLenSq K) from call_len_seq) (by rfl) T.z_len (by decide +kernel) (pa_cons (pv 1) pa_nil)) pa_nil))) (fun _ _ => rfl)))), ?_⟩
  refine ⟨_, rfl, _, rfl, _, rfl, _, _, rfl, .inl hS, B, _, rfl, by omega, Nat.lt_of_le_of_lt (by omega : ((xs.length : Int)).natAbs ≤ 1000) (by decide), hB, fun d H' d0 d1 hB' kb => ?_⟩
  have hk : d.toNat < xs.length := by omega
  refine ⟨_, _, _, xs[d.toNat], rfl, rfl, kb.seq hne hS, at_of (j := d.toNat) (by omega) (List.getElem?_eq_getElem hk), ?_⟩
  exact q d.toNat _ H' (List.getElem?_eq_getElem hk) hB' kb
/-! ### equal data -/
inductive DEq (K : PySem.W.Frag) (H : Hp) : Nat → V → V → Prop where
  | non {n : Nat} : DEq K H n .non .non
  | bl {n : Nat} (b : Bool) : DEq K H n (.bl b) (.bl b)
  | int {n : Nat} (i : Int) : DEq K H n (.int i) (.int i)
  | str {n : Nat} (x : Str) : DEq K H n (.str x) (.str x)
  | lst {n : Nat} {a b : Addr} {xs ys : List V} (h1 : SqL K H a xs) (h2 : SqL K H b ys) (hlen : xs.length ≤ 100000) (hl : xs.length = ys.length) (h : ∀ (i : Nat) (x y : V), xs[i]? = some x → ys[i]? = some y → DEq K H n x y) : DEq K H (n + 1) (.ref a) (.ref b)
  | tup {n : Nat} {a b : Addr} {xs ys : List V} (h1 : SqT K H a xs) (h2 : SqT K H b ys) (hlen : xs.length ≤ 100000) (hl : xs.length = ys.length) (h : ∀ (i : Nat) (x y : V), xs[i]? = some x → ys[i]? = some y → DEq K H n x y) : DEq K H (n + 1) (.ref a) (.ref b)
theorem DEq.same {n : Nat} {H H' : Hp} {x y : V} (h : DEq K H n x y) (s : Same H H') : DEq K H' n x y := by
  induction h with
  | non => exact .non
  | bl b => exact .bl b
  | int i => exact .int i
  | str x => exact .str x
  | lst h1 h2 hlen hl _ ih => exact .lst (s.seq h1) (s.seq h2) hlen hl ih
  | tup h1 h2 hlen hl _ ih => exact .tup (seqT s h1) (seqT s h2) hlen hl ih
end

end TL
namespace TL
open PySem PySem.Spec PyProof.Rows L2 PySem.W
/-! ### enumerate over a tuple -/
set_option maxHeartbeats 1000000 in
theorem enumT_new (t : Addr) (its : Array Value) : Meets (Builtin.«enumerate.__new__» ⟨[.type "enumerate", .ref t], []⟩) (fun _ R s => s.heap.IsTuple t its ∧
    R (.ok (.ret (.ref (s.heap.objs.size + 1)))) { s with heap := (s.heap.push { cls := .type "tuple_iterator", data := .fields #[.ref t, .int 0 0] }).push { cls := .type "enumerate", data := .fields #[.none, .bool false, .ref s.heap.objs.size, rawInt 0, .none, .none] } }) :=
  .of_wp fun prog w A R s h => by
    obtain ⟨h0, g, d, tk, os⟩ := s
    obtain ⟨hT, h⟩ := h
    have hz : (h0.push { cls := .type "tuple_iterator", data := .fields #[.ref t, .int 0 0] }).objs.size = h0.objs.size + 1 := Heap.size_push ..
    rw [← hz] at h
    have se := sub_enumerate
    have go : ∀ {A2 : Around} {E2 Q2 : Value → Shared → Prop}, Q2 (.ref h0.objs.size) ⟨h0.push { cls := .type "tuple_iterator", data := .fields #[.ref t, .int 0 0] }, g, d, tk, os⟩ → wpAny (model prog w) A2 (pyIter (.ref t)) Q2 E2 ⟨h0, g, d, tk, os⟩ :=
      fun k => wpAny_pyIter_tuple hT k
    wp_walk using go
    refine wpAny_stack_any fun _ => wpAny_pure ?_
    split
    · rename_i c _ _ _ _ _
      rcases hb : (c == Value.type "enumerate") <;> wp_walk using go <;> exact ⟨_, rfl, h⟩
    · wp_walk using go
      exact ⟨_, rfl, h⟩
theorem enumT_call {prog : Program} {w : World} {A : Around} {E Q : Value → Shared → Prop} {s : Shared} {t : Addr} {its : Array Value} (hT : s.heap.IsTuple t its)
    (k : ∀ h', IsEnum h' (s.heap.objs.size + 1) s.heap.objs.size 0 .none → h'.IsTupleIter s.heap.objs.size t 0 → (∀ b o, s.heap.get? b = some o → h'.get? b = some o) → Q (.ref (s.heap.objs.size + 1)) { s with heap := h' }) :
    wpAny (model prog w) A (call (.type "enumerate") [.ref t]) Q E s := by
  have hz : (s.heap.push { cls := .type "tuple_iterator", data := .fields #[.ref t, .int 0 0] }).objs.size = s.heap.objs.size + 1 := Heap.size_push ..
  have he := Heap.get?_push_size (s.heap.push { cls := .type "tuple_iterator", data := .fields #[.ref t, .int 0 0] }) (o := { cls := .type "enumerate", data := .fields #[.none, .bool false, .ref s.heap.objs.size, rawInt 0, .none, .none] }) rfl
  rw [hz] at he
  refine callType_new F.called_enumerate (by decide) (F.typeCall_enumerate_1 _) (F.newCall_enumerate_1 _) (fun o => F.args_object_init_2 o _) F.entry_enumerate_new (enumT_new t its) ⟨hT, ?_⟩
  exact ⟨⟨_, he, rfl⟩, k _ he ⟨_, Heap.get?_push_of_some _ (Heap.get?_push_size _ rfl), rfl, rfl⟩ fun b o z => Heap.get?_push_of_some _ (Heap.get?_push_of_some _ z)⟩
def IteT (K : PySem.W.Frag) (a : Addr) : It :=
  ⟨fun i H => ∃ xs x, SqT K H a xs ∧ xs[i]? = some x, fun i H v H' => ∃ T x, v = .ref T ∧ H T = none ∧ H' = upd H T (.tup [.int (i : Nat), x]) ∧ ∀ xs, SqT K H a xs → xs[i]? = some x, fun i H => ∃ xs, SqT K H a xs ∧ xs.length ≤ i⟩
theorem cls_ne {h : Heap} {a b : Addr} {S T : String} (p : ∃ o, h.get? a = some o ∧ o.cls = .type S) (q : ∃ o, h.get? b = some o ∧ o.cls = .type T) (n : S ≠ T) : a ≠ b := by
  rintro rfl
  obtain ⟨o, e1, e2⟩ := p
  obtain ⟨o', e3, e4⟩ := q
  rw [e1] at e3
  cases e3
  rw [e2] at e4
  cases e4
  exact n rfl
theorem turn_enumT {P : Program} {w : World} {K : PySem.W.Frag} {elts : List Expr} {kk : Nat} {tp : Pos} (a e it : Addr) :
    Turn P w K (.Tuple elts kk tp) (IteT K a) [e, it] e (fun i h => (∃ z, IsEnum h e it ((i : Nat) : Int) z) ∧ h.IsTupleIter it a i ∧ e ≠ it) where
  mem := List.mem_cons_self ..
  obj := fun i h st b hb => by
    obtain ⟨⟨z, he⟩, ⟨o, ho, _, hd⟩, _⟩ := st
    simp only [List.mem_cons, List.not_mem_nil, or_false] at hb
    rcases hb with rfl | rfl
    · exact ⟨_, he, fun v q => nomatch q⟩
    · refine ⟨o, ho, fun v q => ?_⟩
      rw [hd] at q
      cases q
  keep := fun i h h' st k => let ⟨⟨z, he⟩, hi, n⟩ := st; ⟨⟨z, k e (by simp) _ he⟩, hi.at fun o q => k it (by simp) o q, n⟩
  item := by
    intro X hP hw hK hc i pins s σ H E I hf st hg
    subst hP hw hK
    obtain ⟨⟨z, he⟩, hi, n⟩ := st
    obtain ⟨xs, x, hq, hx⟩ := hg
    obtain ⟨its, rv, p, hz⟩ := I.tuple hq
    obtain ⟨u, hu, ru⟩ := rv.get hx
    have hT : s.heap.IsTuple a its.toArray := p
    have cT : ∃ o, s.heap.get? a = some o ∧ o.cls = .type "tuple" := let ⟨o, e1, e2, _⟩ := hT; ⟨o, e1, e2⟩
    have cI : ∃ o, s.heap.get? it = some o ∧ o.cls = .type "tuple_iterator" := let ⟨o, e1, e2, _⟩ := hi; ⟨o, e1, e2⟩
    have ai : a ≠ it := cls_ne cT cI (by decide)
    have ea : e ≠ a := Ne.symm (cls_ne cT ⟨_, he, rfl⟩ (by decide))
    have le : e < s.heap.objs.size := Heap.lt_size he
    have li : it < s.heap.objs.size := let ⟨_, q, _⟩ := cI; Heap.lt_size q
    have hd1 : X.A.in1.handled = none := I.ok.hd hc
    refine wpAny_pyNext_enum_itemD (Draws.tuple hd1 it a ai its.toArray) he ⟨hi, hT⟩ (by
      have := (List.getElem?_eq_some_iff.mp hu).1
      simpa using this) n (by simp [n, ea]) fun y h' tk hy ho hst hT2 hsz hk => ?_
    obtain rfl : u = y := by
      have hy' : its[i]? = some y := by simpa using hy
      rw [hu] at hy'
      exact Option.some.inj hy'
    refine ⟨_, rfl, wpAny_letOwnedTupleGo_enum (s := { s with heap := h', toks := tk + 1 }) ho fun h2 he2 sb => ?_⟩
    have hT3 : h2.get? s.heap.objs.size = some { cls := .type "tuple", data := .seq #[.int i tk, u] } := (sb.2 _ (Nat.ne_of_gt le)).trans hT2
    have new : ObjOk X.prog X.w (upd H s.heap.objs.size (.tup [.int (i : Nat), x])) h2 s.heap.objs.size (.tup [.int (i : Nat), x]) :=
      ⟨(show 2 ≤ sizeLine by decide), [.int i tk, u], .cons ⟨_, rfl⟩ (.cons ru .nil), ⟨_, hT3, rfl, _, rfl⟩⟩
    have I1 : Inv X pins σ (upd H s.heap.objs.size (.tup [.int (i : Nat), x])) { s with heap := h2, toks := tk + 1 } :=
      I.turnedNew (ch := [e, it]) (fun b ob hb q => (sb.2 b fun c => hb (by simp [c])).trans (hk b ob (fun c => hb (by simp [c])) (fun c => hb (by simp [c])) q)) hf (Nat.le_refl _) new
    refine ⟨.ref s.heap.objs.size, _, I1, rfl, ⟨_, x, rfl, I.hok.fresh (Nat.le_refl _), rfl, fun ys hy => ?_⟩, ⟨⟨u, ?_⟩, hst.1.at fun o q => (sb.2 it (Ne.symm n)).trans q, n⟩, fun b hb => ?_⟩
    · rw [I.tuple_inj hy hq]
      exact hx
    · rw [show ((i + 1 : Nat) : Int) = (i : Int) + 1 by omega]
      exact he2
    · have lb : b < s.heap.objs.size := by
        simp only [List.mem_cons, List.not_mem_nil, or_false] at hb
        rcases hb with rfl | rfl <;> assumption
      rw [upd_ne (Nat.ne_of_lt lb)]
      exact (hf b hb).1
  done := by
    intro X hP hw hK hc i pins s σ H E I hf st hg
    subst hP hw hK
    obtain ⟨⟨z, he⟩, hi, n⟩ := st
    obtain ⟨xs, hq, hx⟩ := hg
    obtain ⟨its, rv, p, hz⟩ := I.tuple hq
    have hT : s.heap.IsTuple a its.toArray := p
    have cT : ∃ o, s.heap.get? a = some o ∧ o.cls = .type "tuple" := let ⟨o, e1, e2, _⟩ := hT; ⟨o, e1, e2⟩
    have cI : ∃ o, s.heap.get? it = some o ∧ o.cls = .type "tuple_iterator" := let ⟨o, e1, e2, _⟩ := hi; ⟨o, e1, e2⟩
    have ai : a ≠ it := cls_ne cT cI (by decide)
    obtain ⟨f0, f1, f2, f3, f4, f5⟩ := hf it (by simp)
    have hl := rv.length
    have hd1 : X.A.in1.handled = none := I.ok.hd hc
    have D0 : Draws X.prog X.w X.A.in1 it [it, a] i (fun _ _ => True) (fun j h => j = i ∧ h.IsTupleIter it a i ∧ h.IsTuple a its.toArray) := {
      live := fun _ _ st => let ⟨o, ho, _⟩ := st.2.1; ⟨o, ho⟩
      frame := fun _ _ _ st k => ⟨st.1, st.2.1.at fun o e => k it (by simp) o e, st.2.2.at fun o e => k a (by simp) o e⟩
      item := fun j s1 Q1 E1 hj st _ => absurd st.1 (Nat.ne_of_lt hj)
      done := fun s1 Q1 E1 st hE => wpAny_nextOf_tuple_end hd1 st.2.1 st.2.2 (by simp; omega) hE }
    exact wpAny_pyNext_enum_endD D0 he ⟨rfl, hi, hT⟩ fun h' eb => ⟨rfl, I.turned (t' := s.toks) (fun b o hb e => eb b o hb e) f0 f1 f3 f4 f5⟩
  self := fun A i s Q E st h => let ⟨⟨_, he⟩, _⟩ := st; wpAny_pyIter_enum he h
def iEnumT (K : PySem.W.Frag) (ta : TA) : TI := fun σ H R => ta σ H fun vs H1 => ∃ a, vs = [.ref a] ∧ (∃ xs, SqT K H1 a xs) ∧ R (IteT K a) H1
theorem pi_enumT {X : Cx} {e : Expr} {ta : TA} {p pos tp : Pos} {elts : List Expr} {kk : Nat} (hg : Gl X "enumerate") (hm : X.mg "enumerate" = none) (ha : PA X [e] ta) (hs : starEach [e] X.env = [(false, eval e X.env)] := by rfl) :
    PI X (.Tuple elts kk tp) (.Call (.Name "enumerate" p) [e] [] pos) (iEnumT X.K ta) := by
  refine ⟨fun pins s σ H R I h => Call_ (ld_blt I hg hm boot_enumerate (PyProof.Rows.callWith_type1 (thn (ha.run pos pins s σ H _ I h) fun us s1 ⟨vs, H1, I1, r1, q1⟩ => ?_) hs rfl))⟩
  obtain ⟨a, ex, ⟨xs, hq⟩, q⟩ := q1
  subst ex
  cases r1 with
  | cons r rr =>
    cases rr
    cases r
    obtain ⟨its, rv, pT, hz⟩ := I1.tuple hq
    refine enumT_call (show s1.heap.IsTuple a its.toArray from pT) fun h' he hi hk => wpAny_pyIter_enum he ?_
    refine ⟨s1.heap.objs.size + 1, [s1.heap.objs.size + 1, s1.heap.objs.size], _, _, H1, rfl, I1.kept (t' := s1.toks) hk, turn_enumT a (s1.heap.objs.size + 1) s1.heap.objs.size, ⟨⟨.none, he⟩, hi, Nat.succ_ne_self _⟩, fun b hb => ?_, q⟩
    have lb : s1.heap.objs.size ≤ b := by
      simp only [List.mem_cons, List.not_mem_nil, or_false] at hb
      rcases hb with z | z
      · exact z ▸ Nat.le_succ _
      · exact z ▸ Nat.le_refl _
    exact I1.fpOk lb (I1.hok.fresh lb)
theorem walk_enumT {K : PySem.W.Frag} {a : Addr} {xs : List V} : Walk (IteT K a) xs.length (fun H => SqT K H a xs) (YPair (fun i => some (.int (i : Nat))) (fun i => xs[i]?)) := by
  refine ⟨fun i _ hi q => ⟨xs, xs[i], q, by simp [hi]⟩, fun _ q => ⟨xs, q, Nat.le_refl _⟩, fun i H v H' _ q y => ?_⟩
  obtain ⟨T, x, e1, e2, e3, e4⟩ := y
  exact ⟨T, .int (i : Nat), x, e1, e2, e3, rfl, e4 xs q⟩
end TL
namespace TL
open PySem L2

/-! ### steps of a reading -/
local macro_rules | `(tactic| walk_at "hp") => `(tactic| first | assumption | exact upd_same | (refine (upd_ne (by first | assumption | (exact Ne.symm (by assumption)))).trans ?_; walk_at "hp"))
local macro_rules | `(tactic| walk_at "ok") => `(tactic| first | (exact Or.inr ⟨by decide, by decide⟩) | (exact ⟨by decide, by decide⟩) | (exact ⟨by decide, by decide, by decide⟩) | (show _ ≠ _; omega) | (show _ ≠ _; decide) | (exact Or.inl ⟨by omega, by omega⟩) | decide)
local macro_rules | `(tactic| walk_at "sq") => `(tactic| first | assumption | exact SqL.of (by walk_at "hp") | exact SqT.of (by walk_at "hp"))
local macro_rules | `(tactic| walk_at "ty") => `(tactic| first | refine ⟨_, _, Value.type "int", Value.type "list", false, rfl, ClsV.ty _, TyX.base (TyOf.int _), kt_int_list, ?_⟩ | refine ⟨_, _, Value.type "bool", Value.type "list", false, rfl, ClsV.ty _, TyX.base (TyOf.bl _), kt_bool_list, ?_⟩ | refine ⟨_, _, Value.type "str", Value.type "list", false, rfl, ClsV.ty _, TyX.base (TyOf.str _), kt_str_list, ?_⟩ | refine ⟨_, _, Value.type "NoneType", Value.type "list", false, rfl, ClsV.ty _, TyX.base TyOf.non, kt_NoneType_list, ?_⟩ | refine ⟨_, _, Value.type "list", Value.type "list", true, rfl, ClsV.ty _, tyx_L (by walk_at "sq"), kt_list_list, ?_⟩ | refine ⟨_, _, Value.type "tuple", Value.type "list", false, rfl, ClsV.ty _, tyx_T (by walk_at "sq"), kt_tuple_list, ?_⟩ | refine ⟨_, _, Value.type "int", Value.type "tuple", false, rfl, ClsV.ty _, TyX.base (TyOf.int _), kt_int_tuple, ?_⟩ | refine ⟨_, _, Value.type "bool", Value.type "tuple", false, rfl, ClsV.ty _, TyX.base (TyOf.bl _), kt_bool_tuple, ?_⟩ | refine ⟨_, _, Value.type "str", Value.type "tuple", false, rfl, ClsV.ty _, TyX.base (TyOf.str _), kt_str_tuple, ?_⟩ | refine ⟨_, _, Value.type "NoneType", Value.type "tuple", false, rfl, ClsV.ty _, TyX.base TyOf.non, kt_NoneType_tuple, ?_⟩ | refine ⟨_, _, Value.type "list", Value.type "tuple", false, rfl, ClsV.ty _, tyx_L (by walk_at "sq"), kt_list_tuple, ?_⟩ | refine ⟨_, _, Value.type "tuple", Value.type "tuple", true, rfl, ClsV.ty _, tyx_T (by walk_at "sq"), kt_tuple_tuple, ?_⟩ | refine ⟨_, _, Value.type "int", Value.type "bool", false, rfl, ClsV.ty _, TyX.base (TyOf.int _), kt_int_bool, ?_⟩ | refine ⟨_, _, Value.type "bool", Value.type "bool", true, rfl, ClsV.ty _, TyX.base (TyOf.bl _), kt_bool_bool, ?_⟩ | refine ⟨_, _, Value.type "str", Value.type "bool", false, rfl, ClsV.ty _, TyX.base (TyOf.str _), kt_str_bool, ?_⟩ | refine ⟨_, _, Value.type "NoneType", Value.type "bool", false, rfl, ClsV.ty _, TyX.base TyOf.non, kt_NoneType_bool, ?_⟩ | refine ⟨_, _, Value.type "list", Value.type "bool", false, rfl, ClsV.ty _, tyx_L (by walk_at "sq"), kt_list_bool, ?_⟩ | refine ⟨_, _, Value.type "tuple", Value.type "bool", false, rfl, ClsV.ty _, tyx_T (by walk_at "sq"), kt_tuple_bool, ?_⟩ | refine ⟨_, _, Value.type "int", Value.type "int", true, rfl, ClsV.ty _, TyX.base (TyOf.int _), kt_int_int, ?_⟩ | refine ⟨_, _, Value.type "bool", Value.type "int", true, rfl, ClsV.ty _, TyX.base (TyOf.bl _), kt_bool_int, ?_⟩ | refine ⟨_, _, Value.type "str", Value.type "int", false, rfl, ClsV.ty _, TyX.base (TyOf.str _), kt_str_int, ?_⟩ | refine ⟨_, _, Value.type "NoneType", Value.type "int", false, rfl, ClsV.ty _, TyX.base TyOf.non, kt_NoneType_int, ?_⟩ | refine ⟨_, _, Value.type "list", Value.type "int", false, rfl, ClsV.ty _, tyx_L (by walk_at "sq"), kt_list_int, ?_⟩ | refine ⟨_, _, Value.type "tuple", Value.type "int", false, rfl, ClsV.ty _, tyx_T (by walk_at "sq"), kt_tuple_int, ?_⟩ | refine ⟨_, _, Value.type "int", Value.type "str", false, rfl, ClsV.ty _, TyX.base (TyOf.int _), kt_int_str, ?_⟩ | refine ⟨_, _, Value.type "bool", Value.type "str", false, rfl, ClsV.ty _, TyX.base (TyOf.bl _), kt_bool_str, ?_⟩ | refine ⟨_, _, Value.type "str", Value.type "str", true, rfl, ClsV.ty _, TyX.base (TyOf.str _), kt_str_str, ?_⟩ | refine ⟨_, _, Value.type "NoneType", Value.type "str", false, rfl, ClsV.ty _, TyX.base TyOf.non, kt_NoneType_str, ?_⟩ | refine ⟨_, _, Value.type "list", Value.type "str", false, rfl, ClsV.ty _, tyx_L (by walk_at "sq"), kt_list_str, ?_⟩ | refine ⟨_, _, Value.type "tuple", Value.type "str", false, rfl, ClsV.ty _, tyx_T (by walk_at "sq"), kt_tuple_str, ?_⟩)
local macro_rules | `(tactic| walk_at "go1") => `(tactic| first
  | (refine ⟨_, rfl, ?_⟩)
  | (refine ⟨_, _, rfl, rfl, ?_⟩)
  | (refine ⟨_, _, _, _, rfl, rfl, SqL.of (by walk_at "hp"), rfl, ?_⟩)
  | (refine Or.inl ⟨_, rfl, ?_⟩)
  | (refine ⟨rfl, ?_⟩)
  | (refine ⟨_, _, rfl, .inl (SqL.of (by walk_at "hp")), ?_⟩)
  | (refine ⟨_, _, rfl, Or.inl (by assumption), ?_⟩)
  | (refine ⟨_, _, rfl, Or.inr (by assumption), ?_⟩)
  | (refine ⟨(by walk_at "ok"), ?_⟩)
  | (refine ⟨_, _, _, _, rfl, rfl, (by walk_at "hp"), rfl, ?_⟩))
local macro_rules | `(tactic| walk_at "go") => `(tactic| repeat (walk_at "go1"))
local macro_rules | `(tactic| walk_at "gt") => `(tactic| repeat (first | walk_at "go1" | walk_at "ty"))

section
variable {P : Program} {w : World} {K : PySem.W.Frag} {mg : Str → Option Value} {base : Heap}
-- [0=number, 1=divisor, 2=many, 3=rest, 4=remainder]
-- [0=number, 1=powers, 2=at, 3=prime, 4=many, 5=few]
theorem noPy {n : Int} {d : Nat} (h : d < 2 ^ 300) : Builtin.divisionGoesByPylong n (d : Int) = false :=
  PyProof.noPylong_of_log2 (Nat.lt_of_lt_of_le (PySem.Flt.log2_lt_of (by decide) (show ((d : Int)).natAbs < 2 ^ 300 from h)) (by decide))
theorem spl0 {d r : Nat} (h : ¬ d ∣ r) : ((d ^ 0 * r : Nat) : Int) % (d : Int) ≠ 0 := by
  rw [Nat.pow_zero, Nat.one_mul, ← Int.natCast_emod]
  intro e
  exact h (Nat.dvd_of_mod_eq_zero (by omega))
theorem spl1 {d m r : Nat} (h : 0 < d) : ((d ^ (m + 1) * r : Nat) : Int) % (d : Int) = 0 := by
  rw [← Int.natCast_emod, Nat.pow_succ, Nat.mul_comm (d ^ m) d, Nat.mul_assoc, Nat.mul_mod_right]
  rfl
theorem spl2 {d m r : Nat} (h : 0 < d) : ((d ^ (m + 1) * r : Nat) : Int) / (d : Int) = ((d ^ m * r : Nat) : Int) := by
  rw [← Int.natCast_ediv, Nat.pow_succ, Nat.mul_comm (d ^ m) d, Nat.mul_assoc, Nat.mul_div_cancel_left _ h]
def spSplit : Sp := fun vs H Q _ => ∃ (d k r : Nat), vs = [.int ((d ^ k * r : Nat) : Int), .int (d : Int)] ∧ 1 < d ∧ 0 < r ∧ ¬ d ∣ r ∧ d < 2 ^ 300 ∧ ∀ t H', Same H H' → H' t = some (.tup [.int (k : Int), .int (r : Int)]) → Q (.ref t) H'
theorem ok_split (T : Tx K mg) : FnOk P w K mg base CX0 1 T.f__split T.d__split ["number", "divisor"] spSplit := by
  refine T.F__split.ok sc__split (fun vs H Q E h => ?_) (fun cdv A outer s H vs Q E hr h => ?_)
  · obtain ⟨d, k, r, rfl, _⟩ := h
    rfl
  obtain ⟨d, k, r, rfl, h1, hr0, hd, hb, q⟩ := h
  have nd := sc__split.nd
  refine ⟨_, (pss_cons (ps_set (i := 2) nd rfl (Or.inl rfl) pe_int)
    (pss_cons (ps_asg (pe_callB call_divmodW (by rfl) T.z_divmod (by decide +kernel) (pa_cons (pv 0) (pa_cons (pv 1) pa_nil))) (pg_tup rfl (pgs_cons (pg_name (i := 3) nd rfl (Or.inl rfl)) (pgs_cons (pg_name (i := 4) nd rfl (Or.inl rfl)) pgs_nil))))
    (pss_cons (ps_while PassesOwn.never (pt_cmpR op_eq (pv 4) pe_int (nomark _)) (pss_cons (ps_set (i := 0) nd rfl (Or.inl rfl) (pv 3))
    (pss_cons (ps_aug (i := 2) nd rfl (Or.inl rfl) pe_int ip_add)
    (pss_one (ps_asg (pe_callB call_divmodW (by rfl) T.z_divmod (by decide +kernel) (pa_cons (pv 0) (pa_cons (pv 1) pa_nil))) (pg_tup rfl (pgs_cons (pg_name (i := 3) nd rfl (Or.inl rfl)) (pgs_cons (pg_name (i := 4) nd rfl (Or.inl rfl)) pgs_nil))))))))
    (pss_one (ps_ret (pe_tup (pa_cons (pv 2) (pa_cons (pv 0) pa_nil)))))))), ?_⟩
  have hD : ∀ n : Int, CDivP n (d : Int) := fun n => ⟨by omega, noPy hb⟩
  refine ⟨_, rfl, _, rfl, _, _, rfl, hD _, fun p hp => ?_⟩
  have s1 := Same.new (o := .tup [.int (((d ^ k * r : Nat) : Int) / (d : Int)), .int (((d ^ k * r : Nat) : Int) % (d : Int))]) hp
  refine ⟨p, _, rfl, SqT.of upd_same, rfl, ?_⟩
  refine ⟨_, _, rfl, _, _, rfl, rfl, ?_⟩
  refine ⟨fun m σ H' => ∃ i : Nat, i + m = k ∧ Same H H' ∧ σ = [some (.int ((d ^ m * r : Nat) : Int)), some (.int (d : Int)), some (.int (i : Int)), some (.int (((d ^ m * r : Nat) : Int) / (d : Int))), some (.int (((d ^ m * r : Nat) : Int) % (d : Int)))], ⟨k, 0, by omega, s1, rfl⟩, ?_⟩
  rintro m σ H2 ⟨i, hi, s2, rfl⟩
  cases m with
  | zero =>
    obtain rfl : i = k := by omega
    refine ⟨_, rfl, rfl, false, congrArg V.bl (by rw [dec_int]; exact beq_false_of_ne (spl0 hd)), ?_⟩
    refine ⟨_, rfl, _, rfl, (by show 2 ≤ sizeLine; decide), fun t ht => q t _ (s2.trans (Same.new ht)) ?_⟩
    rw [Nat.pow_zero, Nat.one_mul]
    exact upd_same
  | succ m =>
    refine ⟨_, rfl, rfl, true, congrArg V.bl (by rw [dec_int, spl1 (by omega)]; rfl), ?_⟩
    refine ⟨fun σ' H' => ∃ i : Nat, i + m = k ∧ Same H H' ∧ σ' = [some (.int ((d ^ m * r : Nat) : Int)), some (.int (d : Int)), some (.int (i : Int)), some (.int (((d ^ m * r : Nat) : Int) / (d : Int))), some (.int (((d ^ m * r : Nat) : Int) % (d : Int)))], fun σ' H' h => ⟨m, Nat.lt_succ_self _, h⟩, ?_⟩
    rw [spl2 (by omega)]
    refine ⟨_, rfl, ?_⟩
    refine ⟨_, rfl, _, _, rfl, rfl, ?_⟩
    refine ⟨_, rfl, _, rfl, _, _, rfl, hD _, fun p2 hp2 => ?_⟩
    have s3 := Same.new (o := .tup [.int (((d ^ m * r : Nat) : Int) / (d : Int)), .int (((d ^ m * r : Nat) : Int) % (d : Int))]) hp2
    refine ⟨p2, _, rfl, SqT.of upd_same, rfl, ?_⟩
    exact ⟨_, _, rfl, _, _, rfl, rfl, i + 1, by omega, s2.trans s3, rfl⟩
abbrev nL (as : List Nat) : List V := as.map fun n : Nat => V.int (n : Int)
theorem nL_set (as : List Nat) (i a : Nat) : (nL as).set i (V.int (a : Int)) = nL (as.set i a) := (List.map_set ..).symm
theorem ixN_at {n i : Nat} (h : i < n) : ixN n (i : Int) = some i := by
  unfold ixN
  rw [if_pos (Int.natCast_nonneg i), if_pos (by omega), Int.toNat_natCast]
theorem cm {a b : Int} (h : a.natAbs ≤ 1000) : CMul a b := .inl ⟨by omega, by omega⟩
theorem _root_.L2.Same.upd_new {H H' : Hp} {p : Addr} {o : HO} (s : Same H H') (h : H p = none) : Same H (L2.upd H' p o) := fun c x e => by
  rw [upd_ne (ne_of_none e h)]
  exact s c x e
def spPowers : Sp := fun vs H Q _ => ∃ (as : List Nat), vs = [.int ((pp prs as : Nat) : Int)] ∧ as.length = 6 ∧ ∀ t H', Same H H' → H' t = some (.lst (as.map fun n : Nat => V.int (n : Int))) → Q (.ref t) H'
theorem ok_powers_in (T : Tx K mg) : FnOk P w K mg base CX0 2 T.f__powers_in T.d__powers_in ["number"] spPowers := by
  have G__split := ok_split (P := P) (w := w) (base := base) T
  refine T.F__powers_in.ok sc__powers_in (fun vs H Q E h => ?_) (fun cdv A outer s H vs Q E hr h => ?_)
  · obtain ⟨as, rfl, _⟩ := h
    rfl
  obtain ⟨as, rfl, hl, q⟩ := h
  have nd := sc__powers_in.nd
  refine ⟨_, (pss_cons (ps_set (i := 1) nd rfl (Or.inl rfl) (pe_op op_rep (pe_lst (pa_cons pe_int pa_nil)) (pe_callB (show CallR _ _ (rLenSq K) from call_len_seq) (by rfl) T.z_len (by decide +kernel) (pa_cons (pe_glob (v := .ref T.e_PRIMES) (by rfl) T.m_PRIMES rfl) pa_nil))))
    (pss_cons (ps_for PassesOwn.never rfl (show PI _ _ _ (iEnumT K _) from pi_enumT (by rfl) T.z_enumerate (pa_cons (pe_glob (v := .ref T.e_PRIMES) (by rfl) T.m_PRIMES rfl) pa_nil)) (pg_tup rfl (pgs_cons (pg_name (i := 2) nd rfl (Or.inl rfl)) (pgs_cons (pg_name (i := 3) nd rfl (Or.inl rfl)) pgs_nil))) (pss_cons (ps_if (pt_cmpR op_eq (pv 0) pe_int (nomark _)) (pss_one (ps_ret (pv 1))) pss_nil)
    (pss_cons (ps_asg (pe_call G__split hr (by rfl) T.m__split T.F__split.kp T.b__split .nil pass0 (pa_cons (pv 0) (pa_cons (pe_op op_pow (pv 3) pe_int) pa_nil))) (pg_tup rfl (pgs_cons (pg_name (i := 4) nd rfl (Or.inl rfl)) (pgs_cons (pg_name (i := 0) nd rfl (Or.inl rfl)) pgs_nil))))
    (pss_cons (ps_asg (pe_call G__split hr (by rfl) T.m__split T.F__split.kp T.b__split .nil pass0 (pa_cons (pv 0) (pa_cons (pv 3) pa_nil))) (pg_tup rfl (pgs_cons (pg_name (i := 5) nd rfl (Or.inl rfl)) (pgs_cons (pg_name (i := 0) nd rfl (Or.inl rfl)) pgs_nil))))
    (pss_one (ps_asg (pe_op op_add (pe_op op_mul pe_int (pv 4)) (pv 5)) (pg_sub (pv 1) (pv 2) set_list)))))))
    (pss_cons (ps_if (pt_cmpR op_ne (pv 0) pe_int (nomark _)) (pss_one ps_never) pss_nil)
    (pss_one (ps_ret (pv 1)))))), ?_⟩
  refine ⟨(by show 1 ≤ sizeLine; decide), fun p1 hp1 => ⟨T.e_PRIMES, _, rfl, .inr (T.q_PRIMES _), p1, _, _, rfl, rfl, upd_same, by decide, by decide, by decide, fun p hp => ?_⟩⟩
  have s0 := (Same.new (o := .lst [V.int 0]) hp1).trans (Same.new (o := .lst (nL (fill as 0))) hp)
  have hf : H p = none := (Same.new (o := .lst [V.int 0]) hp1).free hp
  refine ⟨T.e_PRIMES, rfl, ⟨_, T.q_PRIMES _⟩, for_it (walk_enumT (K := K) (a := T.e_PRIMES) (xs := nL prs)) (fun i σ H' => Same H H' ∧ H' p = some (.lst (nL (fill as i))) ∧ ∃ a2 a3 a4 a5, σ = [some (.int ((pp (prs.drop i) (as.drop i) : Nat) : Int)), some (.ref p), a2, a3, a4, a5]) ⟨s0, upd_same, _, _, _, _, rfl⟩ (fun _ _ _ _ _ => T.q_PRIMES _) ?_ ?_⟩
  · rintro i v σ H1 H2 hi ⟨s1, hp1, a2, a3, a4, a5, rfl⟩ ⟨t, x, y, rfl, ht, rfl, hx, hy⟩
    replace hi : i < 6 := hi
    obtain ⟨pr, a, e1, e2, g1, g2, g3, g4, g5⟩ := pp_drop hi hl
    obtain rfl : x = .int (i : Nat) := (Option.some.inj hx).symm
    obtain rfl : y = .int (pr : Nat) := by
      have hy' : (nL prs)[i]? = some y := hy
      rw [List.getElem?_map, e1] at hy'
      exact (Option.some.inj hy').symm
    have st := Same.new (o := .tup [.int (i : Nat), .int (pr : Nat)]) ht
    refine ⟨t, _, rfl, SqT.of upd_same, rfl, _, _, rfl, _, _, rfl, rfl, ?_⟩
    refine ⟨_, rfl, rfl, _, rfl, ?_⟩
    refine ite2 (fun c => ?_) (fun c => ?_)
    · have c' := of_decide_eq_true c
      rw [V.int.injEq] at c'
      refine ⟨_, rfl, q p _ (s1.trans st) ?_⟩
      rw [st _ _ hp1, fill_one hi hl (by omega)]
    have hk := split_at (a := a) g1 g4 g5
    have b64 : pr ^ 64 < 2 ^ 300 := Nat.lt_of_le_of_lt (Nat.pow_le_pow_left g2 64) (by decide)
    refine ⟨_, rfl, _, rfl, _, _, rfl, rfl, ⟨by decide, by decide, by show pr < _; omega⟩, ?_⟩
    refine ⟨pr ^ 64, a / 64, pr ^ (a % 64) * pp (prs.drop (i + 1)) (as.drop (i + 1)), ?_, Nat.one_lt_pow (by decide) g1, Nat.mul_pos (Nat.pow_pos (by omega)) g5, hk.1, b64, fun t2 H3 s3 ht2 => ?_⟩
    · rw [g3, split_eq]
      simp
    refine ⟨t2, _, rfl, SqT.of ht2, rfl, _, _, rfl, _, _, rfl, rfl, ?_⟩
    refine ⟨_, rfl, _, rfl, ?_⟩
    refine ⟨pr, a % 64, pp (prs.drop (i + 1)) (as.drop (i + 1)), rfl, g1, g5, hk.2, by omega, fun t3 H4 s4 ht3 => ?_⟩
    refine ⟨t3, _, rfl, SqT.of ht3, rfl, _, _, rfl, _, _, rfl, rfl, ?_⟩
    have hpt := s4 _ _ (s3 _ _ (st _ _ hp1))
    refine ⟨_, rfl, _, _, rfl, rfl, cm (by decide), _, rfl, _, _, rfl, rfl, ?_⟩
    refine ⟨_, rfl, _, rfl, p, _, _, i, rfl, rfl, hpt, ixN_at (by rw [List.length_map, fill_len hl (by omega)]; exact hi), ?_⟩
    refine ⟨?_, ?_, _, _, _, _, rfl⟩
    · exact (((s1.trans st).trans s3).trans s4).upd_new hf
    · show _ = some (HO.lst (nL (fill as (i + 1))))
      rw [upd_same]
      show some (HO.lst ((nL (fill as i)).set i (V.int ((64 : Int) * ((a / 64 : Nat) : Int) + ((a % 64 : Nat) : Int))))) = _
      rw [show (64 : Int) * ((a / 64 : Nat) : Int) + ((a % 64 : Nat) : Int) = (a : Int) by omega, ← fill_set hi hl e2, nL_set]
  · rintro σ H1 ⟨s1, hp1, a2, a3, a4, a5, rfl⟩
    have z : as.drop 6 = [] := List.drop_of_length_le (Nat.le_of_eq hl)
    have y : pp (prs.drop 6) (as.drop 6) = 1 := rfl
    refine ⟨_, rfl, rfl, _, rfl, ?_⟩
    refine iteF ?_
    refine ⟨_, rfl, q p _ s1 ?_⟩
    rw [hp1, show (nL prs).length = 6 from rfl, fill_all hl]
end
end TL
namespace TL
open PySem L2

/-! ### steps of a reading -/
local macro_rules | `(tactic| walk_at "hp") => `(tactic| first | assumption | exact upd_same | (refine (upd_ne (by first | assumption | (exact Ne.symm (by assumption)))).trans ?_; walk_at "hp"))
local macro_rules | `(tactic| walk_at "ok") => `(tactic| first | (exact Or.inr ⟨by decide, by decide⟩) | (exact ⟨by decide, by decide⟩) | (exact ⟨by decide, by decide, by decide⟩) | (show _ ≠ _; omega) | (show _ ≠ _; decide) | (exact Or.inl ⟨by omega, by omega⟩) | decide)
local macro_rules | `(tactic| walk_at "sq") => `(tactic| first | assumption | exact SqL.of (by walk_at "hp") | exact SqT.of (by walk_at "hp"))
local macro_rules | `(tactic| walk_at "ty") => `(tactic| first | refine ⟨_, _, Value.type "int", Value.type "list", false, rfl, ClsV.ty _, TyX.base (TyOf.int _), kt_int_list, ?_⟩ | refine ⟨_, _, Value.type "bool", Value.type "list", false, rfl, ClsV.ty _, TyX.base (TyOf.bl _), kt_bool_list, ?_⟩ | refine ⟨_, _, Value.type "str", Value.type "list", false, rfl, ClsV.ty _, TyX.base (TyOf.str _), kt_str_list, ?_⟩ | refine ⟨_, _, Value.type "NoneType", Value.type "list", false, rfl, ClsV.ty _, TyX.base TyOf.non, kt_NoneType_list, ?_⟩ | refine ⟨_, _, Value.type "list", Value.type "list", true, rfl, ClsV.ty _, tyx_L (by walk_at "sq"), kt_list_list, ?_⟩ | refine ⟨_, _, Value.type "tuple", Value.type "list", false, rfl, ClsV.ty _, tyx_T (by walk_at "sq"), kt_tuple_list, ?_⟩ | refine ⟨_, _, Value.type "int", Value.type "tuple", false, rfl, ClsV.ty _, TyX.base (TyOf.int _), kt_int_tuple, ?_⟩ | refine ⟨_, _, Value.type "bool", Value.type "tuple", false, rfl, ClsV.ty _, TyX.base (TyOf.bl _), kt_bool_tuple, ?_⟩ | refine ⟨_, _, Value.type "str", Value.type "tuple", false, rfl, ClsV.ty _, TyX.base (TyOf.str _), kt_str_tuple, ?_⟩ | refine ⟨_, _, Value.type "NoneType", Value.type "tuple", false, rfl, ClsV.ty _, TyX.base TyOf.non, kt_NoneType_tuple, ?_⟩ | refine ⟨_, _, Value.type "list", Value.type "tuple", false, rfl, ClsV.ty _, tyx_L (by walk_at "sq"), kt_list_tuple, ?_⟩ | refine ⟨_, _, Value.type "tuple", Value.type "tuple", true, rfl, ClsV.ty _, tyx_T (by walk_at "sq"), kt_tuple_tuple, ?_⟩ | refine ⟨_, _, Value.type "int", Value.type "bool", false, rfl, ClsV.ty _, TyX.base (TyOf.int _), kt_int_bool, ?_⟩ | refine ⟨_, _, Value.type "bool", Value.type "bool", true, rfl, ClsV.ty _, TyX.base (TyOf.bl _), kt_bool_bool, ?_⟩ | refine ⟨_, _, Value.type "str", Value.type "bool", false, rfl, ClsV.ty _, TyX.base (TyOf.str _), kt_str_bool, ?_⟩ | refine ⟨_, _, Value.type "NoneType", Value.type "bool", false, rfl, ClsV.ty _, TyX.base TyOf.non, kt_NoneType_bool, ?_⟩ | refine ⟨_, _, Value.type "list", Value.type "bool", false, rfl, ClsV.ty _, tyx_L (by walk_at "sq"), kt_list_bool, ?_⟩ | refine ⟨_, _, Value.type "tuple", Value.type "bool", false, rfl, ClsV.ty _, tyx_T (by walk_at "sq"), kt_tuple_bool, ?_⟩ | refine ⟨_, _, Value.type "int", Value.type "int", true, rfl, ClsV.ty _, TyX.base (TyOf.int _), kt_int_int, ?_⟩ | refine ⟨_, _, Value.type "bool", Value.type "int", true, rfl, ClsV.ty _, TyX.base (TyOf.bl _), kt_bool_int, ?_⟩ | refine ⟨_, _, Value.type "str", Value.type "int", false, rfl, ClsV.ty _, TyX.base (TyOf.str _), kt_str_int, ?_⟩ | refine ⟨_, _, Value.type "NoneType", Value.type "int", false, rfl, ClsV.ty _, TyX.base TyOf.non, kt_NoneType_int, ?_⟩ | refine ⟨_, _, Value.type "list", Value.type "int", false, rfl, ClsV.ty _, tyx_L (by walk_at "sq"), kt_list_int, ?_⟩ | refine ⟨_, _, Value.type "tuple", Value.type "int", false, rfl, ClsV.ty _, tyx_T (by walk_at "sq"), kt_tuple_int, ?_⟩ | refine ⟨_, _, Value.type "int", Value.type "str", false, rfl, ClsV.ty _, TyX.base (TyOf.int _), kt_int_str, ?_⟩ | refine ⟨_, _, Value.type "bool", Value.type "str", false, rfl, ClsV.ty _, TyX.base (TyOf.bl _), kt_bool_str, ?_⟩ | refine ⟨_, _, Value.type "str", Value.type "str", true, rfl, ClsV.ty _, TyX.base (TyOf.str _), kt_str_str, ?_⟩ | refine ⟨_, _, Value.type "NoneType", Value.type "str", false, rfl, ClsV.ty _, TyX.base TyOf.non, kt_NoneType_str, ?_⟩ | refine ⟨_, _, Value.type "list", Value.type "str", false, rfl, ClsV.ty _, tyx_L (by walk_at "sq"), kt_list_str, ?_⟩ | refine ⟨_, _, Value.type "tuple", Value.type "str", false, rfl, ClsV.ty _, tyx_T (by walk_at "sq"), kt_tuple_str, ?_⟩)
local macro_rules | `(tactic| walk_at "go1") => `(tactic| first
  | (refine ⟨_, rfl, ?_⟩)
  | (refine ⟨_, _, rfl, rfl, ?_⟩)
  | (refine ⟨_, _, _, _, rfl, rfl, SqL.of (by walk_at "hp"), rfl, ?_⟩)
  | (refine Or.inl ⟨_, rfl, ?_⟩)
  | (refine ⟨rfl, ?_⟩)
  | (refine ⟨_, _, rfl, .inl (SqL.of (by walk_at "hp")), ?_⟩)
  | (refine ⟨_, _, rfl, Or.inl (by assumption), ?_⟩)
  | (refine ⟨_, _, rfl, Or.inr (by assumption), ?_⟩)
  | (refine ⟨(by walk_at "ok"), ?_⟩)
  | (refine ⟨_, _, _, _, rfl, rfl, (by walk_at "hp"), rfl, ?_⟩))
local macro_rules | `(tactic| walk_at "go") => `(tactic| repeat (walk_at "go1"))
local macro_rules | `(tactic| walk_at "gt") => `(tactic| repeat (first | walk_at "go1" | walk_at "ty"))

section
variable {P : Program} {w : World} {K : PySem.W.Frag} {mg : Str → Option Value} {base : Heap}
def spIsNum : Sp := fun vs H Q _ => ∃ n, vs = [.int n] ∧ Q (.bl true) H
theorem ok_is_number (T : Tx K mg) : FnOk P w K mg base CX0 1 T.f_is_number T.d_is_number ["value"] spIsNum := by
  refine T.F_is_number.ok sc_is_number (fun vs H Q E h => ?_) (fun cdv A outer s H vs Q E hr h => ?_)
  · obtain ⟨n, rfl, _⟩ := h
    rfl
  obtain ⟨n, rfl, q⟩ := h
  refine ⟨_, (pss_one (ps_ret (pe_and (pe_callB (show CallR _ _ (rIsi K) from call_isi) (by rfl) T.z_isinstance (by decide +kernel) (pa_cons (pv 0) (pa_cons (pe_bltn (v := .ty "int") (u := .type "int") (by rfl) T.z_int (by decide +kernel) rfl) pa_nil))) (pe_one (pe_not (pe_callB (show CallR _ _ (rIsi K) from call_isi) (by rfl) T.z_isinstance (by decide +kernel) (pa_cons (pv 0) (pa_cons (pe_bltn (v := .ty "bool") (u := .type "bool") (by rfl) T.z_bool (by decide +kernel) rfl) pa_nil)))))))), ?_⟩
  walk_at "gt"
  exact q
/-! ### a ratio as it stands in memory -/
def rf (u d : Nat) (t : Addr) : List (Str × V) := [("over", .int (u : Int)), ("under", .int (d : Int)), ("_powers", .ref t)]
structure RAt (K : PySem.W.Frag) (C : Addr) (H : Hp) (p : Addr) (e : List Int) : Prop where
  ex : ∃ dx t, H p = some (.ins C dx (rf (up e) (dn e) t)) ∧ SqT K H t (e.map V.int)
  len : e.length = 6
theorem RAt.same {C : Addr} {H H' : Hp} {p : Addr} {e : List Int} (h : RAt K C H p e) (s : Same H H') : RAt K C H' p e := by
  obtain ⟨dx, t, h1, h2⟩ := h.ex
  exact ⟨⟨dx, t, s _ _ h1, seqT s h2⟩, h.len⟩
theorem nov : ¬ (("over" : Str) = "under") := by decide +kernel
theorem nop : ¬ (("over" : Str) = "_powers") := by decide +kernel
theorem nup : ¬ (("under" : Str) = "_powers") := by decide +kernel
theorem rf_put (u d : Nat) (t : Addr) : putF "_powers" (V.ref t) (putF "under" (V.int (d : Int)) (putF "over" (V.int (u : Int)) [])) = rf u d t := by
  show putF "_powers" (V.ref t) (if ("over" : Str) = "under" then [(("over" : Str), V.int (d : Int))] else (("over" : Str), V.int (u : Int)) :: putF "under" (V.int (d : Int)) []) = _
  rw [if_neg nov]
  show (if ("over" : Str) = "_powers" then _ else (("over" : Str), V.int (u : Int)) :: (if ("under" : Str) = "_powers" then _ else (("under" : Str), V.int (d : Int)) :: putF "_powers" (V.ref t) [])) = _
  rw [if_neg nop, if_neg nup]
  rfl
theorem nL_int (as : List Nat) : nL as = (as.map fun n : Nat => (n : Int)).map V.int := by
  rw [List.map_map]
  rfl
theorem up_down (e : List Int) : List.zipWith (· - ·) ((upE e).map fun n : Nat => (n : Int)) ((dnE e).map fun n : Nat => (n : Int)) = e := by
  apply List.ext_getElem
  · simp [upE, dnE]
  · intro i h1 h2
    simp [upE, dnE]
    omega
def spPowersOf (K : PySem.W.Frag) : Sp := fun vs H Q _ => ∃ (e : List Int), vs = [.int ((up e : Nat) : Int), .int ((dn e : Nat) : Int)] ∧ e.length = 6 ∧ ∀ t H', Same H H' → SqT K H' t (e.map V.int) → Q (.ref t) H'
theorem one_zero {e : List Int} (hl : e.length = 6) (hu : up e = 1) (hd : dn e = 1) : e = List.replicate 6 0 := by
  have h1 := pp_one pc_prs (as := upE e) (by rw [upE, List.length_map, hl]; decide) hu
  have h2 := pp_one pc_prs (as := dnE e) (by rw [dnE, List.length_map, hl]; decide) hd
  refine List.eq_replicate_iff.mpr ⟨hl, fun x hx => ?_⟩
  have a1 := h1 x.toNat (List.mem_map.mpr ⟨x, hx, rfl⟩)
  have a2 := h2 (-x).toNat (List.mem_map.mpr ⟨x, hx, rfl⟩)
  omega
-- [0=over, 1=under, 2=up, 3=down]
theorem ok_powers_of (T : Tx K mg) : FnOk P w K mg base CX0 3 T.f__powers_of T.d__powers_of ["over", "under"] (spPowersOf K) := by
  have G__powers_in := ok_powers_in (P := P) (w := w) (base := base) T
  refine T.F__powers_of.ok sc__powers_of (fun vs H Q E h => ?_) (fun cdv A outer s H vs Q E hr h => ?_)
  · obtain ⟨e, rfl, _⟩ := h
    rfl
  obtain ⟨e, rfl, hl, q⟩ := h
  have nd := sc__powers_of.nd
  refine ⟨_, (pss_cut (ps_if (PW.pt (pw_and (pt_cmpR op_eq (pv 0) pe_int (nomark _)) (pw_and1 (pt_cmpR op_eq (pv 1) pe_int (nomark _))))) (pss_one (ps_ret (pe_glob (v := .ref T.e_NO_POWERS) (by rfl) T.m_NO_POWERS rfl))) pss_nil)
    (pss_one (ps_ret (pe_callTy (show CallR _ _ (rTup1 K) from call_tup1) (by rfl) T.z_tuple (by decide +kernel) (pa_cons (pe_lc (own := [("up", 2), ("down", 3)]) (g := (gTup K 2 (gCons (gName 2) (gCons (gName 3) gNil)))) rfl nd (show PI _ _ _ (RZ.iZipA K _) from RZ.pi_zipA (by rfl) T.z_zip (pa_cons (pe_call G__powers_in hr (by rfl) T.m__powers_in T.F__powers_in.kp T.b__powers_in .nil pass0 (pa_cons (pv 0) pa_nil)) (pa_cons (pe_call G__powers_in hr (by rfl) T.m__powers_in T.F__powers_in.kp T.b__powers_in .nil pass0 (pa_cons (pv 1) pa_nil)) pa_nil))) (blkOk_by (own := [("up", 2), ("down", 3)]) (N := N__powers_of) (sc := defScope s__powers_of) (by decide +kernel)) (fun _ _ _ _ _ => by exact (pg_tup rfl (pgs_cons (pg_name (i := 2) nd rfl (Or.inl rfl)) (pgs_cons (pg_name (i := 3) nd rfl (Or.inl rfl)) pgs_nil)))) (fun _ _ _ _ _ => by exact pts_nil) (fun _ _ _ _ _ => by exact (pe_op op_sub (pv 2) (pv 3)))) pa_nil))))), ?_⟩
  refine ⟨fun σ' H' => σ' = L2.start N__powers_of [.int ((up e : Nat) : Int), .int ((dn e : Nat) : Int)] ∧ H' = H, ?_, ?_⟩
  · refine ⟨_, rfl, rfl, _, rfl, ?_⟩
    refine ite2 (fun c => ?_) (fun c => ⟨rfl, rfl⟩)
    refine ⟨_, rfl, rfl, _, rfl, ?_⟩
    refine ite2 (fun c2 => ?_) (fun c2 => ⟨rfl, rfl⟩)
    have u1 : up e = 1 := by
      have := of_decide_eq_true c
      rw [V.int.injEq] at this
      omega
    have d1 : dn e = 1 := by
      have := of_decide_eq_true c2
      rw [V.int.injEq] at this
      omega
    refine q _ H (Same.refl _) ?_
    rw [one_zero hl u1 d1]
    exact T.q_NO_POWERS H
  · rintro σ' H' ⟨rfl, rfl⟩
    refine ⟨_, rfl, upE e, rfl, by simpa [upE] using hl, fun t1 H1 s1 ht1 => ?_⟩
    refine ⟨_, rfl, dnE e, rfl, by simpa [dnE] using hl, fun t2 H2 s2 ht2 => ?_⟩
    have g1 := s2 _ _ ht1
    rw [show (upE e).map (fun n : Nat => V.int (n : Int)) = _ from nL_int _] at g1
    rw [show (dnE e).map (fun n : Nat => V.int (n : Int)) = _ from nL_int _] at ht2
    refine ⟨t1, t2, _, _, rfl, .inl ⟨SqL.of g1, SqL.of ht2, fun D hD => ?_⟩⟩
    refine lc_zipL (f := fun a b => a - b) (SqL.of g1) (SqL.of ht2) (by simp [upE, dnE]) (by simp [upE, hl]) hD (fun u v => rfl) (fun u v H1 k _ _ hk => ⟨_, rfl, _, rfl, u, v, rfl, rfl, hk⟩) fun H3 s3 hD3 => ?_
    rw [up_down] at hD3
    exact ⟨D, _, rfl, .inl (SqL.of hD3), fun t4 H4 s4 ht4 => q t4 H4 (((s1.trans s2).trans s3).trans s4) ht4⟩
def spRInit (K : PySem.W.Frag) (C : Addr) : Sp := fun vs H Q _ => ∃ (p dx : Addr) (m : Nat) (e : List Int), vs = [.ref p, .int ((m * up e : Nat) : Int), .int ((m * dn e : Nat) : Int)] ∧ H p = some (.ins C dx []) ∧ 0 < m ∧ m < 2 ^ 300 ∧ e.length = 6 ∧
  ∀ H', RAt K C H' p e → (∀ c o, H c = some o → c ≠ p → H' c = some o) → Q .non H'
theorem ok_rinit (T : Tx K mg) : FnOk P w K mg base CX0 4 T.f_Ratio_init T.d_Ratio_init ["self", "over", "under"] (spRInit K T.C_Ratio) := by
  have G_is_number := ok_is_number (P := P) (w := w) (base := base) T
  have G__powers_of := ok_powers_of (P := P) (w := w) (base := base) T
  refine T.F_Ratio_init.ok sc_Ratio_init (fun vs H Q E h => ?_) (fun cdv A outer s H vs Q E hr h => ?_)
  · obtain ⟨p, dx, m, e, rfl, _⟩ := h
    rfl
  obtain ⟨p, dx, m, e, rfl, hp, hm, hm3, hl, q⟩ := h
  have nd := sc_Ratio_init.nd
  have u1 := up_pos e
  have d1 := dn_pos e
  have a1 : 0 < m * up e := Nat.mul_pos hm u1
  have b1 : 0 < m * dn e := Nat.mul_pos hm d1
  refine ⟨_, (pss_cons (ps_if (PW.pt (pw_or (pt_not (pt_val (pe_call G_is_number (hr.mono (by decide)) (by rfl) T.m_is_number T.F_is_number.kp T.b_is_number .nil pass0 (pa_cons (pv 1) pa_nil)))) (pw_or (pt_not (pt_val (pe_call G_is_number (hr.mono (by decide)) (by rfl) T.m_is_number T.F_is_number.kp T.b_is_number .nil pass0 (pa_cons (pv 2) pa_nil)))) (pw_or (pt_cmpR op_lt (pv 1) pe_int (nomark _)) (pw_or1 (pt_cmpR op_lt (pv 2) pe_int (nomark _))))))) (pss_one ps_never) pss_nil)
    (pss_cons (ps_set (i := 3) nd rfl (Or.inl rfl) (pe_callBfun cr_gcd (by rfl) T.m_gcd (pa_cons (pv 1) (pa_cons (pv 2) pa_nil))))
    (pss_cons (ps_fld (pv 0) (pe_op op_fdivW (pv 1) (pv 3)) rfl)
    (pss_cons (ps_fld (pv 0) (pe_op op_fdivW (pv 2) (pv 3)) rfl)
    (pss_one (ps_fld (pv 0) (pe_call G__powers_of hr (by rfl) T.m__powers_of T.F__powers_of.kp T.b__powers_of .nil pass0 (pa_cons (show PE _ _ (tFld K _ _) from pe_fld (pv 0) rfl) (pa_cons (show PE _ _ (tFld K _ _) from pe_fld (pv 0) rfl) pa_nil))) rfl)))))), ?_⟩
  refine ⟨_, rfl, _, rfl, true, rfl, ?_⟩
  refine ⟨_, rfl, _, rfl, true, rfl, ?_⟩
  refine ⟨_, rfl, _, _, rfl, rfl, false, congrArg V.bl (decide_eq_false (by omega)), ?_⟩
  refine ⟨_, rfl, _, _, rfl, rfl, false, congrArg V.bl (decide_eq_false (by omega)), ?_⟩
  refine ⟨_, rfl, _, rfl, _, _, rfl, ?_⟩
  have hg : ((Nat.gcd ((m * up e : Nat) : Int).natAbs ((m * dn e : Nat) : Int).natAbs : Nat) : Int) = (m : Int) := by
    rw [Int.natAbs_natCast, Int.natAbs_natCast, gcd_of (cop_e e)]
    exact m
  rw [hg]
  have hm0 : (0 : Int) < (m : Int) := by omega
  have hW : ∀ i : Int, CDivW i (m : Int) := fun i => wide_div hm0 (by simpa using hm3) (by decide) (by decide)
  have q1 : ((m * up e : Nat) : Int) / (m : Int) = ((up e : Nat) : Int) := by rw [← Int.natCast_ediv, Nat.mul_div_cancel_left _ hm]
  have q2 : ((m * dn e : Nat) : Int) / (m : Int) = ((dn e : Nat) : Int) := by rw [← Int.natCast_ediv, Nat.mul_div_cancel_left _ hm]
  refine ⟨_, rfl, _, rfl, _, _, rfl, rfl, hW _, ?_⟩
  dsimp only
  rw [q1]
  refine ⟨_, rfl, p, T.C_Ratio, dx, [], rfl, hp, T.c_Ratio, T.n_Ratio_over, (by show 0 < 1000; decide), ?_⟩
  refine ⟨_, rfl, _, rfl, _, _, rfl, rfl, hW _, ?_⟩
  dsimp only
  rw [q2]
  refine ⟨_, rfl, p, T.C_Ratio, dx, _, rfl, upd_same, T.c_Ratio, T.n_Ratio_under, (by show 1 < 1000; decide), ?_⟩
  refine ⟨_, rfl, p, T.C_Ratio, dx, _, _, rfl, upd_same, T.c_Ratio, T.n_Ratio_over, rfl, ?_⟩
  refine ⟨_, rfl, p, T.C_Ratio, dx, _, _, rfl, upd_same, T.c_Ratio, T.n_Ratio_under, rfl, ?_⟩
  refine ⟨e, rfl, hl, fun t4 H4 s4 ht4 => ?_⟩
  have hp4 := s4 _ _ (upd_same (H := upd H p _) (a := p))
  refine ⟨_, rfl, p, T.C_Ratio, dx, _, rfl, hp4, T.c_Ratio, T.n_Ratio_powers, (by show 2 < 1000; decide), ?_⟩
  rw [rf_put]
  refine q _ ⟨⟨dx, t4, upd_same, seqT_ins hp4 ht4⟩, hl⟩ fun c o x n => ?_
  rw [upd_ne n]
  refine s4 _ _ ?_
  rw [upd_ne n, upd_ne n]
  exact x
-- [0=base, 1=exponent, 2=raised]
def spRaised : Sp := fun vs H Q _ => ∃ (b n : Nat), vs = [.int (b : Int), .int (n : Int)] ∧ 0 < b ∧ b ^ n < 2 ^ 100000 ∧ ∀ H', Same H H' → Q (.int ((b ^ n : Nat) : Int)) H'
theorem raised_rest {b n c m y : Nat} {H : Hp} {σ : L2.St} {D : Ends} (hc : 0 < c) (hy : 0 < y) (hp : y * (c * c) ^ (m / 2) = b ^ n) (hB : b ^ n < 2 ^ 100000) (hσ : σ = [some (.int (c : Int)), some (.int (m : Int)), some (.int (y : Int))])
    (hD : D.nx = fun σ' H' => ∃ c' y' : Nat, H' = H ∧ 0 < c' ∧ 0 < y' ∧ y' * c' ^ (m / 2) = b ^ n ∧ σ' = [some (.int (c' : Int)), some (.int ((m / 2 : Nat) : Int)), some (.int (y' : Int))]) :
    tSeq (tAsg (tOp (rI CDivW fun i j => .int (i / j)) (tVar 1) (tC (.int 2))) (gName 1)) (tIfS (tTest (tOp (rI0 fun i j => .bl (decide (j < i))) (tVar 1) (tC (.int 0)))) (tAsg (tOp (rI CMulW fun i j => .int (i * j)) (tVar 0) (tVar 0)) (gName 0)) tNext) D σ H := by
  subst hσ
  refine ⟨_, rfl, _, _, rfl, rfl, wide_div (b := 2) (by decide) (by decide) (by decide) (by decide), ?_⟩
  have e : ((m : Int)) / 2 = ((m / 2 : Nat) : Int) := by omega
  by_cases h : 0 < m / 2
  · refine ⟨_, rfl, _, _, rfl, rfl, true, congrArg V.bl (decide_eq_true (show (0 : Int) < (m : Int) / 2 by omega)), ?_⟩
    have h1 : c * c ≤ (c * c) ^ (m / 2) := Nat.le_self_pow (by omega) _
    have h2 : (c * c) ^ (m / 2) ≤ b ^ n := by rw [← hp]; exact Nat.le_mul_of_pos_left _ hy
    have h3 : ((c : Int)).natAbs < 2 ^ 100000 := Nat.lt_of_le_of_lt (by rw [Int.natAbs_natCast]; exact Nat.le_trans (Nat.le_mul_of_pos_right c hc) (Nat.le_trans h1 h2)) hB
    refine ⟨_, rfl, _, rfl, _, _, rfl, rfl, wide_mul h3 h3 (by decide) (by decide) (by decide), ?_⟩
    show D.nx _ _
    rw [hD]
    exact ⟨c * c, y, rfl, Nat.mul_pos hc hc, hy, hp, congrArg (fun z => [some (V.int ((c * c : Nat) : Int)), some (V.int z), some (V.int (y : Int))]) e⟩
  · refine ⟨_, rfl, _, _, rfl, rfl, false, congrArg V.bl (decide_eq_false (show ¬ (0 : Int) < (m : Int) / 2 by omega)), ?_⟩
    show D.nx _ _
    rw [hD]
    have z : m / 2 = 0 := by omega
    rw [z, Nat.pow_zero, Nat.mul_one] at hp
    refine ⟨c, y, rfl, hc, hy, by rw [z, Nat.pow_zero, Nat.mul_one, hp], congrArg (fun z => [some (V.int (c : Int)), some (V.int z), some (V.int (y : Int))]) e⟩
theorem ok_raised (T : Tx K mg) : FnOk P w K mg base CX0 1 T.f__raised T.d__raised ["base", "exponent"] spRaised := by
  refine T.F__raised.ok sc__raised (fun vs H Q E h => ?_) (fun cdv A outer s H vs Q E hr h => ?_)
  · obtain ⟨b, n, rfl, _⟩ := h
    rfl
  obtain ⟨b, n, rfl, hb, hB, q⟩ := h
  have nd := sc__raised.nd
  refine ⟨_, (pss_cons (ps_set (i := 2) nd rfl (Or.inl rfl) pe_int)
    (pss_cons (ps_while PassesOwn.never (pt_cmpR op_gt (pv 1) pe_int (nomark _)) (pss_cons (ps_if (pt_cmpR op_eq (pe_op op_mod (pv 1) pe_int) pe_int (nomark _)) (pss_one (ps_set (i := 2) nd rfl (Or.inl rfl) (pe_op op_mulW (pv 2) (pv 0)))) pss_nil)
    (pss_cons (ps_set (i := 1) nd rfl (Or.inl rfl) (pe_op op_fdivW (pv 1) pe_int))
    (pss_one (ps_if (pt_cmpR op_gt (pv 1) pe_int (nomark _)) (pss_one (ps_set (i := 0) nd rfl (Or.inl rfl) (pe_op op_mulW (pv 0) (pv 0)))) pss_nil)))))
    (pss_one (ps_ret (pv 2))))), ?_⟩
  refine ⟨fun m σ H' => ∃ c x y : Nat, m = x ∧ H' = H ∧ 0 < c ∧ 0 < y ∧ y * c ^ x = b ^ n ∧ σ = [some (.int (c : Int)), some (.int (x : Int)), some (.int (y : Int))], ⟨n, b, n, 1, rfl, rfl, hb, Nat.one_pos, Nat.one_mul _, rfl⟩, ?_⟩
  rintro m σ H2 ⟨c, x, y, rfl, rfl, hc, hy, hp, rfl⟩
  by_cases hx : 0 < m
  · refine ⟨_, rfl, _, _, rfl, rfl, true, congrArg V.bl (decide_eq_true (by omega)), ?_⟩
    refine ⟨fun σ' H' => ∃ c' y' : Nat, H' = H2 ∧ 0 < c' ∧ 0 < y' ∧ y' * c' ^ (m / 2) = b ^ n ∧ σ' = [some (.int (c' : Int)), some (.int ((m / 2 : Nat) : Int)), some (.int (y' : Int))], fun σ' H' ⟨c', y', a1, a2, a3, a4, a5⟩ => ⟨m / 2, by omega, c', m / 2, y', rfl, a1, a2, a3, a4, a5⟩, ?_⟩
    have hcx : c ≤ c ^ m := Nat.le_self_pow (by omega) c
    have hyb : y * c ≤ b ^ n := by rw [← hp]; exact Nat.mul_le_mul_left y hcx
    refine ⟨_, rfl, _, _, rfl, rfl, (by show (0 : Int) < 2; decide), rfl, _, rfl, ?_⟩
    have hb2 : ∀ z : Nat, z ≤ b ^ n → ((z : Int)).natAbs < 2 ^ 100000 := fun z hz => Nat.lt_of_le_of_lt (by rw [Int.natAbs_natCast]; exact hz) hB
    have hyn : y ≤ b ^ n := Nat.le_trans (Nat.le_mul_of_pos_right y hc) hyb
    have hcn : c ≤ b ^ n := Nat.le_trans (Nat.le_mul_of_pos_left c hy) hyb
    have hm2 : c ^ m = (c * c) ^ (m / 2) * c ^ (m % 2) := by
      rw [← Nat.pow_two, ← Nat.pow_mul, ← Nat.pow_add, Nat.div_add_mod]
    refine ite2 (fun o => ?_) (fun o => ?_)
    · have o' : m % 2 = 1 := by
        have := of_decide_eq_true o
        rw [V.int.injEq] at this
        omega
      rw [o', Nat.pow_one] at hm2
      have hp2 : (y * c) * (c * c) ^ (m / 2) = b ^ n := by
        rw [← hp, hm2, Nat.mul_assoc, Nat.mul_comm c]
      refine ⟨_, rfl, _, rfl, _, _, rfl, rfl, wide_mul (hb2 y hyn) (hb2 c hcn) (by decide) (by decide) (by decide), ?_⟩
      exact raised_rest (y := y * c) hc (Nat.mul_pos hy hc) hp2 (hB := hB) rfl rfl
    · have o' : m % 2 = 0 := by
        have := of_decide_eq_false (Bool.eq_false_iff.mpr (by simpa using o))
        have t2 : ¬ ((m : Int)) % 2 = 1 := by simpa using this
        omega
      rw [o', Nat.pow_zero, Nat.mul_one] at hm2
      rw [hm2] at hp
      exact raised_rest (y := y) hc hy hp (hB := hB) rfl rfl
  · obtain rfl : m = 0 := by omega
    refine ⟨_, rfl, _, _, rfl, rfl, false, congrArg V.bl (decide_eq_false (by omega)), ?_⟩
    refine ⟨_, rfl, ?_⟩
    rw [Nat.pow_zero, Nat.mul_one] at hp
    rw [hp]
    exact q _ (Same.refl _)
end
end TL
namespace TL
open PySem PySem.Spec PyProof.Rows L2 PySem.W
/-! ### zip of a tuple and a list -/
theorem at_tuple {prog : Program} {w : World} {A : Around} (hh : A.handled = none) {it t : Addr} {h : Heap} {its : Array Value} {i : Nat} (hi : h.IsTupleIter it t i) (hT : h.IsTuple t its) (ne : t ≠ it) :
    ∃ n P St, Draws prog w A it [it, t] n P St ∧ St i h ∧ i ≤ n ∧ (its.size ≤ i → n = i) := by
  by_cases c : i ≤ its.size
  · exact ⟨_, _, _, Draws.tuple hh it t ne its, ⟨hi, hT⟩, c, fun z => Nat.le_antisymm z c⟩
  · refine ⟨i, fun _ _ => True, fun j g => j = i ∧ g.IsTupleIter it t i ∧ g.IsTuple t its, ⟨fun _ _ st => let ⟨o, ho, _⟩ := st.2.1; ⟨o, ho⟩, fun _ _ _ st k => ⟨st.1, st.2.1.at fun o e => k it (by simp) o e, st.2.2.at fun o e => k t (by simp) o e⟩, fun j _ _ _ hj st _ => absurd st.1 (Nat.ne_of_lt hj),
      fun _ _ _ st hE => wpAny_nextOf_tuple_end hh st.2.1 st.2.2 (Array.getElem?_eq_none (by omega)) hE⟩, ⟨rfl, hi, hT⟩, Nat.le_refl _, fun _ => rfl⟩
theorem at_list {prog : Program} {w : World} {A : Around} (hh : A.handled = none) {it t : Addr} {h : Heap} {its : Array Value} {i : Nat} (hi : h.IsListIter it t i) (hT : h.IsList t its) (ne : t ≠ it) :
    ∃ n P St, Draws prog w A it [it, t] n P St ∧ St i h ∧ i ≤ n ∧ (its.size ≤ i → n = i) := by
  by_cases c : i ≤ its.size
  · exact ⟨_, _, _, Draws.list hh it t ne its, ⟨hi, hT⟩, c, fun z => Nat.le_antisymm z c⟩
  · refine ⟨i, fun _ _ => True, fun j g => j = i ∧ g.IsListIter it t i ∧ g.IsList t its, ⟨fun _ _ st => let ⟨o, ho, _⟩ := st.2.1; ⟨o, ho⟩, fun _ _ _ st k => ⟨st.1, st.2.1.at fun o e => k it (by simp) o e, st.2.2.at fun o e => k t (by simp) o e⟩, fun j _ _ _ hj st _ => absurd st.1 (Nat.ne_of_lt hj),
      fun _ _ _ st hE => wpAny_nextOf_list_end hh st.2.1 st.2.2 (Array.getElem?_eq_none (by omega)) hE⟩, ⟨rfl, hi, hT⟩, Nat.le_refl _, fun _ => rfl⟩
def ItzM (K : PySem.W.Frag) (a b : Addr) : It :=
  ⟨fun i H => ∃ xs ys x y, SqT K H a xs ∧ SqL K H b ys ∧ xs[i]? = some x ∧ ys[i]? = some y,
    fun i H v H' => ∃ T x y, v = .ref T ∧ H T = none ∧ H' = upd H T (.tup [x, y]) ∧ (∀ xs, SqT K H a xs → xs[i]? = some x) ∧ ∀ ys, SqL K H b ys → ys[i]? = some y,
    fun i H => ∃ xs ys, SqT K H a xs ∧ SqL K H b ys ∧ (xs.length ≤ i ∨ ys.length ≤ i)⟩
theorem turn_zipM {P : Program} {w : World} {K : PySem.W.Frag} {elts : List Expr} {kk : Nat} {tp : Pos} {a b z TI TO i1 i2 : Addr} (S : ZipSep2 z TI TO i1 i2 [i1, a] [i2, b]) :
    Turn P w K (.Tuple elts kk tp) (ItzM K a b) [z, TI, TO, i1, i2] z (fun i h => IsZip h z TI TO .none ∧ IsPair h TI (.ref i1) (.ref i2) ∧ (∃ x y, IsPair h TO x y) ∧ h.IsTupleIter i1 a i ∧ h.IsListIter i2 b i) where
  mem := List.mem_cons_self ..
  obj := fun i h st c hc => by
    obtain ⟨hz, hTI, ⟨x, y, hTO⟩, ⟨o1, e1, _, d1⟩, ⟨o2, e2, _, d2⟩⟩ := st
    simp only [List.mem_cons, List.not_mem_nil, or_false] at hc
    rcases hc with rfl | rfl | rfl | rfl | rfl
    · exact ⟨_, hz, fun v q => nomatch q⟩
    · exact ⟨_, hTI, fun v q => nomatch q⟩
    · exact ⟨_, hTO, fun v q => nomatch q⟩
    · exact ⟨o1, e1, fun v q => by rw [d1] at q; cases q⟩
    · exact ⟨o2, e2, fun v q => by rw [d2] at q; cases q⟩
  keep := fun i h h' st k => by
    obtain ⟨hz, hTI, ⟨x, y, hTO⟩, e1, e2⟩ := st
    exact ⟨k z (by simp) _ hz, k TI (by simp) _ hTI, ⟨x, y, k TO (by simp) _ hTO⟩, e1.at fun o q => k i1 (by simp) o q, e2.at fun o q => k i2 (by simp) o q⟩
  item := by
    intro X hP hw hK hc i pins s σ H E I hf st hg
    subst hP hw hK
    obtain ⟨hz, hTI, ⟨x0, y0, hTO⟩, e1, e2⟩ := st
    obtain ⟨xs, ys, x, y, qx, qy, hx, hy⟩ := hg
    obtain ⟨t1, r1, p1, _⟩ := I.tuple qx
    obtain ⟨t2, r2, p2, _⟩ := I.list qy
    obtain ⟨u1, hu1, ru1⟩ := r1.get hx
    obtain ⟨u2, hu2, ru2⟩ := r2.get hy
    have hT : s.heap.IsTuple a t1.toArray := p1
    have hL : s.heap.IsList b t2.toArray := p2.isList
    have n1 : a ≠ i1 := cls_ne (let ⟨o, q1, q2, _⟩ := hT; ⟨o, q1, q2⟩) (let ⟨o, q1, q2, _⟩ := e1; ⟨o, q1, q2⟩) (by decide)
    have n2 : b ≠ i2 := cls_ne (let ⟨o, q1, q2, _⟩ := hL; ⟨o, q1, q2⟩) (let ⟨o, q1, q2, _⟩ := e2; ⟨o, q1, q2⟩) (by decide)
    have hh : X.A.in1.handled = none := I.ok.hd hc
    have lz : z < s.heap.objs.size := Heap.lt_size hz
    have l1 : i < t1.toArray.size := by simpa using (List.getElem?_eq_some_iff.mp hu1).1
    have l2 : i < t2.toArray.size := by simpa using (List.getElem?_eq_some_iff.mp hu2).1
    refine wpAny_pyNext_zipD2_item S (Draws.tuple hh i1 a n1 t1.toArray) (Draws.list hh i2 b n2 t2.toArray) hz hTI hTO ⟨e1, hT⟩ ⟨e2, hL⟩ l1 l2 fun v1 v2 h' tk g1 g2 z' TO' s1 s2 hT2 hsz hk => ?_
    obtain rfl : u1 = v1 := Option.some.inj (hu1.symm.trans (by simpa using g1))
    obtain rfl : u2 = v2 := Option.some.inj (hu2.symm.trans (by simpa using g2))
    refine ⟨_, rfl, wpAny_letOwnedTupleGo_zip (s := { s with heap := h', toks := tk }) z' fun h2 z2 sb => ?_⟩
    have hT3 : h2.get? s.heap.objs.size = some { cls := .type "tuple", data := .seq #[u1, u2] } := (sb.2 _ (Nat.ne_of_gt lz)).trans hT2
    have new : ObjOk X.prog X.w (upd H s.heap.objs.size (.tup [x, y])) h2 s.heap.objs.size (.tup [x, y]) := ⟨(show 2 ≤ sizeLine by decide), [u1, u2], .cons ru1 (.cons ru2 .nil), ⟨_, hT3, rfl, _, rfl⟩⟩
    have I1 : Inv X pins σ (upd H s.heap.objs.size (.tup [x, y])) { s with heap := h2, toks := tk } :=
      I.turnedNew (ch := [z, TI, TO, i1, i2]) (fun c o hb q => (sb.2 c fun q' => hb (by simp [q'])).trans (hk c o (fun q' => hb (by simp [q'])) (fun q' => hb (by simp [q'])) (fun q' => hb (by simp [q'])) (fun q' => hb (by simp [q'])) q)) hf (Nat.le_refl _) new
    have z1 : z ≠ i1 := S.zi1
    have z3 : z ≠ i2 := S.zi2
    refine ⟨.ref s.heap.objs.size, _, I1, rfl, ⟨_, x, y, rfl, I.hok.fresh (Nat.le_refl _), rfl, fun l hl => by rw [I.tuple_inj hl qx]; exact hx, fun l hl => by rw [I.list_inj hl qy]; exact hy⟩, ⟨z2, ?_, ⟨u1, u2, ?_⟩, ?_, ?_⟩, fun c hcm => ?_⟩
    · exact (sb.2 _ S.TIz).trans (hk _ _ S.TIz S.TITO S.TIi1 S.TIi2 hTI)
    · exact (sb.2 _ S.TOz).trans TO'
    · exact s1.1.at fun o q => (sb.2 _ (Ne.symm z1)).trans q
    · exact s2.1.at fun o q => (sb.2 _ (Ne.symm z3)).trans q
    · have lc : c < s.heap.objs.size := by
        simp only [List.mem_cons, List.not_mem_nil, or_false] at hcm
        rcases hcm with rfl | rfl | rfl | rfl | rfl
        · exact lz
        · exact Heap.lt_size hTI
        · exact Heap.lt_size hTO
        · obtain ⟨_, q, _⟩ := e1
          exact Heap.lt_size q
        · obtain ⟨_, q, _⟩ := e2
          exact Heap.lt_size q
      rw [upd_ne (Nat.ne_of_lt lc)]
      exact (hf c hcm).1
  done := by
    intro X hP hw hK hc i pins s σ H E I hf st hg
    subst hP hw hK
    obtain ⟨hz, hTI, ⟨x0, y0, hTO⟩, e1, e2⟩ := st
    obtain ⟨xs, ys, qx, qy, hend⟩ := hg
    obtain ⟨t1, r1, p1, _⟩ := I.tuple qx
    obtain ⟨t2, r2, p2, _⟩ := I.list qy
    have hT : s.heap.IsTuple a t1.toArray := p1
    have hL : s.heap.IsList b t2.toArray := p2.isList
    have n1 : a ≠ i1 := cls_ne (let ⟨o, q1, q2, _⟩ := hT; ⟨o, q1, q2⟩) (let ⟨o, q1, q2, _⟩ := e1; ⟨o, q1, q2⟩) (by decide)
    have n2 : b ≠ i2 := cls_ne (let ⟨o, q1, q2, _⟩ := hL; ⟨o, q1, q2⟩) (let ⟨o, q1, q2, _⟩ := e2; ⟨o, q1, q2⟩) (by decide)
    have hh : X.A.in1.handled = none := I.ok.hd hc
    have l1 := r1.length
    have l2 := r2.length
    obtain ⟨m1, P1, S1, D1, g1, k1, f1⟩ := at_tuple (prog := X.prog) (w := X.w) hh e1 hT n1
    obtain ⟨m2, P2, S2, D2, g2, k2, f2⟩ := at_list (prog := X.prog) (w := X.w) hh e2 hL n2
    refine wpAny_pyNext_zipD2_end S D1 D2 hz hTI hTO g1 g2 k1 k2 ?_ fun h' tk hk => ⟨rfl, I.turnedL (t' := tk) (ch := [z, TI, TO, i1, i2]) (fun c o hb q => hk c o (fun q' => hb (by simp [q'])) (fun q' => hb (by simp [q'])) (fun q' => hb (by simp [q'])) (fun q' => hb (by simp [q'])) q) hf⟩
    rcases hend with q | q
    · exact .inl (f1 (by simp; omega)).symm
    · exact .inr (f2 (by simp; omega)).symm
  self := fun A i s Q E st h => wpAny_pyIter_zip st.1 h
/-- zip of a tuple and a list or a tuple -/
def ZipOf (K : PySem.W.Frag) (H : Hp) (a b : Addr) (ys : List V) (J : It) : Prop := (SqL K H b ys ∧ J = ItzM K a b) ∨ (SqT K H b ys ∧ J = RZ.ItzT K a b)
def iZipP (K : PySem.W.Frag) (ta : TA) : TI := fun σ H R => ta σ H fun vs H1 => ∃ a b xs ys, vs = [.ref a, .ref b] ∧ SqT K H1 a xs ∧ Sq K H1 b ys ∧ ∀ J, ZipOf K H1 a b ys J → R J H1
theorem pi_zipP {X : Cx} {e e2 : Expr} {ta : TA} {p pos tp : Pos} {elts : List Expr} {kk : Nat} (hg : Gl X "zip") (hm : X.mg "zip" = none) (ha : PA X [e, e2] ta)
    (hs : starEach [e, e2] X.env = (false, eval e X.env) :: starEach [e2] X.env := by rfl) (hpl : (backTo pos (starEach [e2] X.env)).any (·.1) = false := by rfl) :
    PI X (.Tuple elts kk tp) (.Call (.Name "zip" p) [e, e2] [] pos) (iZipP X.K ta) := by
  refine ⟨fun pins s σ H R I h => Call_ (ld_blt I hg hm PyProof.Rows.boot_zip (PyProof.Rows.callWith_type1 (thn (ha.run pos pins s σ H _ I h) fun us s1 ⟨vs, H1, I1, r1, q1⟩ => ?_) hs hpl))⟩
  obtain ⟨a, b, xs, ys, ex, hqx, hqB, q1⟩ := q1
  subst ex
  cases r1 with
  | cons r rr =>
    cases rr with
    | cons r' rr =>
      cases rr
      cases r
      cases r'
      have fresh5 : ∀ c, c ∈ [s1.heap.objs.size + 4, s1.heap.objs.size + 2, s1.heap.objs.size + 3, s1.heap.objs.size, s1.heap.objs.size + 1] → FpOk X pins H1 c := fun c hcm => by
        simp only [List.mem_cons, List.not_mem_nil, or_false] at hcm
        have lc : s1.heap.objs.size ≤ c := by
          rcases hcm with z | z | z | z | z
          · exact z ▸ Nat.le_add_right _ _
          · exact z ▸ Nat.le_add_right _ _
          · exact z ▸ Nat.le_add_right _ _
          · exact z ▸ Nat.le_refl _
          · exact z ▸ Nat.le_add_right _ _
        exact I1.fpOk lc (I1.hok.fresh lc)
      obtain ⟨its, rv, p1, _⟩ := I1.tuple hqx
      obtain ⟨o1, ho1, _⟩ := id p1
      have hT : s1.heap.IsTuple a its.toArray := p1
      rcases hqB with hqy | hqy
      · obtain ⟨its2, rv2, p2, _⟩ := I1.list hqy
        have hL : s1.heap.IsList b its2.toArray := p2.isList
        obtain ⟨o2, ho2, _⟩ := id hL
        refine zip_begins2 (begins_tuple a its.toArray) (begins_list b its2.toArray) hT hL fun h' hz hTI hTO h1 h2 hsz hk => wpAny_pyIter_zip hz ?_
        have I2 : Inv X pins σ H1 { s1 with heap := h' } := I1.kept (t' := s1.toks) hk
        exact ⟨s1.heap.objs.size + 4, [s1.heap.objs.size + 4, s1.heap.objs.size + 2, s1.heap.objs.size + 3, s1.heap.objs.size, s1.heap.objs.size + 1], _, _, H1, rfl, I2,
          turn_zipM (zip_sep2 (fp1 := [a]) (fp2 := [b]) (fun c hc => by rw [List.mem_singleton.mp hc]; exact Heap.lt_size ho1) (fun c hc => by rw [List.mem_singleton.mp hc]; exact Heap.lt_size ho2)), ⟨hz, hTI, ⟨_, _, hTO⟩, ⟨_, h1, rfl, rfl⟩, ⟨_, h2, rfl, rfl⟩⟩, fresh5, q1 _ (.inl ⟨hqy, rfl⟩)⟩
      · obtain ⟨its2, rv2, p2, _⟩ := I1.tuple hqy
        obtain ⟨o2, ho2, _⟩ := id p2
        refine RZ.call_zipT hT (show s1.heap.IsTuple b its2.toArray from p2) fun h' hz hTI hTO h1 h2 hsz hk => wpAny_pyIter_zip hz ?_
        have I2 : Inv X pins σ H1 { s1 with heap := h' } := I1.kept (t' := s1.toks) hk
        exact ⟨s1.heap.objs.size + 4, [s1.heap.objs.size + 4, s1.heap.objs.size + 2, s1.heap.objs.size + 3, s1.heap.objs.size, s1.heap.objs.size + 1], _, _, H1, rfl, I2, RZ.turn_zipT (PySem.W.ktu_apart s1.heap.objs.size a b (Heap.lt_size ho1) (Heap.lt_size ho2)), ⟨hz, hTI, ⟨_, _, hTO⟩, h1, h2⟩, fresh5, q1 _ (.inr ⟨hqy, rfl⟩)⟩
theorem walk_zipM {K : PySem.W.Frag} {a b : Addr} {xs ys : List V} (h : xs.length = ys.length) : Walk (ItzM K a b) xs.length (fun H => SqT K H a xs ∧ SqL K H b ys) (YPair (fun i => xs[i]?) (fun i => ys[i]?)) := by
  refine ⟨fun i _ hi q => ⟨xs, ys, xs[i], ys[i]'(h ▸ hi), q.1, q.2, List.getElem?_eq_getElem hi, List.getElem?_eq_getElem (h ▸ hi)⟩, fun _ q => ⟨xs, ys, q.1, q.2, .inl (Nat.le_refl _)⟩, fun i H v H' _ q y => ?_⟩
  obtain ⟨T, x, y, e1, e2, e3, e4, e5⟩ := y
  exact ⟨T, x, y, e1, e2, e3, e4 xs q.1, e5 ys q.2⟩
theorem ZipOf.walk {K : PySem.W.Frag} {H : Hp} {a b : Addr} {xs ys : List V} {J : It} (z : ZipOf K H a b ys J) (hx : SqT K H a xs) (h : xs.length = ys.length) :
    ∃ G : Hp → Prop, Walk J xs.length G (YPair (fun i => xs[i]?) (fun i => ys[i]?)) ∧ ∀ H', Same H H' → G H' := by
  rcases z with ⟨hy, rfl⟩ | ⟨hy, rfl⟩
  · exact ⟨_, walk_zipM h, fun H' s => ⟨seqT s hx, s.seq hy⟩⟩
  · exact ⟨_, walk_zipT (by omega), fun H' s => ⟨seqT s hx, seqT s hy⟩⟩
end TL
namespace TL
open PySem L2

/-! ### steps of a reading -/
local macro_rules | `(tactic| walk_at "hp") => `(tactic| first | assumption | exact upd_same | (refine (upd_ne (by first | assumption | (exact Ne.symm (by assumption)))).trans ?_; walk_at "hp"))
local macro_rules | `(tactic| walk_at "ok") => `(tactic| first | (exact Or.inr ⟨by decide, by decide⟩) | (exact ⟨by decide, by decide⟩) | (exact ⟨by decide, by decide, by decide⟩) | (show _ ≠ _; omega) | (show _ ≠ _; decide) | (exact Or.inl ⟨by omega, by omega⟩) | decide)
local macro_rules | `(tactic| walk_at "sq") => `(tactic| first | assumption | exact SqL.of (by walk_at "hp") | exact SqT.of (by walk_at "hp"))
local macro_rules | `(tactic| walk_at "ty") => `(tactic| first | refine ⟨_, _, Value.type "int", Value.type "list", false, rfl, ClsV.ty _, TyX.base (TyOf.int _), kt_int_list, ?_⟩ | refine ⟨_, _, Value.type "bool", Value.type "list", false, rfl, ClsV.ty _, TyX.base (TyOf.bl _), kt_bool_list, ?_⟩ | refine ⟨_, _, Value.type "str", Value.type "list", false, rfl, ClsV.ty _, TyX.base (TyOf.str _), kt_str_list, ?_⟩ | refine ⟨_, _, Value.type "NoneType", Value.type "list", false, rfl, ClsV.ty _, TyX.base TyOf.non, kt_NoneType_list, ?_⟩ | refine ⟨_, _, Value.type "list", Value.type "list", true, rfl, ClsV.ty _, tyx_L (by walk_at "sq"), kt_list_list, ?_⟩ | refine ⟨_, _, Value.type "tuple", Value.type "list", false, rfl, ClsV.ty _, tyx_T (by walk_at "sq"), kt_tuple_list, ?_⟩ | refine ⟨_, _, Value.type "int", Value.type "tuple", false, rfl, ClsV.ty _, TyX.base (TyOf.int _), kt_int_tuple, ?_⟩ | refine ⟨_, _, Value.type "bool", Value.type "tuple", false, rfl, ClsV.ty _, TyX.base (TyOf.bl _), kt_bool_tuple, ?_⟩ | refine ⟨_, _, Value.type "str", Value.type "tuple", false, rfl, ClsV.ty _, TyX.base (TyOf.str _), kt_str_tuple, ?_⟩ | refine ⟨_, _, Value.type "NoneType", Value.type "tuple", false, rfl, ClsV.ty _, TyX.base TyOf.non, kt_NoneType_tuple, ?_⟩ | refine ⟨_, _, Value.type "list", Value.type "tuple", false, rfl, ClsV.ty _, tyx_L (by walk_at "sq"), kt_list_tuple, ?_⟩ | refine ⟨_, _, Value.type "tuple", Value.type "tuple", true, rfl, ClsV.ty _, tyx_T (by walk_at "sq"), kt_tuple_tuple, ?_⟩ | refine ⟨_, _, Value.type "int", Value.type "bool", false, rfl, ClsV.ty _, TyX.base (TyOf.int _), kt_int_bool, ?_⟩ | refine ⟨_, _, Value.type "bool", Value.type "bool", true, rfl, ClsV.ty _, TyX.base (TyOf.bl _), kt_bool_bool, ?_⟩ | refine ⟨_, _, Value.type "str", Value.type "bool", false, rfl, ClsV.ty _, TyX.base (TyOf.str _), kt_str_bool, ?_⟩ | refine ⟨_, _, Value.type "NoneType", Value.type "bool", false, rfl, ClsV.ty _, TyX.base TyOf.non, kt_NoneType_bool, ?_⟩ | refine ⟨_, _, Value.type "list", Value.type "bool", false, rfl, ClsV.ty _, tyx_L (by walk_at "sq"), kt_list_bool, ?_⟩ | refine ⟨_, _, Value.type "tuple", Value.type "bool", false, rfl, ClsV.ty _, tyx_T (by walk_at "sq"), kt_tuple_bool, ?_⟩ | refine ⟨_, _, Value.type "int", Value.type "int", true, rfl, ClsV.ty _, TyX.base (TyOf.int _), kt_int_int, ?_⟩ | refine ⟨_, _, Value.type "bool", Value.type "int", true, rfl, ClsV.ty _, TyX.base (TyOf.bl _), kt_bool_int, ?_⟩ | refine ⟨_, _, Value.type "str", Value.type "int", false, rfl, ClsV.ty _, TyX.base (TyOf.str _), kt_str_int, ?_⟩ | refine ⟨_, _, Value.type "NoneType", Value.type "int", false, rfl, ClsV.ty _, TyX.base TyOf.non, kt_NoneType_int, ?_⟩ | refine ⟨_, _, Value.type "list", Value.type "int", false, rfl, ClsV.ty _, tyx_L (by walk_at "sq"), kt_list_int, ?_⟩ | refine ⟨_, _, Value.type "tuple", Value.type "int", false, rfl, ClsV.ty _, tyx_T (by walk_at "sq"), kt_tuple_int, ?_⟩ | refine ⟨_, _, Value.type "int", Value.type "str", false, rfl, ClsV.ty _, TyX.base (TyOf.int _), kt_int_str, ?_⟩ | refine ⟨_, _, Value.type "bool", Value.type "str", false, rfl, ClsV.ty _, TyX.base (TyOf.bl _), kt_bool_str, ?_⟩ | refine ⟨_, _, Value.type "str", Value.type "str", true, rfl, ClsV.ty _, TyX.base (TyOf.str _), kt_str_str, ?_⟩ | refine ⟨_, _, Value.type "NoneType", Value.type "str", false, rfl, ClsV.ty _, TyX.base TyOf.non, kt_NoneType_str, ?_⟩ | refine ⟨_, _, Value.type "list", Value.type "str", false, rfl, ClsV.ty _, tyx_L (by walk_at "sq"), kt_list_str, ?_⟩ | refine ⟨_, _, Value.type "tuple", Value.type "str", false, rfl, ClsV.ty _, tyx_T (by walk_at "sq"), kt_tuple_str, ?_⟩)
local macro_rules | `(tactic| walk_at "go1") => `(tactic| first
  | (refine ⟨_, rfl, ?_⟩)
  | (refine ⟨_, _, rfl, rfl, ?_⟩)
  | (refine ⟨_, _, _, _, rfl, rfl, SqL.of (by walk_at "hp"), rfl, ?_⟩)
  | (refine Or.inl ⟨_, rfl, ?_⟩)
  | (refine ⟨rfl, ?_⟩)
  | (refine ⟨_, _, rfl, .inl (SqL.of (by walk_at "hp")), ?_⟩)
  | (refine ⟨_, _, rfl, Or.inl (by assumption), ?_⟩)
  | (refine ⟨_, _, rfl, Or.inr (by assumption), ?_⟩)
  | (refine ⟨(by walk_at "ok"), ?_⟩)
  | (refine ⟨_, _, _, _, rfl, rfl, (by walk_at "hp"), rfl, ?_⟩))
local macro_rules | `(tactic| walk_at "go") => `(tactic| repeat (walk_at "go1"))
local macro_rules | `(tactic| walk_at "gt") => `(tactic| repeat (first | walk_at "go1" | walk_at "ty"))

section
variable {P : Program} {w : World} {K : PySem.W.Frag} {mg : Str → Option Value} {base : Heap}
-- [0=powers, 1=number, 2=at, 3=prime, 4=power] [0=powers, 1=over, 2=under, 3=prime, 4=power]
theorem bits_gt (m : Int) : m.natAbs < 2 ^ Builtin.Int.intBits m := by
  unfold Builtin.Int.intBits
  by_cases h : m = 0
  · subst h
    decide
  · rw [if_neg (by simpa using h)]
    exact Nat.lt_log2_self
theorem bits_small {m : Int} {k : Nat} (h : m.natAbs < 2 ^ k) : Builtin.Int.intBits m ≤ k := PyProof.Rows.intBits_le h
theorem bit_val (a k : Nat) : ((a : Int) / 2 ^ k).fmod 2 = ((a / 2 ^ k % 2 : Nat) : Int) := by
  rw [Int.fmod_eq_emod_of_nonneg _ (by decide)]
  norm_cast
theorem cut1 (x : V) (xs : List V) : cutV (x :: xs) (some 1) none = xs := by
  unfold cutV
  have e1 : HT.sIx (x :: xs).length 0 (some 1) = 1 := by
    unfold HT.sIx
    simp
  have e2 : HT.sIx (x :: xs).length (x :: xs).length none = (x :: xs).length := rfl
  rw [e1, e2]
  simp
def ps5 : List Nat := [3, 5, 7, 11, 13]
theorem ps5_two : ∀ p ∈ ps5, 2 ≤ p := by decide
def spMade (K : PySem.W.Frag) : Sp := fun vs H Q _ => ∃ (a : Addr) (as : List Nat), vs = [.ref a] ∧ SqL K H a (nL as) ∧ as.length = 6 ∧ pp prs as < 2 ^ 100000 ∧ ∀ H', Same H H' → Q (.int ((pp prs as : Nat) : Int)) H'
theorem ok_made_of (T : Tx K mg) : FnOk P w K mg base CX0 1 T.f__made_of T.d__made_of ["powers"] (spMade K) := by
  refine T.F__made_of.ok sc__made_of (fun vs H Q E h => ?_) (fun cdv A outer s H vs Q E hr h => ?_)
  · obtain ⟨a, as, rfl, _⟩ := h
    rfl
  obtain ⟨a, as, rfl, ha, hl, hu, q⟩ := h
  have nd := sc__made_of.nd
  refine ⟨_, (pss_cons (ps_set (i := 1) nd rfl (Or.inl rfl) pe_int)
    (pss_cons (ps_for PassesOwn.never rfl (pi_revR (by rfl) T.z_reversed (prg_1 (by rfl) T.z_range (pe_bits (pe_callB (show CallR _ _ (rMaxS K) from cr_maxS rfl) (by rfl) T.z_max (by decide +kernel) (pa_cons (pv 0) pa_nil))))) (pg_name (i := 2) nd rfl (Or.inl rfl)) (pss_cons (ps_set (i := 1) nd rfl (Or.inl rfl) (pe_op op_mulW (pv 1) (pv 1)))
    (pss_one (ps_for PassesOwn.never rfl (show PI _ _ _ (iZipP K _) from pi_zipP (by rfl) T.z_zip (pa_cons (pe_slice (show SlR _ (rSlT K) from sl_tup) (pe_glob (v := .ref T.e_PRIMES) (by rfl) T.m_PRIMES rfl) (po_some pe_int) po_none) (pa_cons (pe_slice (show SlR _ (rSlL K) from sl_list) (pv 0) (po_some pe_int) po_none) pa_nil))) (pg_tup rfl (pgs_cons (pg_name (i := 3) nd rfl (Or.inl rfl)) (pgs_cons (pg_name (i := 4) nd rfl (Or.inl rfl)) pgs_nil))) (pss_one (ps_if (pt_cmpR op_eq (pe_op op_modN (pe_op op_shrN (pv 4) (pv 2)) pe_int) pe_int (nomark _)) (pss_one (ps_set (i := 1) nd rfl (Or.inl rfl) (pe_op op_mulW (pv 1) (pv 3)))) pss_nil))))))
    (pss_one (ps_ret (pe_op op_shlN (pv 1) (pe_ix (show IxR _ (rIxL K) from ix_list) (pv 0) pe_int (fun _ _ => rfl))))))), ?_⟩
  obtain ⟨a0, as5, rfl, hl5⟩ : ∃ a0 as5, as = a0 :: as5 ∧ as5.length = 5 := by
    match as, hl with
    | a0 :: as5, h => exact ⟨a0, as5, rfl, Nat.succ.inj h⟩
  have pe : pp prs (a0 :: as5) = 2 ^ a0 * pp ps5 as5 := rfl
  have hu5 : pp ps5 as5 ≤ pp prs (a0 :: as5) := by rw [pe]; exact Nat.le_mul_of_pos_left _ (Nat.pow_pos (by decide))
  have hb : ∀ {b : Nat}, b ≤ pp ps5 as5 → ((b : Int)).natAbs < 2 ^ 100000 := fun h => Nat.lt_of_le_of_lt (by rw [Int.natAbs_natCast]; exact Nat.le_trans h hu5) hu
  have hlt : ∀ x ∈ (a0 :: as5), x < 100000 := fun x hx => (Nat.pow_lt_pow_iff_right (by decide : 1 < 2)).mp (Nat.lt_of_le_of_lt (pp_ge (ps := prs) (by decide) (by rw [hl]; decide) x hx) hu)
  have hsh : CShl ((pp ps5 as5 : Nat) : Int) (a0 : Int) := shl_ok (hb (Nat.le_refl _)) (by
    have := hlt a0 (List.mem_cons_self ..)
    clear hu hb hlt
    omega)
  clear hu
  refine ⟨_, rfl, a, (a0 :: as5).map (fun n : Nat => (n : Int)), rfl, .inl (by rw [← nL_int]; exact ha), by rw [List.length_map, hl]; decide, fun m hm hle => ?_⟩
  have hm0 : 0 ≤ m := by
    obtain ⟨x, _, rfl⟩ := List.mem_map.mp hm
    omega
  have hm1 : m.natAbs < 2 ^ 17 := by
    obtain ⟨x, hx, rfl⟩ := List.mem_map.mp hm
    have := hlt x hx
    rw [Int.natAbs_natCast]
    exact Nat.lt_trans this (by decide)
  have hn := bits_small hm1
  have hmb := bits_gt m
  obtain ⟨n, en⟩ : ∃ n, n = Builtin.Int.intBits m := ⟨_, rfl⟩
  rw [← en] at hn hmb
  have hall : ∀ x ∈ as5, x < 2 ^ n := fun x hx => by
    have := hle x (List.mem_map.mpr ⟨x, List.mem_cons_of_mem _ hx, rfl⟩)
    have : x ≤ m.natAbs := by omega
    omega
  have shr_le : ∀ k, pp ps5 (shrE k as5) ≤ pp ps5 as5 := fun k => pp_shr_le k ps5_two
  refine ⟨m, rfl, (n : Int), by rw [en], by decide, by decide, (by clear hb hlt; omega), (by clear hb hlt; omega), for_rangeC (fun i σ H' => Same H H' ∧ ∃ a2 a3 a4, σ = [some (.ref a), some (.int ((pp ps5 (shrE (n - i) as5) : Nat) : Int)), a2, a3, a4]) ⟨Same.refl _, none, none, none, ?_⟩ ?_ ?_⟩
  · rw [Nat.sub_zero, shr_top hall]
    rfl
  · rintro i σ H1 hi ⟨s1, a2, a3, a4, rfl⟩
    replace hi : i < n := by omega
    have ek : (0 + ((((n : Int) - 0).toNat : Nat) : Int) - 1) + ((i : Nat) : Int) * (-1) = ((n - 1 - i : Nat) : Int) := by omega
    rw [ek]
    obtain ⟨k, hk⟩ : ∃ k, k = n - 1 - i := ⟨_, rfl⟩
    rw [← hk]
    have hk1 : n - i = k + 1 := by omega
    rw [hk1]
    have st := pp_step k ps5 as5
    have bpos : 0 < pp ps5 (bitE k as5) := pp_pos2 _ ps5_two
    have sq_le : pp ps5 (shrE (k + 1) as5) * pp ps5 (shrE (k + 1) as5) ≤ pp ps5 as5 := Nat.le_trans (Nat.le_mul_of_pos_right _ bpos) (by rw [← st]; exact shr_le k)
    refine ⟨_, rfl, _, rfl, _, _, rfl, rfl, wide_mul (hb (shr_le _)) (hb (shr_le _)) (by decide) (by decide) (by decide), ?_⟩
    have c1 : cutV (nL prs) (some 1) none = nL ps5 := cut1 (.int ((2 : Nat) : Int)) (nL ps5)
    have c2 : cutV (nL (a0 :: as5)) (some 1) none = nL as5 := cut1 (.int (a0 : Int)) (nL as5)
    refine ⟨1, rfl, T.e_PRIMES, nL prs, rfl, T.q_PRIMES _, by decide, fun pA hpA => ?_⟩
    have sA := s1.trans (Same.new (o := .tup (cutV (nL prs) (some 1) none)) hpA)
    refine ⟨_, rfl, 1, rfl, a, nL (a0 :: as5), rfl, sA.seq ha, fun pB hpB => ?_⟩
    have sB := sA.trans (Same.new (o := .lst (cutV (nL (a0 :: as5)) (some 1) none)) hpB)
    have hT := Same.new (o := .lst (cutV (nL (a0 :: as5)) (some 1) none)) hpB _ _ (upd_same (H := H1) (a := pA) (o := .tup (cutV (nL prs) (some 1) none)))
    have hL := upd_same (H := upd H1 pA (.tup (cutV (nL prs) (some 1) none))) (a := pB) (o := .lst (cutV (nL (a0 :: as5)) (some 1) none))
    generalize upd (upd H1 pA (.tup (cutV (nL prs) (some 1) none))) pB (.lst (cutV (nL (a0 :: as5)) (some 1) none)) = H2 at *
    rw [c1] at hT
    rw [c2] at hL
    clear sA hpA hpB c1 c2
    have l5 : (nL ps5).length = (nL as5).length := by rw [List.length_map, List.length_map, hl5]; rfl
    refine ⟨pA, pB, nL ps5, nL as5, rfl, SqT.of hT, .inl (SqL.of hL), fun J z => ?_⟩
    obtain ⟨G, wz, wG⟩ := z.walk (xs := nL ps5) (SqT.of hT) l5
    refine for_it wz (fun j σ H' => Same H2 H' ∧ ∃ a3 a4, σ = [some (.ref a), some (.int ((pp ps5 (shrE (k + 1) as5) * pp ps5 (shrE (k + 1) as5) * pp (ps5.take j) ((bitE k as5).take j) : Nat) : Int)), some (.int (k : Int)), a3, a4]) ⟨Same.refl _, a3, a4, ?_⟩ (fun j σ H' _ h => wG H' h.1) ?_ ?_
    · rw [show pp (ps5.take 0) ((bitE k as5).take 0) = 1 from rfl, Nat.mul_one]
      rfl
    · rintro j v σ H3 H4 hj ⟨s3, b3, b4, rfl⟩ ⟨t, x, y, rfl, ht, rfl, hx, hy⟩
      replace hj : j < 5 := hj
      have hx' : (ps5.map fun n : Nat => V.int (n : Int))[j]? = some x := hx
      have hy' : (as5.map fun n : Nat => V.int (n : Int))[j]? = some y := hy
      rw [List.getElem?_map] at hx' hy'
      obtain ⟨p, hp, rfl⟩ := Option.map_eq_some_iff.mp hx'
      obtain ⟨b, hb', rfl⟩ := Option.map_eq_some_iff.mp hy'
      have hbit : (bitE k as5)[j]? = some (b / 2 ^ k % 2) := by rw [bitE, List.getElem?_map, hb']; rfl
      have pt := pp_take (ps := ps5) hp hbit
      have p13 : p < 2 ^ 5 := by
        have : ∀ q ∈ ps5, q < 2 ^ 5 := by decide
        exact this p (List.mem_of_getElem? hp)
      have s4 := Same.new (o := .tup [.int (p : Int), .int (b : Int)]) ht
      refine ⟨t, _, rfl, SqT.of upd_same, rfl, _, _, rfl, _, _, rfl, rfl, ?_⟩
      refine ⟨_, rfl, _, rfl, (b : Int), k, rfl, rfl, _, _, rfl, rfl, (by show (2 : Int) ≠ 0; decide), rfl, _, rfl, ?_⟩
      have bv := bit_val b k
      have tk : pp (ps5.take j) ((bitE k as5).take j) ≤ pp ps5 (bitE k as5) := by
        rw [pp_split j ps5 (bitE k as5) (by rw [bitE, List.length_map, hl5]; rfl)]
        exact Nat.le_mul_of_pos_right _ (pp_pos2 _ fun q hq => ps5_two q (List.mem_of_mem_drop hq))
      have le2 : pp ps5 (shrE (k + 1) as5) * pp ps5 (shrE (k + 1) as5) * pp (ps5.take j) ((bitE k as5).take j) ≤ pp ps5 as5 := Nat.le_trans (Nat.mul_le_mul_left _ tk) (by rw [← st]; exact shr_le k)
      refine ite2 (fun c => ?_) (fun c => ?_)
      · have c' : b / 2 ^ k % 2 = 1 := by
          have h1 : V.int (((b : Int) / 2 ^ k).fmod 2) = V.int 1 := of_decide_eq_true c
          rw [V.int.injEq, bv] at h1
          omega
        rw [c', Nat.pow_one] at pt
        refine ⟨_, rfl, _, rfl, _, _, rfl, rfl, wide_mul (hb le2) (show ((p : Int)).natAbs < 2 ^ 5 by rw [Int.natAbs_natCast]; exact p13) (by decide) (by decide) (by decide), s3.trans s4, some (.int (p : Int)), some (.int (b : Int)), ?_⟩
        rw [pt, ← Nat.mul_assoc]
        rfl
      · have c' : b / 2 ^ k % 2 = 0 := by
          have : ¬ b / 2 ^ k % 2 = 1 := fun e => c (decide_eq_true (show V.int (((b : Int) / 2 ^ k).fmod 2) = V.int 1 by rw [bv, e]; rfl))
          exact (Nat.mod_two_eq_zero_or_one _).resolve_right this
        rw [c', Nat.pow_zero, Nat.mul_one] at pt
        refine ⟨s3.trans s4, some (.int (p : Int)), some (.int (b : Int)), ?_⟩
        rw [pt]
        rfl
    · rintro σ H3 ⟨s3, b3, b4, rfl⟩
      refine ⟨sB.trans s3, some (.int (k : Int)), b3, b4, ?_⟩
      have t5 : (bitE k as5).take 5 = bitE k as5 := List.take_of_length_le (by rw [bitE, List.length_map, hl5]; decide)
      rw [show (nL ps5).length = 5 from rfl, t5, show ps5.take 5 = ps5 from rfl, ← st, show n - (i + 1) = k by omega]
  · rintro σ H1 ⟨s1, a2, a3, a4, rfl⟩
    dsimp only
    rw [show n - ((n : Int) - 0).toNat = 0 by omega, shr_zero]
    refine ⟨_, rfl, _, rfl, _, _, _, .int (a0 : Int), rfl, rfl, s1.seq ha, at_of (j := 0) rfl rfl, _, a0, rfl, rfl, hsh, ?_⟩
    have e := q H1 s1
    rw [pe, Nat.mul_comm] at e
    rw [show ((pp ps5 as5 : Nat) : Int) * 2 ^ a0 = ((pp ps5 as5 * 2 ^ a0 : Nat) : Int) by rw [Int.natCast_mul, Int.natCast_pow]; rfl]
    exact e
def WF (H : Hp) (a : Addr) (e : List Int) (i : Nat) (σ : L2.St) (H' : Hp) : Prop := Same H H' ∧ ∃ a3 a4, σ = [some (.ref a), some (.int ((pp (prs.take i) ((upE e).take i) : Nat) : Int)), some (.int ((pp (prs.take i) ((dnE e).take i) : Nat) : Int)), a3, a4]
theorem map_pos (e : List Int) : (e.map fun x => if x > 0 then x else 0).map V.int = nL (upE e) := by
  rw [nL, upE, List.map_map, List.map_map]
  refine List.map_congr_left fun x _ => ?_
  show V.int (if x > 0 then x else 0) = V.int ((x.toNat : Nat) : Int)
  rw [V.int.injEq]
  split <;> omega
theorem map_neg (e : List Int) : (e.map fun x => if -x > 0 then -x else 0).map V.int = nL (dnE e) := by
  rw [nL, dnE, List.map_map, List.map_map]
  refine List.map_congr_left fun x _ => ?_
  show V.int (if -x > 0 then -x else 0) = V.int (((-x).toNat : Nat) : Int)
  rw [V.int.injEq]
  split <;> omega
def spFrac (K : PySem.W.Frag) : Sp := fun vs H Q _ => ∃ (a : Addr) (e : List Int), vs = [.ref a] ∧ Sq K H a (e.map V.int) ∧ e.length = 6 ∧ up e < 2 ^ 100000 ∧ dn e < 2 ^ 100000 ∧ ∀ t H', Same H H' → SqT K H' t [.int ((up e : Nat) : Int), .int ((dn e : Nat) : Int)] → Q (.ref t) H'
theorem take_pos (i : Nat) (as : List Nat) : 0 < pp (prs.take i) (as.take i) := pp_pos _ (pc_take i pc_prs)
theorem ok_fraction_of (T : Tx K mg) : FnOk P w K mg base CX0 2 T.f__fraction_of T.d__fraction_of ["powers"] (spFrac K) := by
  have G__raised := ok_raised (P := P) (w := w) (base := base) T
  have G__made_of := ok_made_of (P := P) (w := w) (base := base) T
  refine T.F__fraction_of.ok sc__fraction_of (fun vs H Q E h => ?_) (fun cdv A outer s H vs Q E hr h => ?_)
  · obtain ⟨a, e, rfl, _⟩ := h
    rfl
  obtain ⟨a, e, rfl, ha, hl, hu, hd, q⟩ := h
  have nd := sc__fraction_of.nd
  rcases ha with ha | ha
  · refine ⟨_, (pss_cut (ps_if (PW.pt (pw_or (pt_cmpR op_gt (pe_callB (show CallR _ _ (rMaxS K) from cr_maxS rfl) (by rfl) T.z_max (by decide +kernel) (pa_cons (pv 0) pa_nil)) (pe_glob (v := .int 500) (by rfl) T.m_MANY ⟨_, rfl⟩) (nomark _)) (pw_or1 (pt_cmpR op_lt (pe_callB (show CallR _ _ (rMinS K) from cr_minS rfl) (by rfl) T.z_min (by decide +kernel) (pa_cons (pv 0) pa_nil)) (pe_un un_neg (pe_glob (v := .int 500) (by rfl) T.m_MANY ⟨_, rfl⟩)) (nomark _))))) (pss_one (ps_ret (pe_tup (pa_cons (pe_call G__made_of hr (by rfl) T.m__made_of T.F__made_of.kp T.b__made_of .nil pass0 (pa_cons (pe_lc (own := [("power", 4)]) (g := (gName 4)) rfl nd (show PI _ _ _ (iList K _) from pi_list (pv 0)) (blkOk_by (own := [("power", 4)]) (N := N__fraction_of) (sc := defScope s__fraction_of) (by decide +kernel)) (fun _ _ _ _ _ => by exact (pg_name (i := 4) nd rfl (Or.inl rfl))) (fun _ _ _ _ _ => by exact pts_nil) (fun _ _ _ _ _ => by exact (pe_callB (call_max2 rfl) (by rfl) T.z_max (by decide +kernel) (pa_cons pe_int (pa_cons (pv 4) pa_nil))))) pa_nil)) (pa_cons (pe_call G__made_of hr (by rfl) T.m__made_of T.F__made_of.kp T.b__made_of .nil pass0 (pa_cons (pe_lc (own := [("power", 4)]) (g := (gName 4)) rfl nd (show PI _ _ _ (iList K _) from pi_list (pv 0)) (blkOk_by (own := [("power", 4)]) (N := N__fraction_of) (sc := defScope s__fraction_of) (by decide +kernel)) (fun _ _ _ _ _ => by exact (pg_name (i := 4) nd rfl (Or.inl rfl))) (fun _ _ _ _ _ => by exact pts_nil) (fun _ _ _ _ _ => by exact (pe_callB (call_max2 rfl) (by rfl) T.z_max (by decide +kernel) (pa_cons pe_int (pa_cons (pe_un un_neg (pv 4)) pa_nil))))) pa_nil)) pa_nil))))) pss_nil)
    (pss_cons (ps_set (i := 1) nd rfl (Or.inl rfl) pe_int)
    (pss_cons (ps_set (i := 2) nd rfl (Or.inl rfl) pe_int)
    (pss_cons (ps_for PassesOwn.never rfl (show PI _ _ _ (iZipP K _) from pi_zipP (by rfl) T.z_zip (pa_cons (pe_glob (v := .ref T.e_PRIMES) (by rfl) T.m_PRIMES rfl) (pa_cons (pv 0) pa_nil))) (pg_tup rfl (pgs_cons (pg_name (i := 3) nd rfl (Or.inl rfl)) (pgs_cons (pg_name (i := 4) nd rfl (Or.inl rfl)) pgs_nil))) (pss_one (ps_if (pt_cmpR op_gt (pv 4) pe_int (nomark _)) (pss_one (ps_set (i := 1) nd rfl (Or.inl rfl) (pe_op op_mulW (pv 1) (pe_call G__raised hr (by rfl) T.m__raised T.F__raised.kp T.b__raised .nil pass0 (pa_cons (pv 3) (pa_cons (pv 4) pa_nil)))))) (pss_one (ps_if (pt_cmpR op_lt (pv 4) pe_int (nomark _)) (pss_one (ps_set (i := 2) nd rfl (Or.inl rfl) (pe_op op_mulW (pv 2) (pe_call G__raised hr (by rfl) T.m__raised T.F__raised.kp T.b__raised .nil pass0 (pa_cons (pv 3) (pa_cons (pe_un un_neg (pv 4)) pa_nil)))))) pss_nil)))))
    (pss_one (ps_ret (pe_tup (pa_cons (pv 1) (pa_cons (pv 2) pa_nil))))))))), ?_⟩
    refine ⟨fun σ' H' => σ' = L2.start N__fraction_of [.ref a] ∧ H = H', ?_, ?_⟩
    · refine ⟨_, rfl, a, e, rfl, .inl ha, by rw [hl]; decide, fun m hm hle => ⟨_, _, rfl, rfl, _, rfl, ?_⟩⟩
      refine ite2 (fun c => ?_) (fun c => ?_)
      · refine ⟨_, rfl, a, rfl, ⟨_, ha⟩, fun D hD => ?_⟩
        refine lc_mapL (f := fun x => if x > 0 then x else 0) ha (by rw [hl]; decide) hD (fun u => rfl) (fun u H1 k hu hk => ⟨_, rfl, _, _, rfl, hk⟩) fun H1 s1 hD1 => ?_
        rw [map_pos] at hD1
        refine ⟨D, upE e, rfl, SqL.of hD1, by rw [upE, List.length_map, hl], hu, fun H2 s2 => ?_⟩
        have s12 := s1.trans s2
        refine ⟨_, rfl, a, rfl, ⟨_, s12.seq ha⟩, fun D2 hD2 => ?_⟩
        refine lc_mapL (f := fun x => if -x > 0 then -x else 0) (s12.seq ha) (by rw [hl]; decide) hD2 (fun u => rfl) (fun u H1 k hu hk => ⟨_, rfl, _, rfl, _, _, rfl, hk⟩) fun H3 s3 hD3 => ?_
        rw [map_neg] at hD3
        refine ⟨D2, dnE e, rfl, SqL.of hD3, by rw [dnE, List.length_map, hl], hd, fun H4 s4 => ?_⟩
        exact ⟨(by show 2 ≤ sizeLine; decide), fun t ht => q t _ (((s12.trans s3).trans s4).trans (Same.new ht)) (SqT.of upd_same)⟩
      · refine ⟨_, rfl, a, e, rfl, .inl ha, by rw [hl]; decide, fun m2 hm2 hle2 => ⟨500, rfl, m2, -500, rfl, rfl, _, rfl, ?_⟩⟩
        refine ite2 (fun c2 => ?_) (fun c2 => ⟨rfl, rfl⟩)
        refine ⟨_, rfl, a, rfl, ⟨_, ha⟩, fun D hD => ?_⟩
        refine lc_mapL (f := fun x => if x > 0 then x else 0) ha (by rw [hl]; decide) hD (fun u => rfl) (fun u H1 k hu hk => ⟨_, rfl, _, _, rfl, hk⟩) fun H1 s1 hD1 => ?_
        rw [map_pos] at hD1
        refine ⟨D, upE e, rfl, SqL.of hD1, by rw [upE, List.length_map, hl], hu, fun H2 s2 => ?_⟩
        have s12 := s1.trans s2
        refine ⟨_, rfl, a, rfl, ⟨_, s12.seq ha⟩, fun D2 hD2 => ?_⟩
        refine lc_mapL (f := fun x => if -x > 0 then -x else 0) (s12.seq ha) (by rw [hl]; decide) hD2 (fun u => rfl) (fun u H1 k hu hk => ⟨_, rfl, _, rfl, _, _, rfl, hk⟩) fun H3 s3 hD3 => ?_
        rw [map_neg] at hD3
        refine ⟨D2, dnE e, rfl, SqL.of hD3, by rw [dnE, List.length_map, hl], hd, fun H4 s4 => ?_⟩
        exact ⟨(by show 2 ≤ sizeLine; decide), fun t ht => q t _ (((s12.trans s3).trans s4).trans (Same.new ht)) (SqT.of upd_same)⟩
    · rintro σ' H' ⟨rfl, rfl⟩
      refine ⟨_, rfl, T.e_PRIMES, a, nL prs, e.map V.int, rfl, T.q_PRIMES _, .inl ha, fun J z => ?_⟩
      have hu6 : (upE e).length = 6 := by simpa [upE] using hl
      have hd6 : (dnE e).length = 6 := by simpa [dnE] using hl
      obtain ⟨G, wz, wG⟩ := z.walk (xs := nL prs) (T.q_PRIMES _) (by show 6 = _; rw [List.length_map, hl])
      refine for_it wz (WF H a e) ⟨Same.refl _, _, _, rfl⟩ (fun i σ H' _ h => wG H' h.1) ?_ ?_
      · rintro i v σ H1 H2 hi ⟨s1, a3, a4, rfl⟩ ⟨t, x, y, rfl, ht, rfl, hx, hy⟩
        replace hi : i < 6 := hi
        obtain ⟨pr, a, e1, e2, g1, g2, g3, g4, g5⟩ := pp_drop hi hu6
        obtain rfl : x = .int (pr : Nat) := by
          have hx' : (nL prs)[i]? = some x := hx
          rw [List.getElem?_map, e1] at hx'
          exact (Option.some.inj hx').symm
        have hy' : (e.map V.int)[i]? = some y := hy
        rw [List.getElem?_map] at hy'
        obtain ⟨k, hk, rfl⟩ := Option.map_eq_some_iff.mp hy'
        obtain rfl : k.toNat = a := by
          rw [upE, List.getElem?_map, hk] at e2
          exact Option.some.inj e2
        have e3 : (dnE e)[i]? = some (-k).toNat := by rw [dnE, List.getElem?_map, hk]; rfl
        have pu := pp_take (ps := prs) e1 e2
        have pd := pp_take (ps := prs) e1 e3
        have bu := pp_take_le (i := i + 1) hu6
        have bd := pp_take_le (i := i + 1) hd6
        rw [pu] at bu
        rw [pd] at bd
        have st := Same.new (o := .tup [.int (pr : Nat), .int k]) ht
        refine ⟨t, _, rfl, SqT.of upd_same, rfl, _, _, rfl, _, _, rfl, rfl, ?_⟩
        have pos1 : 0 < pp (prs.take i) ((upE e).take i) := Nat.pos_of_mul_pos_right (by rw [← pu]; exact take_pos _ _)
        have pos2 : 0 < pp (prs.take i) ((dnE e).take i) := Nat.pos_of_mul_pos_right (by rw [← pd]; exact take_pos _ _)
        have hpr : 0 < pr := by omega
        have nb : ∀ {u v : Nat}, u ≤ v → v < 2 ^ 100000 → ((u : Int)).natAbs < 2 ^ 100000 := fun h1 h2 => Nat.lt_of_le_of_lt (by rw [Int.natAbs_natCast]; exact h1) h2
        have u1 : pp (prs.take i) ((upE e).take i) ≤ up e := Nat.le_trans (Nat.le_mul_of_pos_right _ (Nat.pow_pos hpr)) bu
        have u2 : pr ^ k.toNat ≤ up e := Nat.le_trans (Nat.le_mul_of_pos_left _ pos1) bu
        have d1 : pp (prs.take i) ((dnE e).take i) ≤ dn e := Nat.le_trans (Nat.le_mul_of_pos_right _ (Nat.pow_pos hpr)) bd
        have d2 : pr ^ (-k).toNat ≤ dn e := Nat.le_trans (Nat.le_mul_of_pos_left _ pos2) bd
        by_cases c1 : 0 < k
        · refine ⟨_, rfl, _, _, rfl, rfl, true, congrArg V.bl (decide_eq_true c1), ?_⟩
          refine ⟨_, rfl, _, rfl, _, rfl, pr, k.toNat, by rw [Int.toNat_of_nonneg (by omega)]; rfl, hpr, Nat.lt_of_le_of_lt u2 hu, fun H3 s3 => ?_⟩
          refine ⟨_, _, rfl, rfl, wide_mul (nb u1 hu) (nb u2 hu) (by decide) (by decide) (by decide), ?_⟩
          refine ⟨(s1.trans st).trans s3, some (.int (pr : Nat)), some (.int k), ?_⟩
          rw [pu, pd, show (-k).toNat = 0 by omega, Nat.pow_zero, Nat.mul_one]
          rfl
        · refine ⟨_, rfl, _, _, rfl, rfl, false, congrArg V.bl (decide_eq_false c1), ?_⟩
          by_cases c2 : k < 0
          · refine ⟨_, rfl, _, _, rfl, rfl, true, congrArg V.bl (decide_eq_true c2), ?_⟩
            refine ⟨_, rfl, _, rfl, _, rfl, _, rfl, pr, (-k).toNat, by rw [Int.toNat_of_nonneg (by omega)]; rfl, hpr, Nat.lt_of_le_of_lt d2 hd, fun H3 s3 => ?_⟩
            refine ⟨_, _, rfl, rfl, wide_mul (nb d1 hd) (nb d2 hd) (by decide) (by decide) (by decide), ?_⟩
            refine ⟨(s1.trans st).trans s3, some (.int (pr : Nat)), some (.int k), ?_⟩
            rw [pu, pd, show k.toNat = 0 by omega, Nat.pow_zero, Nat.mul_one]
            rfl
          · refine ⟨_, rfl, _, _, rfl, rfl, false, congrArg V.bl (decide_eq_false c2), ?_⟩
            refine ⟨s1.trans st, some (.int (pr : Nat)), some (.int k), ?_⟩
            rw [pu, pd, show k.toNat = 0 by omega, show (-k).toNat = 0 by omega, Nat.pow_zero, Nat.mul_one, Nat.mul_one]
            rfl
      · rintro σ H1 ⟨s1, a3, a4, rfl⟩
        have tu : pp (prs.take (nL prs).length) ((upE e).take (nL prs).length) = up e := by
          rw [show (nL prs).length = 6 from rfl, List.take_of_length_le (Nat.le_of_eq hu6)]
          rfl
        have td : pp (prs.take (nL prs).length) ((dnE e).take (nL prs).length) = dn e := by
          rw [show (nL prs).length = 6 from rfl, List.take_of_length_le (Nat.le_of_eq hd6)]
          rfl
        rw [tu, td]
        exact ⟨_, rfl, _, rfl, (by show 2 ≤ sizeLine; decide), fun t ht => q t _ (s1.trans (Same.new ht)) (SqT.of upd_same)⟩
  · refine ⟨_, (pss_cut (ps_if (PW.pt (pw_or (pt_cmpR op_gt (pe_callB (show CallR _ _ (rMaxS K) from cr_maxS rfl) (by rfl) T.z_max (by decide +kernel) (pa_cons (pv 0) pa_nil)) (pe_glob (v := .int 500) (by rfl) T.m_MANY ⟨_, rfl⟩) (nomark _)) (pw_or1 (pt_cmpR op_lt (pe_callB (show CallR _ _ (rMinS K) from cr_minS rfl) (by rfl) T.z_min (by decide +kernel) (pa_cons (pv 0) pa_nil)) (pe_un un_neg (pe_glob (v := .int 500) (by rfl) T.m_MANY ⟨_, rfl⟩)) (nomark _))))) (pss_one (ps_ret (pe_tup (pa_cons (pe_call G__made_of hr (by rfl) T.m__made_of T.F__made_of.kp T.b__made_of .nil pass0 (pa_cons (pe_lc (own := [("power", 4)]) (g := (gName 4)) rfl nd (show PI _ _ _ (iTup K _) from pi_tup (pv 0)) (blkOk_by (own := [("power", 4)]) (N := N__fraction_of) (sc := defScope s__fraction_of) (by decide +kernel)) (fun _ _ _ _ _ => by exact (pg_name (i := 4) nd rfl (Or.inl rfl))) (fun _ _ _ _ _ => by exact pts_nil) (fun _ _ _ _ _ => by exact (pe_callB (call_max2 rfl) (by rfl) T.z_max (by decide +kernel) (pa_cons pe_int (pa_cons (pv 4) pa_nil))))) pa_nil)) (pa_cons (pe_call G__made_of hr (by rfl) T.m__made_of T.F__made_of.kp T.b__made_of .nil pass0 (pa_cons (pe_lc (own := [("power", 4)]) (g := (gName 4)) rfl nd (show PI _ _ _ (iTup K _) from pi_tup (pv 0)) (blkOk_by (own := [("power", 4)]) (N := N__fraction_of) (sc := defScope s__fraction_of) (by decide +kernel)) (fun _ _ _ _ _ => by exact (pg_name (i := 4) nd rfl (Or.inl rfl))) (fun _ _ _ _ _ => by exact pts_nil) (fun _ _ _ _ _ => by exact (pe_callB (call_max2 rfl) (by rfl) T.z_max (by decide +kernel) (pa_cons pe_int (pa_cons (pe_un un_neg (pv 4)) pa_nil))))) pa_nil)) pa_nil))))) pss_nil)
    (pss_cons (ps_set (i := 1) nd rfl (Or.inl rfl) pe_int)
    (pss_cons (ps_set (i := 2) nd rfl (Or.inl rfl) pe_int)
    (pss_cons (ps_for PassesOwn.never rfl (show PI _ _ _ (iZipP K _) from pi_zipP (by rfl) T.z_zip (pa_cons (pe_glob (v := .ref T.e_PRIMES) (by rfl) T.m_PRIMES rfl) (pa_cons (pv 0) pa_nil))) (pg_tup rfl (pgs_cons (pg_name (i := 3) nd rfl (Or.inl rfl)) (pgs_cons (pg_name (i := 4) nd rfl (Or.inl rfl)) pgs_nil))) (pss_one (ps_if (pt_cmpR op_gt (pv 4) pe_int (nomark _)) (pss_one (ps_set (i := 1) nd rfl (Or.inl rfl) (pe_op op_mulW (pv 1) (pe_call G__raised hr (by rfl) T.m__raised T.F__raised.kp T.b__raised .nil pass0 (pa_cons (pv 3) (pa_cons (pv 4) pa_nil)))))) (pss_one (ps_if (pt_cmpR op_lt (pv 4) pe_int (nomark _)) (pss_one (ps_set (i := 2) nd rfl (Or.inl rfl) (pe_op op_mulW (pv 2) (pe_call G__raised hr (by rfl) T.m__raised T.F__raised.kp T.b__raised .nil pass0 (pa_cons (pv 3) (pa_cons (pe_un un_neg (pv 4)) pa_nil)))))) pss_nil)))))
    (pss_one (ps_ret (pe_tup (pa_cons (pv 1) (pa_cons (pv 2) pa_nil))))))))), ?_⟩
    refine ⟨fun σ' H' => σ' = L2.start N__fraction_of [.ref a] ∧ H = H', ?_, ?_⟩
    · refine ⟨_, rfl, a, e, rfl, .inr ha, by rw [hl]; decide, fun m hm hle => ⟨_, _, rfl, rfl, _, rfl, ?_⟩⟩
      refine ite2 (fun c => ?_) (fun c => ?_)
      · refine ⟨_, rfl, a, rfl, ⟨_, ha⟩, fun D hD => ?_⟩
        refine lc_mapT (f := fun x => if x > 0 then x else 0) ha (by rw [hl]; decide) hD (fun u => rfl) (fun u H1 k hu hk => ⟨_, rfl, _, _, rfl, hk⟩) fun H1 s1 hD1 => ?_
        rw [map_pos] at hD1
        refine ⟨D, upE e, rfl, SqL.of hD1, by rw [upE, List.length_map, hl], hu, fun H2 s2 => ?_⟩
        have s12 := s1.trans s2
        refine ⟨_, rfl, a, rfl, ⟨_, seqT s12 ha⟩, fun D2 hD2 => ?_⟩
        refine lc_mapT (f := fun x => if -x > 0 then -x else 0) (seqT s12 ha) (by rw [hl]; decide) hD2 (fun u => rfl) (fun u H1 k hu hk => ⟨_, rfl, _, rfl, _, _, rfl, hk⟩) fun H3 s3 hD3 => ?_
        rw [map_neg] at hD3
        refine ⟨D2, dnE e, rfl, SqL.of hD3, by rw [dnE, List.length_map, hl], hd, fun H4 s4 => ?_⟩
        exact ⟨(by show 2 ≤ sizeLine; decide), fun t ht => q t _ (((s12.trans s3).trans s4).trans (Same.new ht)) (SqT.of upd_same)⟩
      · refine ⟨_, rfl, a, e, rfl, .inr ha, by rw [hl]; decide, fun m2 hm2 hle2 => ⟨500, rfl, m2, -500, rfl, rfl, _, rfl, ?_⟩⟩
        refine ite2 (fun c2 => ?_) (fun c2 => ⟨rfl, rfl⟩)
        refine ⟨_, rfl, a, rfl, ⟨_, ha⟩, fun D hD => ?_⟩
        refine lc_mapT (f := fun x => if x > 0 then x else 0) ha (by rw [hl]; decide) hD (fun u => rfl) (fun u H1 k hu hk => ⟨_, rfl, _, _, rfl, hk⟩) fun H1 s1 hD1 => ?_
        rw [map_pos] at hD1
        refine ⟨D, upE e, rfl, SqL.of hD1, by rw [upE, List.length_map, hl], hu, fun H2 s2 => ?_⟩
        have s12 := s1.trans s2
        refine ⟨_, rfl, a, rfl, ⟨_, seqT s12 ha⟩, fun D2 hD2 => ?_⟩
        refine lc_mapT (f := fun x => if -x > 0 then -x else 0) (seqT s12 ha) (by rw [hl]; decide) hD2 (fun u => rfl) (fun u H1 k hu hk => ⟨_, rfl, _, rfl, _, _, rfl, hk⟩) fun H3 s3 hD3 => ?_
        rw [map_neg] at hD3
        refine ⟨D2, dnE e, rfl, SqL.of hD3, by rw [dnE, List.length_map, hl], hd, fun H4 s4 => ?_⟩
        exact ⟨(by show 2 ≤ sizeLine; decide), fun t ht => q t _ (((s12.trans s3).trans s4).trans (Same.new ht)) (SqT.of upd_same)⟩
    · rintro σ' H' ⟨rfl, rfl⟩
      refine ⟨_, rfl, T.e_PRIMES, a, nL prs, e.map V.int, rfl, T.q_PRIMES _, .inr ha, fun J z => ?_⟩
      have hu6 : (upE e).length = 6 := by simpa [upE] using hl
      have hd6 : (dnE e).length = 6 := by simpa [dnE] using hl
      obtain ⟨G, wz, wG⟩ := z.walk (xs := nL prs) (T.q_PRIMES _) (by show 6 = _; rw [List.length_map, hl])
      refine for_it wz (WF H a e) ⟨Same.refl _, _, _, rfl⟩ (fun i σ H' _ h => wG H' h.1) ?_ ?_
      · rintro i v σ H1 H2 hi ⟨s1, a3, a4, rfl⟩ ⟨t, x, y, rfl, ht, rfl, hx, hy⟩
        replace hi : i < 6 := hi
        obtain ⟨pr, a, e1, e2, g1, g2, g3, g4, g5⟩ := pp_drop hi hu6
        obtain rfl : x = .int (pr : Nat) := by
          have hx' : (nL prs)[i]? = some x := hx
          rw [List.getElem?_map, e1] at hx'
          exact (Option.some.inj hx').symm
        have hy' : (e.map V.int)[i]? = some y := hy
        rw [List.getElem?_map] at hy'
        obtain ⟨k, hk, rfl⟩ := Option.map_eq_some_iff.mp hy'
        obtain rfl : k.toNat = a := by
          rw [upE, List.getElem?_map, hk] at e2
          exact Option.some.inj e2
        have e3 : (dnE e)[i]? = some (-k).toNat := by rw [dnE, List.getElem?_map, hk]; rfl
        have pu := pp_take (ps := prs) e1 e2
        have pd := pp_take (ps := prs) e1 e3
        have bu := pp_take_le (i := i + 1) hu6
        have bd := pp_take_le (i := i + 1) hd6
        rw [pu] at bu
        rw [pd] at bd
        have st := Same.new (o := .tup [.int (pr : Nat), .int k]) ht
        refine ⟨t, _, rfl, SqT.of upd_same, rfl, _, _, rfl, _, _, rfl, rfl, ?_⟩
        have pos1 : 0 < pp (prs.take i) ((upE e).take i) := Nat.pos_of_mul_pos_right (by rw [← pu]; exact take_pos _ _)
        have pos2 : 0 < pp (prs.take i) ((dnE e).take i) := Nat.pos_of_mul_pos_right (by rw [← pd]; exact take_pos _ _)
        have hpr : 0 < pr := by omega
        have nb : ∀ {u v : Nat}, u ≤ v → v < 2 ^ 100000 → ((u : Int)).natAbs < 2 ^ 100000 := fun h1 h2 => Nat.lt_of_le_of_lt (by rw [Int.natAbs_natCast]; exact h1) h2
        have u1 : pp (prs.take i) ((upE e).take i) ≤ up e := Nat.le_trans (Nat.le_mul_of_pos_right _ (Nat.pow_pos hpr)) bu
        have u2 : pr ^ k.toNat ≤ up e := Nat.le_trans (Nat.le_mul_of_pos_left _ pos1) bu
        have d1 : pp (prs.take i) ((dnE e).take i) ≤ dn e := Nat.le_trans (Nat.le_mul_of_pos_right _ (Nat.pow_pos hpr)) bd
        have d2 : pr ^ (-k).toNat ≤ dn e := Nat.le_trans (Nat.le_mul_of_pos_left _ pos2) bd
        by_cases c1 : 0 < k
        · refine ⟨_, rfl, _, _, rfl, rfl, true, congrArg V.bl (decide_eq_true c1), ?_⟩
          refine ⟨_, rfl, _, rfl, _, rfl, pr, k.toNat, by rw [Int.toNat_of_nonneg (by omega)]; rfl, hpr, Nat.lt_of_le_of_lt u2 hu, fun H3 s3 => ?_⟩
          refine ⟨_, _, rfl, rfl, wide_mul (nb u1 hu) (nb u2 hu) (by decide) (by decide) (by decide), ?_⟩
          refine ⟨(s1.trans st).trans s3, some (.int (pr : Nat)), some (.int k), ?_⟩
          rw [pu, pd, show (-k).toNat = 0 by omega, Nat.pow_zero, Nat.mul_one]
          rfl
        · refine ⟨_, rfl, _, _, rfl, rfl, false, congrArg V.bl (decide_eq_false c1), ?_⟩
          by_cases c2 : k < 0
          · refine ⟨_, rfl, _, _, rfl, rfl, true, congrArg V.bl (decide_eq_true c2), ?_⟩
            refine ⟨_, rfl, _, rfl, _, rfl, _, rfl, pr, (-k).toNat, by rw [Int.toNat_of_nonneg (by omega)]; rfl, hpr, Nat.lt_of_le_of_lt d2 hd, fun H3 s3 => ?_⟩
            refine ⟨_, _, rfl, rfl, wide_mul (nb d1 hd) (nb d2 hd) (by decide) (by decide) (by decide), ?_⟩
            refine ⟨(s1.trans st).trans s3, some (.int (pr : Nat)), some (.int k), ?_⟩
            rw [pu, pd, show k.toNat = 0 by omega, Nat.pow_zero, Nat.mul_one]
            rfl
          · refine ⟨_, rfl, _, _, rfl, rfl, false, congrArg V.bl (decide_eq_false c2), ?_⟩
            refine ⟨s1.trans st, some (.int (pr : Nat)), some (.int k), ?_⟩
            rw [pu, pd, show k.toNat = 0 by omega, show (-k).toNat = 0 by omega, Nat.pow_zero, Nat.mul_one, Nat.mul_one]
            rfl
      · rintro σ H1 ⟨s1, a3, a4, rfl⟩
        have tu : pp (prs.take (nL prs).length) ((upE e).take (nL prs).length) = up e := by
          rw [show (nL prs).length = 6 from rfl, List.take_of_length_le (Nat.le_of_eq hu6)]
          rfl
        have td : pp (prs.take (nL prs).length) ((dnE e).take (nL prs).length) = dn e := by
          rw [show (nL prs).length = 6 from rfl, List.take_of_length_le (Nat.le_of_eq hd6)]
          rfl
        rw [tu, td]
        exact ⟨_, rfl, _, rfl, (by show 2 ≤ sizeLine; decide), fun t ht => q t _ (s1.trans (Same.new ht)) (SqT.of upd_same)⟩
def spWith (K : PySem.W.Frag) (C : Addr) : Sp := fun vs H Q _ => ∃ (a : Addr) (e : List Int), vs = [.ref a] ∧ Sq K H a (e.map V.int) ∧ e.length = 6 ∧ up e < 2 ^ 100000 ∧ dn e < 2 ^ 100000 ∧ ∀ t H', Same H H' → RAt K C H' t e → Q (.ref t) H'
theorem rf3 (a b u d : Nat) (s t : Addr) : putF "_powers" (V.ref t) (putF "under" (V.int (d : Int)) (putF "over" (V.int (u : Int)) (rf a b s))) = rf u d t := by
  show putF "_powers" (V.ref t) (putF "under" (V.int (d : Int)) (if ("over" : Str) = "over" then (("over" : Str), V.int (u : Int)) :: [("under", V.int (b : Int)), ("_powers", V.ref s)] else _)) = _
  rw [if_pos rfl]
  show putF "_powers" (V.ref t) (if ("over" : Str) = "under" then _ else (("over" : Str), V.int (u : Int)) :: (if ("under" : Str) = "under" then (("under" : Str), V.int (d : Int)) :: [("_powers", V.ref s)] else _)) = _
  rw [if_neg nov, if_pos rfl]
  show (if ("over" : Str) = "_powers" then _ else (("over" : Str), V.int (u : Int)) :: (if ("under" : Str) = "_powers" then _ else (("under" : Str), V.int (d : Int)) :: (if ("_powers" : Str) = "_powers" then [(("_powers" : Str), V.ref t)] else _))) = _
  rw [if_neg nop, if_neg nup, if_pos rfl]
  rfl
theorem ok_with (T : Tx K mg) : FnOk P w K mg base CX0 6 T.f_ratio_with T.d_ratio_with ["powers"] (spWith K T.C_Ratio) := by
  have G__fraction_of := ok_fraction_of (P := P) (w := w) (base := base) T
  have G_Ratio_init := ok_rinit (P := P) (w := w) (base := base) T
  refine T.F_ratio_with.ok sc_ratio_with (fun vs H Q E h => ?_) (fun cdv A outer s H vs Q E hr h => ?_)
  · obtain ⟨a, e, rfl, _⟩ := h
    rfl
  obtain ⟨a, e, rfl, ha, hl, hu, hd, q⟩ := h
  have nd := sc_ratio_with.nd
  refine ⟨_, (pss_cons (ps_asg (pe_call G__fraction_of (hr.mono (by decide)) (by rfl) T.m__fraction_of T.F__fraction_of.kp T.b__fraction_of .nil pass0 (pa_cons (pv 0) pa_nil)) (pg_tup rfl (pgs_cons (pg_name (i := 1) nd rfl (Or.inl rfl)) (pgs_cons (pg_name (i := 2) nd rfl (Or.inl rfl)) pgs_nil))))
    (pss_cons (ps_set (i := 3) nd rfl (Or.inl rfl) (pe_make T.k_Ratio G_Ratio_init hr (by rfl) T.g_Ratio T.b1_Ratio_init T.v_Ratio_init pass0 (pa_cons pe_int pa_nil)))
    (pss_cons (ps_fld (pv 3) (pv 1) rfl)
    (pss_cons (ps_fld (pv 3) (pv 2) rfl)
    (pss_cons (ps_fld (pv 3) (pe_callTy (show CallR _ _ (rTup1 K) from call_tup1) (by rfl) T.z_tuple (by decide +kernel) (pa_cons (pv 0) pa_nil)) rfl)
    (pss_one (ps_ret (pv 3)))))))), ?_⟩
  refine ⟨_, rfl, a, e, rfl, ha, hl, hu, hd, fun tf H1 s1 htf => ⟨tf, _, rfl, htf, rfl, _, _, rfl, _, _, rfl, rfl, ?_⟩⟩
  refine fun x dx nx ndx nex => ⟨x, dx, 1, List.replicate 6 0, rfl, upd_same, by decide, by decide, rfl, fun H2 r2 kp => ⟨rfl, ?_⟩⟩
  have s0 : Same H1 (upd (upd H1 dx (.own x)) x (.ins T.C_Ratio dx [])) := fun b o e => by
    rw [upd_ne (ne_of_none e nx), upd_ne (ne_of_none e ndx)]
    exact e
  have s2 : Same H1 H2 := fun b o e => kp b o (s0 b o e) (ne_of_none e nx)
  obtain ⟨dy, t, h1, h2⟩ := r2.ex
  refine ⟨_, rfl, _, rfl, x, T.C_Ratio, dy, _, rfl, h1, T.c_Ratio, T.n_Ratio_over, (by show 3 < 1000; decide), ?_⟩
  refine ⟨_, rfl, _, rfl, x, T.C_Ratio, dy, _, rfl, upd_same, T.c_Ratio, T.n_Ratio_under, (by show 3 < 1000; decide), ?_⟩
  refine ⟨_, rfl, a, e.map V.int, rfl, ((ha.same (s1.trans s2)).ins h1).ins upd_same, fun t2 H3 s3 ht2 => ?_⟩
  have hx3 := s3 _ _ (upd_same (H := upd H2 x _) (a := x))
  refine ⟨_, rfl, x, T.C_Ratio, dy, _, rfl, hx3, T.c_Ratio, T.n_Ratio_powers, (by show 3 < 1000; decide), ?_⟩
  rw [rf3]
  refine ⟨_, rfl, q x _ (fun b o e => ?_) ⟨⟨dy, t2, upd_same, seqT_ins hx3 ht2⟩, hl⟩⟩
  have nb := ne_of_none (s1 _ _ e) nx
  rw [upd_ne nb]
  refine s3 _ _ ?_
  rw [upd_ne nb, upd_ne nb]
  exact s2 _ _ (s1 _ _ e)
end
end TL
namespace TL
open PySem L2

/-! ### steps of a reading -/
local macro_rules | `(tactic| walk_at "hp") => `(tactic| first | assumption | exact upd_same | (refine (upd_ne (by first | assumption | (exact Ne.symm (by assumption)))).trans ?_; walk_at "hp"))
local macro_rules | `(tactic| walk_at "ok") => `(tactic| first | (exact Or.inr ⟨by decide, by decide⟩) | (exact ⟨by decide, by decide⟩) | (exact ⟨by decide, by decide, by decide⟩) | (show _ ≠ _; omega) | (show _ ≠ _; decide) | (exact Or.inl ⟨by omega, by omega⟩) | decide)
local macro_rules | `(tactic| walk_at "sq") => `(tactic| first | assumption | exact SqL.of (by walk_at "hp") | exact SqT.of (by walk_at "hp"))
local macro_rules | `(tactic| walk_at "ty") => `(tactic| first | refine ⟨_, _, Value.type "int", Value.type "list", false, rfl, ClsV.ty _, TyX.base (TyOf.int _), kt_int_list, ?_⟩ | refine ⟨_, _, Value.type "bool", Value.type "list", false, rfl, ClsV.ty _, TyX.base (TyOf.bl _), kt_bool_list, ?_⟩ | refine ⟨_, _, Value.type "str", Value.type "list", false, rfl, ClsV.ty _, TyX.base (TyOf.str _), kt_str_list, ?_⟩ | refine ⟨_, _, Value.type "NoneType", Value.type "list", false, rfl, ClsV.ty _, TyX.base TyOf.non, kt_NoneType_list, ?_⟩ | refine ⟨_, _, Value.type "list", Value.type "list", true, rfl, ClsV.ty _, tyx_L (by walk_at "sq"), kt_list_list, ?_⟩ | refine ⟨_, _, Value.type "tuple", Value.type "list", false, rfl, ClsV.ty _, tyx_T (by walk_at "sq"), kt_tuple_list, ?_⟩ | refine ⟨_, _, Value.type "int", Value.type "tuple", false, rfl, ClsV.ty _, TyX.base (TyOf.int _), kt_int_tuple, ?_⟩ | refine ⟨_, _, Value.type "bool", Value.type "tuple", false, rfl, ClsV.ty _, TyX.base (TyOf.bl _), kt_bool_tuple, ?_⟩ | refine ⟨_, _, Value.type "str", Value.type "tuple", false, rfl, ClsV.ty _, TyX.base (TyOf.str _), kt_str_tuple, ?_⟩ | refine ⟨_, _, Value.type "NoneType", Value.type "tuple", false, rfl, ClsV.ty _, TyX.base TyOf.non, kt_NoneType_tuple, ?_⟩ | refine ⟨_, _, Value.type "list", Value.type "tuple", false, rfl, ClsV.ty _, tyx_L (by walk_at "sq"), kt_list_tuple, ?_⟩ | refine ⟨_, _, Value.type "tuple", Value.type "tuple", true, rfl, ClsV.ty _, tyx_T (by walk_at "sq"), kt_tuple_tuple, ?_⟩ | refine ⟨_, _, Value.type "int", Value.type "bool", false, rfl, ClsV.ty _, TyX.base (TyOf.int _), kt_int_bool, ?_⟩ | refine ⟨_, _, Value.type "bool", Value.type "bool", true, rfl, ClsV.ty _, TyX.base (TyOf.bl _), kt_bool_bool, ?_⟩ | refine ⟨_, _, Value.type "str", Value.type "bool", false, rfl, ClsV.ty _, TyX.base (TyOf.str _), kt_str_bool, ?_⟩ | refine ⟨_, _, Value.type "NoneType", Value.type "bool", false, rfl, ClsV.ty _, TyX.base TyOf.non, kt_NoneType_bool, ?_⟩ | refine ⟨_, _, Value.type "list", Value.type "bool", false, rfl, ClsV.ty _, tyx_L (by walk_at "sq"), kt_list_bool, ?_⟩ | refine ⟨_, _, Value.type "tuple", Value.type "bool", false, rfl, ClsV.ty _, tyx_T (by walk_at "sq"), kt_tuple_bool, ?_⟩ | refine ⟨_, _, Value.type "int", Value.type "int", true, rfl, ClsV.ty _, TyX.base (TyOf.int _), kt_int_int, ?_⟩ | refine ⟨_, _, Value.type "bool", Value.type "int", true, rfl, ClsV.ty _, TyX.base (TyOf.bl _), kt_bool_int, ?_⟩ | refine ⟨_, _, Value.type "str", Value.type "int", false, rfl, ClsV.ty _, TyX.base (TyOf.str _), kt_str_int, ?_⟩ | refine ⟨_, _, Value.type "NoneType", Value.type "int", false, rfl, ClsV.ty _, TyX.base TyOf.non, kt_NoneType_int, ?_⟩ | refine ⟨_, _, Value.type "list", Value.type "int", false, rfl, ClsV.ty _, tyx_L (by walk_at "sq"), kt_list_int, ?_⟩ | refine ⟨_, _, Value.type "tuple", Value.type "int", false, rfl, ClsV.ty _, tyx_T (by walk_at "sq"), kt_tuple_int, ?_⟩ | refine ⟨_, _, Value.type "int", Value.type "str", false, rfl, ClsV.ty _, TyX.base (TyOf.int _), kt_int_str, ?_⟩ | refine ⟨_, _, Value.type "bool", Value.type "str", false, rfl, ClsV.ty _, TyX.base (TyOf.bl _), kt_bool_str, ?_⟩ | refine ⟨_, _, Value.type "str", Value.type "str", true, rfl, ClsV.ty _, TyX.base (TyOf.str _), kt_str_str, ?_⟩ | refine ⟨_, _, Value.type "NoneType", Value.type "str", false, rfl, ClsV.ty _, TyX.base TyOf.non, kt_NoneType_str, ?_⟩ | refine ⟨_, _, Value.type "list", Value.type "str", false, rfl, ClsV.ty _, tyx_L (by walk_at "sq"), kt_list_str, ?_⟩ | refine ⟨_, _, Value.type "tuple", Value.type "str", false, rfl, ClsV.ty _, tyx_T (by walk_at "sq"), kt_tuple_str, ?_⟩)
local macro_rules | `(tactic| walk_at "go1") => `(tactic| first
  | (refine ⟨_, rfl, ?_⟩)
  | (refine ⟨_, _, rfl, rfl, ?_⟩)
  | (refine ⟨_, _, _, _, rfl, rfl, SqL.of (by walk_at "hp"), rfl, ?_⟩)
  | (refine Or.inl ⟨_, rfl, ?_⟩)
  | (refine ⟨rfl, ?_⟩)
  | (refine ⟨_, _, rfl, .inl (SqL.of (by walk_at "hp")), ?_⟩)
  | (refine ⟨_, _, rfl, Or.inl (by assumption), ?_⟩)
  | (refine ⟨_, _, rfl, Or.inr (by assumption), ?_⟩)
  | (refine ⟨(by walk_at "ok"), ?_⟩)
  | (refine ⟨_, _, _, _, rfl, rfl, (by walk_at "hp"), rfl, ?_⟩))
local macro_rules | `(tactic| walk_at "go") => `(tactic| repeat (walk_at "go1"))
local macro_rules | `(tactic| walk_at "gt") => `(tactic| repeat (first | walk_at "go1" | walk_at "ty"))

section
variable {P : Program} {w : World} {K : PySem.W.Frag} {mg : Str → Option Value} {base : Heap}
theorem rf_o (u d : Nat) (t : Addr) : (rf u d t).lookup ("over" : Str) = some (.int (u : Int)) := rfl
theorem rf_u (u d : Nat) (t : Addr) : (rf u d t).lookup ("under" : Str) = some (.int (d : Int)) := rfl
theorem rf_p (u d : Nat) (t : Addr) : (rf u d t).lookup ("_powers" : Str) = some (.ref t) := rfl
theorem rf_no {u d : Nat} {t : Addr} {m : Str} (h1 : ¬ m = "over") (h2 : ¬ m = "under") (h3 : ¬ m = "_powers") : (rf u d t).lookup m = none := by
  have e1 : (m == ("over" : Str)) = false := by simpa using h1
  have e2 : (m == ("under" : Str)) = false := by simpa using h2
  have e3 : (m == ("_powers" : Str)) = false := by simpa using h3
  simp [rf, List.lookup, e1, e2, e3]
def spPows (K : PySem.W.Frag) (C : Addr) : Sp := fun vs H Q _ => ∃ (p : Addr) (e : List Int), vs = [.ref p] ∧ RAt K C H p e ∧ ∀ t, SqT K H t (e.map V.int) → Q (.ref t) H
theorem ok_powers (T : Tx K mg) : FnOk P w K mg base CX0 1 T.f_Ratio_powers T.d_Ratio_powers ["self"] (spPows K T.C_Ratio) := by
  refine T.F_Ratio_powers.ok sc_Ratio_powers (fun vs H Q E h => ?_) (fun cdv A outer s H vs Q E hr h => ?_)
  · obtain ⟨p, e, rfl, _⟩ := h
    rfl
  obtain ⟨p, e, rfl, he, q⟩ := h
  obtain ⟨dx, t, h1, h2⟩ := he.ex
  refine ⟨_, (pss_one (ps_ret (show PE _ _ (tFld K _ _) from pe_fld (pv 0) rfl))), ?_⟩
  exact ⟨_, rfl, p, _, _, _, _, rfl, h1, T.c_Ratio, T.n_Ratio_powers, rf_p _ _ _, q t h2⟩
def bitsE (e : List Int) : List Int := e.map (·.fmod 2)
def spBitsE (K : PySem.W.Frag) (C : Addr) : Sp := fun vs H Q _ => ∃ (p : Addr) (e : List Int), vs = [.ref p] ∧ RAt K C H p e ∧ ∀ t H', Same H H' → SqT K H' t ((bitsE e).map V.int) → Q (.ref t) H'
def spPower (K : PySem.W.Frag) (C : Addr) : Sp := fun vs H Q _ => ∃ (p : Addr) (k : Int) (e : List Int), vs = [.ref p, .int k] ∧ RAt K C H p e ∧ (∀ x ∈ e, CMulW k x) ∧ up (mulE k e) < 2 ^ 100000 ∧ dn (mulE k e) < 2 ^ 100000 ∧ ∀ t H', Same H H' → RAt K C H' t (mulE k e) → Q (.ref t) H'
def spR2 (K : PySem.W.Frag) (C : Addr) (f : List Int → List Int → List Int) : Sp := fun vs H Q _ => ∃ (p r : Addr) (x y : List Int), vs = [.ref p, .ref r] ∧ RAt K C H p x ∧ RAt K C H r y ∧ up (f x y) < 2 ^ 100000 ∧ dn (f x y) < 2 ^ 100000 ∧ ∀ t H', Same H H' → RAt K C H' t (f x y) → Q (.ref t) H'
theorem ok_rmul (T : Tx K mg) : FnOk P w K mg base CX0 7 T.f_Ratio_mul T.d_Ratio_mul ["self", "other"] (spR2 K T.C_Ratio addE) := by
  have G_ratio_with := ok_with (P := P) (w := w) (base := base) T
  refine T.F_Ratio_mul.ok sc_Ratio_mul (fun vs H Q E h => ?_) (fun cdv A outer s H vs Q E hr h => ?_)
  · obtain ⟨p, r, x, y, rfl, _⟩ := h
    rfl
  obtain ⟨p, r, x, y, rfl, hx, hy, hu, hd, q⟩ := h
  obtain ⟨dx, t, e1, e2⟩ := hx.ex
  obtain ⟨dy, t', g1, g2⟩ := hy.ex
  have nd := sc_Ratio_mul.nd
  refine ⟨_, (pss_one (ps_ret (pe_call G_ratio_with hr (by rfl) T.m_ratio_with T.F_ratio_with.kp T.b_ratio_with .nil pass0 (pa_cons (pe_lc (own := [("one", 2), ("two", 3)]) (g := (gTup K 2 (gCons (gName 2) (gCons (gName 3) gNil)))) rfl nd (show PI _ _ _ (RZ.iZipA K _) from RZ.pi_zipA (by rfl) T.z_zip (pa_cons (show PE _ _ (tFld K _ _) from pe_fld (pv 0) rfl) (pa_cons (show PE _ _ (tFld K _ _) from pe_fld (pv 1) rfl) pa_nil))) (blkOk_by (own := [("one", 2), ("two", 3)]) (N := N_Ratio_mul) (sc := defScope s_Ratio_mul) (by decide +kernel)) (fun _ _ _ _ _ => by exact (pg_tup rfl (pgs_cons (pg_name (i := 2) nd rfl (Or.inl rfl)) (pgs_cons (pg_name (i := 3) nd rfl (Or.inl rfl)) pgs_nil)))) (fun _ _ _ _ _ => by exact pts_nil) (fun _ _ _ _ _ => by exact (pe_op op_add (pv 2) (pv 3)))) pa_nil)))), ?_⟩
  refine ⟨_, rfl, p, _, _, _, _, rfl, e1, T.c_Ratio, T.n_Ratio_powers, rf_p _ _ _, _, rfl, r, _, _, _, _, rfl, g1, T.c_Ratio, T.n_Ratio_powers, rf_p _ _ _, t, t', _, _, rfl, .inr ⟨e2, g2, fun D hD => ?_⟩⟩
  refine lc_zipT (f := fun a b => a + b) e2 g2 (by rw [hx.len, hy.len]) (by rw [hx.len]; decide) hD (fun u v => rfl) (fun u v H1 k _ _ hk => ⟨_, rfl, _, rfl, u, v, rfl, rfl, hk⟩) fun H1 s1 hD1 => ?_
  exact ⟨D, addE x y, rfl, .inl (SqL.of hD1), by simp [addE, hx.len, hy.len], hu, hd, fun z H' s' r' => q z H' (s1.trans s') r'⟩
def Fits (x : List Int) : Prop := up x < 2 ^ 100000 ∧ dn x < 2 ^ 100000
def spLogOf (K : PySem.W.Frag) : Sp := fun vs H Q _ => ∃ (t : Addr) (x : List Int), vs = [.ref t] ∧ SqT K H t (x.map V.int) ∧ x.length = 6 ∧ Ex (10 ^ 7) x ∧ ∀ H', Same H H' → Q (.int (logE x)) H'
theorem ifT {A B : Prop} (h : A) : if (true = true) then A else B := h
theorem ln_small : ∀ v ∈ LN, v.natAbs < 2 ^ 200 := by decide +kernel
theorem ok_log_of (T : Tx K mg) : FnOk P w K mg base CX0 1 T.f_log_of T.d_log_of ["powers"] (spLogOf K) := by
  refine T.F_log_of.ok sc_log_of (fun vs H Q E h => ?_) (fun cdv A outer s H vs Q E hr h => ?_)
  · obtain ⟨t, x, rfl, _⟩ := h
    rfl
  obtain ⟨t, x, rfl, ht, h6, hE, q⟩ := h
  have nd := sc_log_of.nd
  refine ⟨_, (pss_one (ps_ret (pe_callB (show CallR _ _ (rSum K) from cr_sum rfl) (by rfl) T.z_sum (by decide +kernel) (pa_cons (pe_lc (own := [("power", 1), ("log", 2)]) (g := (gTup K 2 (gCons (gName 1) (gCons (gName 2) gNil)))) rfl nd (show PI _ _ _ (RZ.iZipA K _) from RZ.pi_zipA (by rfl) T.z_zip (pa_cons (pv 0) (pa_cons (pe_glob (v := .ref T.e_LOGS) (by rfl) T.m_LOGS rfl) pa_nil))) (blkOk_by (own := [("power", 1), ("log", 2)]) (N := N_log_of) (sc := defScope s_log_of) (by decide +kernel)) (fun _ _ _ _ _ => by exact (pg_tup rfl (pgs_cons (pg_name (i := 1) nd rfl (Or.inl rfl)) (pgs_cons (pg_name (i := 2) nd rfl (Or.inl rfl)) pgs_nil)))) (fun _ _ _ _ _ => by exact pts_nil) (fun _ _ _ _ _ => by exact (pe_op op_mulW (pv 1) (pv 2)))) pa_nil)))), ?_⟩
  refine ⟨_, rfl, t, T.e_LOGS, _, _, rfl, .inr ⟨ht, T.q_LOGS H, fun D hD => ?_⟩⟩
  refine lc_zipT (xs := x) (ys := LN) (f := fun a b => a * b) ht (T.q_LOGS H) (by rw [h6]; rfl) (by rw [h6]; decide) hD (fun u v => rfl) (fun u v H1 k hu hv hk => ⟨_, rfl, _, rfl, u, v, rfl, rfl, wide_mul (a := 24) (b := 200) (Nat.lt_of_le_of_lt (hE u hu) (by decide)) (ln_small v hv) (by decide) (by decide) (by decide), hk⟩) fun H1 s1 hD1 => ?_
  exact ⟨D, _, rfl, SqL.of hD1, q H1 s1⟩
def spAsTone (K : PySem.W.Frag) (C : Addr) : Sp := fun vs H Q _ => ∃ (p : Addr) (e : List Int), vs = [.ref p] ∧ RAt K C H p e ∧ ∀ t H', Same H H' → H' t = some (.tup [.int ((up e : Nat) : Int), .int ((dn e : Nat) : Int)]) → Q (.ref t) H'
/-- the text of a tone -/
def numS (n : Int) : Str := Str.ofString (toString n)
def told (u d : Nat) : Str := if d = 1 then numS u else numS u ++ Str.ofString "/" ++ numS d
def Short (u : Nat) : Prop := u.log2 < 1920
def spToneText (K : PySem.W.Frag) : Sp := fun vs H Q _ => ∃ (t : Addr) (u d : Nat), vs = [.ref t] ∧ SqT K H t [.int (u : Int), .int (d : Int)] ∧ Short u ∧ Short d ∧ Q (.str (told u d)) H
theorem told_len {u d : Nat} (hu : Short u) (hd : Short d) : (told u d).length ≤ 4000 := by
  have lu : (numS u).length ≤ 1921 := PyProof.Rows.int_text_len_1921 (by rw [Int.natAbs_natCast]; exact hu)
  have ld : (numS d).length ≤ 1921 := PyProof.Rows.int_text_len_1921 (by rw [Int.natAbs_natCast]; exact hd)
  unfold told
  split
  · omega
  · rw [Str.length_append, Str.length_append, show (Str.ofString "/").length = 1 from rfl]
    omega
def toldE (e : List Int) : Str := told (up e) (dn e)
def ShortE (e : List Int) : Prop := Short (up e) ∧ Short (dn e)
def spText (K : PySem.W.Frag) (C : Addr) (f : Str → Str) : Sp := fun vs H Q _ => ∃ (p : Addr) (e : List Int), vs = [.ref p] ∧ RAt K C H p e ∧ ShortE e ∧ ∀ H', Same H H' → Q (.str (f (toldE e))) H'
def spREq (K : PySem.W.Frag) (C : Addr) : Sp := fun vs H Q _ => ∃ (p r : Addr) (x y : List Int), vs = [.ref p, .ref r] ∧ RAt K C H p x ∧ RAt K C H r y ∧ Q (.bl (decide (x = y))) H
-- [0=self, 1=other]
theorem ok_req (T : Tx K mg) : FnOk P w K mg base CX0 1 T.f_Ratio_eq T.d_Ratio_eq ["self", "other"] (spREq K T.C_Ratio) := by
  refine T.F_Ratio_eq.ok sc_Ratio_eq (fun vs H Q E h => ?_) (fun cdv A outer s H vs Q E hr h => ?_)
  · obtain ⟨p, r, x, y, rfl, _⟩ := h
    rfl
  obtain ⟨p, r, x, y, rfl, hx, hy, q⟩ := h
  obtain ⟨dx, t, e1, e2⟩ := hx.ex
  obtain ⟨dy, t', g1, g2⟩ := hy.ex
  refine ⟨_, (pss_one (ps_ret (pe_and (pe_callB (show CallR _ _ (rIsi K) from call_isi) (by rfl) T.z_isinstance (by decide +kernel) (pa_cons (pv 1) (pa_cons (pe_glob (v := .ref T.C_Ratio) (by rfl) T.g_Ratio rfl) pa_nil))) (pe_and (pe_cmpR op_eq (show PE _ _ (tFld K _ _) from pe_fld (pv 0) rfl) (show PE _ _ (tFld K _ _) from pe_fld (pv 1) rfl) (nomark _)) (pe_one (pe_cmpR op_eq (show PE _ _ (tFld K _ _) from pe_fld (pv 0) rfl) (show PE _ _ (tFld K _ _) from pe_fld (pv 1) rfl) (nomark _))))))), ?_⟩
  have i := T.i_Ratio
  refine ⟨_, rfl, _, _, _, .ref T.C_Ratio, true, rfl, ClsV.own _, TyX.base (TyOf.ins g1 T.c_Ratio i.ca i.cn i.ct i.cm), i.me, ?_⟩
  refine ⟨_, rfl, ?_⟩
  refine ⟨_, rfl, p, _, _, _, _, rfl, e1, T.c_Ratio, T.n_Ratio_over, rf_o _ _ _, _, rfl, r, _, _, _, _, rfl, g1, T.c_Ratio, T.n_Ratio_over, rf_o _ _ _, rfl, _, rfl, ?_⟩
  refine ite2 (fun c => ?_) (fun c => ?_)
  · have c' : up x = up y := by
      have := of_decide_eq_true c
      rw [V.int.injEq] at this
      omega
    refine ⟨_, rfl, p, _, _, _, _, rfl, e1, T.c_Ratio, T.n_Ratio_under, rf_u _ _ _, _, rfl, r, _, _, _, _, rfl, g1, T.c_Ratio, T.n_Ratio_under, rf_u _ _ _, rfl, ?_⟩
    rw [show decide (x = y) = decide (V.int ((dn x : Nat) : Int) = V.int ((dn y : Nat) : Int)) from decide_eq_decide.mpr ⟨fun z => by rw [z], fun z => e_inj hx.len hy.len c' (by rw [V.int.injEq] at z; omega)⟩] at q
    exact q
  · have c' : ¬ x = y := fun z => c (decide_eq_true (by rw [z]))
    rw [decide_eq_false c'] at q
    exact q
end
end TL
namespace TL
open PySem L2

/-! ### steps of a reading -/
local macro_rules | `(tactic| walk_at "hp") => `(tactic| first | assumption | exact upd_same | (refine (upd_ne (by first | assumption | (exact Ne.symm (by assumption)))).trans ?_; walk_at "hp"))
local macro_rules | `(tactic| walk_at "ok") => `(tactic| first | (exact Or.inr ⟨by decide, by decide⟩) | (exact ⟨by decide, by decide⟩) | (exact ⟨by decide, by decide, by decide⟩) | (show _ ≠ _; omega) | (show _ ≠ _; decide) | (exact Or.inl ⟨by omega, by omega⟩) | decide)
local macro_rules | `(tactic| walk_at "sq") => `(tactic| first | assumption | exact SqL.of (by walk_at "hp") | exact SqT.of (by walk_at "hp"))
local macro_rules | `(tactic| walk_at "ty") => `(tactic| first | refine ⟨_, _, Value.type "int", Value.type "list", false, rfl, ClsV.ty _, TyX.base (TyOf.int _), kt_int_list, ?_⟩ | refine ⟨_, _, Value.type "bool", Value.type "list", false, rfl, ClsV.ty _, TyX.base (TyOf.bl _), kt_bool_list, ?_⟩ | refine ⟨_, _, Value.type "str", Value.type "list", false, rfl, ClsV.ty _, TyX.base (TyOf.str _), kt_str_list, ?_⟩ | refine ⟨_, _, Value.type "NoneType", Value.type "list", false, rfl, ClsV.ty _, TyX.base TyOf.non, kt_NoneType_list, ?_⟩ | refine ⟨_, _, Value.type "list", Value.type "list", true, rfl, ClsV.ty _, tyx_L (by walk_at "sq"), kt_list_list, ?_⟩ | refine ⟨_, _, Value.type "tuple", Value.type "list", false, rfl, ClsV.ty _, tyx_T (by walk_at "sq"), kt_tuple_list, ?_⟩ | refine ⟨_, _, Value.type "int", Value.type "tuple", false, rfl, ClsV.ty _, TyX.base (TyOf.int _), kt_int_tuple, ?_⟩ | refine ⟨_, _, Value.type "bool", Value.type "tuple", false, rfl, ClsV.ty _, TyX.base (TyOf.bl _), kt_bool_tuple, ?_⟩ | refine ⟨_, _, Value.type "str", Value.type "tuple", false, rfl, ClsV.ty _, TyX.base (TyOf.str _), kt_str_tuple, ?_⟩ | refine ⟨_, _, Value.type "NoneType", Value.type "tuple", false, rfl, ClsV.ty _, TyX.base TyOf.non, kt_NoneType_tuple, ?_⟩ | refine ⟨_, _, Value.type "list", Value.type "tuple", false, rfl, ClsV.ty _, tyx_L (by walk_at "sq"), kt_list_tuple, ?_⟩ | refine ⟨_, _, Value.type "tuple", Value.type "tuple", true, rfl, ClsV.ty _, tyx_T (by walk_at "sq"), kt_tuple_tuple, ?_⟩ | refine ⟨_, _, Value.type "int", Value.type "bool", false, rfl, ClsV.ty _, TyX.base (TyOf.int _), kt_int_bool, ?_⟩ | refine ⟨_, _, Value.type "bool", Value.type "bool", true, rfl, ClsV.ty _, TyX.base (TyOf.bl _), kt_bool_bool, ?_⟩ | refine ⟨_, _, Value.type "str", Value.type "bool", false, rfl, ClsV.ty _, TyX.base (TyOf.str _), kt_str_bool, ?_⟩ | refine ⟨_, _, Value.type "NoneType", Value.type "bool", false, rfl, ClsV.ty _, TyX.base TyOf.non, kt_NoneType_bool, ?_⟩ | refine ⟨_, _, Value.type "list", Value.type "bool", false, rfl, ClsV.ty _, tyx_L (by walk_at "sq"), kt_list_bool, ?_⟩ | refine ⟨_, _, Value.type "tuple", Value.type "bool", false, rfl, ClsV.ty _, tyx_T (by walk_at "sq"), kt_tuple_bool, ?_⟩ | refine ⟨_, _, Value.type "int", Value.type "int", true, rfl, ClsV.ty _, TyX.base (TyOf.int _), kt_int_int, ?_⟩ | refine ⟨_, _, Value.type "bool", Value.type "int", true, rfl, ClsV.ty _, TyX.base (TyOf.bl _), kt_bool_int, ?_⟩ | refine ⟨_, _, Value.type "str", Value.type "int", false, rfl, ClsV.ty _, TyX.base (TyOf.str _), kt_str_int, ?_⟩ | refine ⟨_, _, Value.type "NoneType", Value.type "int", false, rfl, ClsV.ty _, TyX.base TyOf.non, kt_NoneType_int, ?_⟩ | refine ⟨_, _, Value.type "list", Value.type "int", false, rfl, ClsV.ty _, tyx_L (by walk_at "sq"), kt_list_int, ?_⟩ | refine ⟨_, _, Value.type "tuple", Value.type "int", false, rfl, ClsV.ty _, tyx_T (by walk_at "sq"), kt_tuple_int, ?_⟩ | refine ⟨_, _, Value.type "int", Value.type "str", false, rfl, ClsV.ty _, TyX.base (TyOf.int _), kt_int_str, ?_⟩ | refine ⟨_, _, Value.type "bool", Value.type "str", false, rfl, ClsV.ty _, TyX.base (TyOf.bl _), kt_bool_str, ?_⟩ | refine ⟨_, _, Value.type "str", Value.type "str", true, rfl, ClsV.ty _, TyX.base (TyOf.str _), kt_str_str, ?_⟩ | refine ⟨_, _, Value.type "NoneType", Value.type "str", false, rfl, ClsV.ty _, TyX.base TyOf.non, kt_NoneType_str, ?_⟩ | refine ⟨_, _, Value.type "list", Value.type "str", false, rfl, ClsV.ty _, tyx_L (by walk_at "sq"), kt_list_str, ?_⟩ | refine ⟨_, _, Value.type "tuple", Value.type "str", false, rfl, ClsV.ty _, tyx_T (by walk_at "sq"), kt_tuple_str, ?_⟩)
local macro_rules | `(tactic| walk_at "go1") => `(tactic| first
  | (refine ⟨_, rfl, ?_⟩)
  | (refine ⟨_, _, rfl, rfl, ?_⟩)
  | (refine ⟨_, _, _, _, rfl, rfl, SqL.of (by walk_at "hp"), rfl, ?_⟩)
  | (refine Or.inl ⟨_, rfl, ?_⟩)
  | (refine ⟨rfl, ?_⟩)
  | (refine ⟨_, _, rfl, .inl (SqL.of (by walk_at "hp")), ?_⟩)
  | (refine ⟨_, _, rfl, Or.inl (by assumption), ?_⟩)
  | (refine ⟨_, _, rfl, Or.inr (by assumption), ?_⟩)
  | (refine ⟨(by walk_at "ok"), ?_⟩)
  | (refine ⟨_, _, _, _, rfl, rfl, (by walk_at "hp"), rfl, ?_⟩))
local macro_rules | `(tactic| walk_at "go") => `(tactic| repeat (walk_at "go1"))
local macro_rules | `(tactic| walk_at "gt") => `(tactic| repeat (first | walk_at "go1" | walk_at "ty"))

section
variable {P : Program} {w : World} {K : PySem.W.Frag} {mg : Str → Option Value} {base : Heap}
def spGcd : Sp := fun vs H Q _ => ∃ (x y : Nat), vs = [.int (x : Int), .int (y : Int)] ∧ ∀ H', Same H H' → Q (.int ((Nat.gcd x y : Nat) : Int)) H'
theorem ok_l_gcd (T : Tx K mg) : FnOk P w K mg base CX0 1 T.f_l_gcd T.d_l_gcd ["_law_x", "_law_y"] spGcd := by
  refine T.F_l_gcd.ok sc_l_gcd (fun vs H Q E h => ?_) (fun cdv A outer s H vs Q E hr h => ?_)
  · obtain ⟨x, y, rfl, _⟩ := h
    rfl
  obtain ⟨x, y, rfl, q⟩ := h
  have nd := sc_l_gcd.nd
  refine ⟨_, (pss_cons (ps_while PassesOwn.never (pt_cmpR op_gt (pv 1) pe_int (nomark _)) (pss_one (ps_par (i := 0) (j := 1) rfl nd rfl rfl (by decide) rfl rfl (pa_cons (pv 1) (pa_cons (pe_op op_mod (pe_callTy call_int1 (by rfl) T.z_int (by decide +kernel) (pa_cons (pv 0) pa_nil)) (pv 1)) pa_nil)) rfl)))
    (pss_one (ps_ret (pv 0)))), ?_⟩
  refine ⟨fun m σ H' => ∃ u v : Nat, m = v ∧ H' = H ∧ Nat.gcd u v = Nat.gcd x y ∧ σ = [some (.int (u : Int)), some (.int (v : Int))], ⟨y, x, y, rfl, rfl, rfl, rfl⟩, ?_⟩
  rintro m σ H2 ⟨u, v, rfl, rfl, hg, rfl⟩
  by_cases hv : 0 < m
  · refine ⟨_, rfl, _, _, rfl, rfl, true, congrArg V.bl (decide_eq_true (by omega)), ?_⟩
    refine ⟨fun σ' H' => H' = H2 ∧ σ' = [some (.int (m : Int)), some (.int ((u % m : Nat) : Int))], fun σ' H' ⟨a1, a2⟩ => ⟨u % m, Nat.mod_lt _ hv, m, u % m, rfl, a1, by rw [← hg, Nat.gcd_comm u m, Nat.gcd_rec m u, Nat.gcd_comm], a2⟩, ?_⟩
    refine ⟨_, rfl, _, rfl, .inl ⟨_, rfl, _, rfl, _, _, rfl, rfl, (by show (0 : Int) < (m : Int); omega), _, _, rfl, rfl, rfl⟩⟩
  · obtain rfl : m = 0 := by omega
    refine ⟨_, rfl, _, _, rfl, rfl, false, congrArg V.bl (decide_eq_false (by omega)), ?_⟩
    refine ⟨_, rfl, ?_⟩
    rw [Nat.gcd_zero_right] at hg
    rw [hg]
    exact q _ (Same.refl _)
/-- a pair of numbers as the law tells a ratio -/
structure TAt (K : PySem.W.Frag) (H : Hp) (t : Addr) (e : List Int) : Prop where
  ex : SqT K H t [.int ((up e : Nat) : Int), .int ((dn e : Nat) : Int)]
  len : e.length = 6
theorem TAt.same {H H' : Hp} {t : Addr} {e : List Int} (h : TAt K H t e) (s : Same H H') : TAt K H' t e := ⟨seqT s h.ex, h.len⟩
def spLow (K : PySem.W.Frag) : Sp := fun vs H Q _ => ∃ (m : Nat) (e : List Int), vs = [.int ((m * up e : Nat) : Int), .int ((m * dn e : Nat) : Int)] ∧ 0 < m ∧ m < 2 ^ 8001 ∧ e.length = 6 ∧ ∀ t H', Same H H' → TAt K H' t e → Q (.ref t) H'
theorem ok_l_low (T : Tx K mg) : FnOk P w K mg base CX0 2 T.f_l_low T.d_l_low ["_law_num", "_law_den"] (spLow K) := by
  have G_l_gcd := ok_l_gcd (P := P) (w := w) (base := base) T
  refine T.F_l_low.ok sc_l_low (fun vs H Q E h => ?_) (fun cdv A outer s H vs Q E hr h => ?_)
  · obtain ⟨m, e, rfl, _⟩ := h
    rfl
  obtain ⟨m, e, rfl, hm, hm3, hl, q⟩ := h
  have nd := sc_l_low.nd
  refine ⟨_, (pss_cons (ps_set (i := 2) nd rfl (Or.inl rfl) (pe_call G_l_gcd hr (by rfl) T.m_l_gcd T.F_l_gcd.kp T.b_l_gcd .nil pass0 (pa_cons (pv 0) (pa_cons (pv 1) pa_nil))))
    (pss_one (ps_ret (pe_tup (pa_cons (pe_op op_fdivW (pv 0) (pv 2)) (pa_cons (pe_op op_fdivW (pv 1) (pv 2)) pa_nil)))))), ?_⟩
  refine ⟨_, rfl, _, rfl, _, _, rfl, fun H1 s1 => ?_⟩
  rw [gcd_of (e := 0) (cop_e e)]
  have hm0 : (0 : Int) < (m : Int) := by omega
  have hW : ∀ i : Int, CDivW i (m : Int) := fun i => wide_div hm0 (by rw [Int.natAbs_natCast]; exact hm3) (by decide) (by decide)
  have q1 : ((m * up e : Nat) : Int) / (m : Int) = ((up e : Nat) : Int) := by rw [← Int.natCast_ediv, Nat.mul_div_cancel_left _ hm]
  have q2 : ((m * dn e : Nat) : Int) / (m : Int) = ((dn e : Nat) : Int) := by rw [← Int.natCast_ediv, Nat.mul_div_cancel_left _ hm]
  refine ⟨_, rfl, _, rfl, _, _, rfl, rfl, hW _, _, rfl, _, rfl, _, _, rfl, rfl, hW _, (by show 2 ≤ sizeLine; decide), fun t ht => q t _ (s1.trans (Same.new ht)) ⟨SqT.of ?_, hl⟩⟩
  rw [upd_same, ← q1, ← q2]
def Fit (x : List Int) : Prop := up x < 2 ^ 4000 ∧ dn x < 2 ^ 4000
def spL2 (K : PySem.W.Frag) (f : List Int → List Int → List Int) : Sp := fun vs H Q _ => ∃ (p r : Addr) (x y : List Int), vs = [.ref p, .ref r] ∧ TAt K H p x ∧ TAt K H r y ∧ Fit x ∧ Fit y ∧ ∀ t H', Same H H' → TAt K H' t (f x y) → Q (.ref t) H'
theorem both_lt {x y : List Int} (hl : x.length = y.length) (hx : up x < 2 ^ 4000) (hy : up y < 2 ^ 4000) : pp prs (both x y) < 2 ^ 8001 := by
  have h := up_mul x y hl
  have h1 : pp prs (both x y) ≤ up x * up y := by rw [h]; exact Nat.le_mul_of_pos_right _ (up_pos _)
  have h2 : up x * up y < 2 ^ 4000 * 2 ^ 4000 := Nat.mul_lt_mul'' hx hy
  rw [← Nat.pow_add] at h2
  exact Nat.lt_of_le_of_lt h1 (Nat.lt_trans h2 (Nat.pow_lt_pow_right (by decide) (by decide)))
theorem sub_addE (x y : List Int) : subE x y = addE x (negE y) := by
  apply List.ext_getElem
  · simp [subE, addE, negE]
  · intro i h1 h2
    simp [subE, addE, negE]
    omega
theorem nb4 {u : Nat} (h : u < 2 ^ 4000) : ((u : Int)).natAbs < 2 ^ 4000 := by rw [Int.natAbs_natCast]; exact h
theorem ok_l_mul (T : Tx K mg) : FnOk P w K mg base CX0 3 T.f_l_mul T.d_l_mul ["_law_x", "_law_y"] (spL2 K addE) := by
  have G_l_low := ok_l_low (P := P) (w := w) (base := base) T
  refine T.F_l_mul.ok sc_l_mul (fun vs H Q E h => ?_) (fun cdv A outer s H vs Q E hr h => ?_)
  · obtain ⟨p, r, x, y, rfl, _⟩ := h
    rfl
  obtain ⟨p, r, x, y, rfl, hx, hy, fx, fy, q⟩ := h
  refine ⟨_, (pss_one (ps_ret (pe_call G_l_low hr (by rfl) T.m_l_low T.F_l_low.kp T.b_l_low .nil pass0 (pa_cons (pe_op op_mulW (pe_ix (show IxR _ (rIxT K) from ix_tup) (pv 0) pe_int (fun _ _ => rfl)) (pe_ix (show IxR _ (rIxT K) from ix_tup) (pv 1) pe_int (fun _ _ => rfl))) (pa_cons (pe_op op_mulW (pe_ix (show IxR _ (rIxT K) from ix_tup) (pv 0) pe_int (fun _ _ => rfl)) (pe_ix (show IxR _ (rIxT K) from ix_tup) (pv 1) pe_int (fun _ _ => rfl))) pa_nil))))), ?_⟩
  have hl : x.length = y.length := by rw [hx.len, hy.len]
  refine ⟨_, rfl, _, _, _, _, rfl, rfl, hx.ex, rfl, _, rfl, _, _, _, _, rfl, rfl, hy.ex, rfl, _, _, rfl, rfl, wide_mul (nb4 fx.1) (nb4 fy.1) (by decide) (by decide) (by decide), ?_⟩
  refine ⟨_, rfl, _, _, _, _, rfl, rfl, hx.ex, rfl, _, rfl, _, _, _, _, rfl, rfl, hy.ex, rfl, _, _, rfl, rfl, wide_mul (nb4 fx.2) (nb4 fy.2) (by decide) (by decide) (by decide), ?_⟩
  refine ⟨pp prs (both x y), addE x y, ?_, pp_pos _ pc_prs, both_lt hl fx.1 fy.1, by simp [addE, hx.len, hy.len], q⟩
  rw [← up_mul x y hl, ← dn_mul x y hl]
  rfl
def spLess (K : PySem.W.Frag) : Sp := fun vs H Q _ => ∃ (p r : Addr) (x y : List Int), vs = [.ref p, .ref r] ∧ TAt K H p x ∧ TAt K H r y ∧ Fit x ∧ Fit y ∧ Q (.bl (decide (up x * dn y < up y * dn x))) H
theorem ok_l_less (T : Tx K mg) : FnOk P w K mg base CX0 1 T.f_l_less T.d_l_less ["_law_x", "_law_y"] (spLess K) := by
  refine T.F_l_less.ok sc_l_less (fun vs H Q E h => ?_) (fun cdv A outer s H vs Q E hr h => ?_)
  · obtain ⟨p, r, x, y, rfl, _⟩ := h
    rfl
  obtain ⟨p, r, x, y, rfl, hx, hy, fx, fy, q⟩ := h
  refine ⟨_, (pss_one (ps_ret (pe_cmpR op_lt (pe_op op_mulW (pe_ix (show IxR _ (rIxT K) from ix_tup) (pv 0) pe_int (fun _ _ => rfl)) (pe_ix (show IxR _ (rIxT K) from ix_tup) (pv 1) pe_int (fun _ _ => rfl))) (pe_op op_mulW (pe_ix (show IxR _ (rIxT K) from ix_tup) (pv 1) pe_int (fun _ _ => rfl)) (pe_ix (show IxR _ (rIxT K) from ix_tup) (pv 0) pe_int (fun _ _ => rfl))) (nomark _)))), ?_⟩
  refine ⟨_, rfl, _, _, _, _, rfl, rfl, hx.ex, rfl, _, rfl, _, _, _, _, rfl, rfl, hy.ex, rfl, _, _, rfl, rfl, wide_mul (nb4 fx.1) (nb4 fy.2) (by decide) (by decide) (by decide), ?_⟩
  refine ⟨_, rfl, _, _, _, _, rfl, rfl, hy.ex, rfl, _, rfl, _, _, _, _, rfl, rfl, hx.ex, rfl, _, _, rfl, rfl, wide_mul (nb4 fy.1) (nb4 fx.2) (by decide) (by decide) (by decide), ?_⟩
  refine ⟨_, _, rfl, rfl, ?_⟩
  have e : decide (((up x : Nat) : Int) * ((dn y : Nat) : Int) < ((up y : Nat) : Int) * ((dn x : Nat) : Int)) = decide (up x * dn y < up y * dn x) := by
    rw [← Int.natCast_mul, ← Int.natCast_mul]
    exact decide_eq_decide.mpr Int.ofNat_lt
  show Q (.bl (decide (((up x : Nat) : Int) * ((dn y : Nat) : Int) < ((up y : Nat) : Int) * ((dn x : Nat) : Int)))) H
  rw [e]
  exact q
end
end TL
namespace TL
open PySem L2

/-! ### steps of a reading -/
local macro_rules | `(tactic| walk_at "hp") => `(tactic| first | assumption | exact upd_same | (refine (upd_ne (by first | assumption | (exact Ne.symm (by assumption)))).trans ?_; walk_at "hp"))
local macro_rules | `(tactic| walk_at "ok") => `(tactic| first | (exact Or.inr ⟨by decide, by decide⟩) | (exact ⟨by decide, by decide⟩) | (exact ⟨by decide, by decide, by decide⟩) | (show _ ≠ _; omega) | (show _ ≠ _; decide) | (exact Or.inl ⟨by omega, by omega⟩) | decide)
local macro_rules | `(tactic| walk_at "sq") => `(tactic| first | assumption | exact SqL.of (by walk_at "hp") | exact SqT.of (by walk_at "hp"))
local macro_rules | `(tactic| walk_at "ty") => `(tactic| first | refine ⟨_, _, Value.type "int", Value.type "list", false, rfl, ClsV.ty _, TyX.base (TyOf.int _), kt_int_list, ?_⟩ | refine ⟨_, _, Value.type "bool", Value.type "list", false, rfl, ClsV.ty _, TyX.base (TyOf.bl _), kt_bool_list, ?_⟩ | refine ⟨_, _, Value.type "str", Value.type "list", false, rfl, ClsV.ty _, TyX.base (TyOf.str _), kt_str_list, ?_⟩ | refine ⟨_, _, Value.type "NoneType", Value.type "list", false, rfl, ClsV.ty _, TyX.base TyOf.non, kt_NoneType_list, ?_⟩ | refine ⟨_, _, Value.type "list", Value.type "list", true, rfl, ClsV.ty _, tyx_L (by walk_at "sq"), kt_list_list, ?_⟩ | refine ⟨_, _, Value.type "tuple", Value.type "list", false, rfl, ClsV.ty _, tyx_T (by walk_at "sq"), kt_tuple_list, ?_⟩ | refine ⟨_, _, Value.type "int", Value.type "tuple", false, rfl, ClsV.ty _, TyX.base (TyOf.int _), kt_int_tuple, ?_⟩ | refine ⟨_, _, Value.type "bool", Value.type "tuple", false, rfl, ClsV.ty _, TyX.base (TyOf.bl _), kt_bool_tuple, ?_⟩ | refine ⟨_, _, Value.type "str", Value.type "tuple", false, rfl, ClsV.ty _, TyX.base (TyOf.str _), kt_str_tuple, ?_⟩ | refine ⟨_, _, Value.type "NoneType", Value.type "tuple", false, rfl, ClsV.ty _, TyX.base TyOf.non, kt_NoneType_tuple, ?_⟩ | refine ⟨_, _, Value.type "list", Value.type "tuple", false, rfl, ClsV.ty _, tyx_L (by walk_at "sq"), kt_list_tuple, ?_⟩ | refine ⟨_, _, Value.type "tuple", Value.type "tuple", true, rfl, ClsV.ty _, tyx_T (by walk_at "sq"), kt_tuple_tuple, ?_⟩ | refine ⟨_, _, Value.type "int", Value.type "bool", false, rfl, ClsV.ty _, TyX.base (TyOf.int _), kt_int_bool, ?_⟩ | refine ⟨_, _, Value.type "bool", Value.type "bool", true, rfl, ClsV.ty _, TyX.base (TyOf.bl _), kt_bool_bool, ?_⟩ | refine ⟨_, _, Value.type "str", Value.type "bool", false, rfl, ClsV.ty _, TyX.base (TyOf.str _), kt_str_bool, ?_⟩ | refine ⟨_, _, Value.type "NoneType", Value.type "bool", false, rfl, ClsV.ty _, TyX.base TyOf.non, kt_NoneType_bool, ?_⟩ | refine ⟨_, _, Value.type "list", Value.type "bool", false, rfl, ClsV.ty _, tyx_L (by walk_at "sq"), kt_list_bool, ?_⟩ | refine ⟨_, _, Value.type "tuple", Value.type "bool", false, rfl, ClsV.ty _, tyx_T (by walk_at "sq"), kt_tuple_bool, ?_⟩ | refine ⟨_, _, Value.type "int", Value.type "int", true, rfl, ClsV.ty _, TyX.base (TyOf.int _), kt_int_int, ?_⟩ | refine ⟨_, _, Value.type "bool", Value.type "int", true, rfl, ClsV.ty _, TyX.base (TyOf.bl _), kt_bool_int, ?_⟩ | refine ⟨_, _, Value.type "str", Value.type "int", false, rfl, ClsV.ty _, TyX.base (TyOf.str _), kt_str_int, ?_⟩ | refine ⟨_, _, Value.type "NoneType", Value.type "int", false, rfl, ClsV.ty _, TyX.base TyOf.non, kt_NoneType_int, ?_⟩ | refine ⟨_, _, Value.type "list", Value.type "int", false, rfl, ClsV.ty _, tyx_L (by walk_at "sq"), kt_list_int, ?_⟩ | refine ⟨_, _, Value.type "tuple", Value.type "int", false, rfl, ClsV.ty _, tyx_T (by walk_at "sq"), kt_tuple_int, ?_⟩ | refine ⟨_, _, Value.type "int", Value.type "str", false, rfl, ClsV.ty _, TyX.base (TyOf.int _), kt_int_str, ?_⟩ | refine ⟨_, _, Value.type "bool", Value.type "str", false, rfl, ClsV.ty _, TyX.base (TyOf.bl _), kt_bool_str, ?_⟩ | refine ⟨_, _, Value.type "str", Value.type "str", true, rfl, ClsV.ty _, TyX.base (TyOf.str _), kt_str_str, ?_⟩ | refine ⟨_, _, Value.type "NoneType", Value.type "str", false, rfl, ClsV.ty _, TyX.base TyOf.non, kt_NoneType_str, ?_⟩ | refine ⟨_, _, Value.type "list", Value.type "str", false, rfl, ClsV.ty _, tyx_L (by walk_at "sq"), kt_list_str, ?_⟩ | refine ⟨_, _, Value.type "tuple", Value.type "str", false, rfl, ClsV.ty _, tyx_T (by walk_at "sq"), kt_tuple_str, ?_⟩)
local macro_rules | `(tactic| walk_at "go1") => `(tactic| first
  | (refine ⟨_, rfl, ?_⟩)
  | (refine ⟨_, _, rfl, rfl, ?_⟩)
  | (refine ⟨_, _, _, _, rfl, rfl, SqL.of (by walk_at "hp"), rfl, ?_⟩)
  | (refine Or.inl ⟨_, rfl, ?_⟩)
  | (refine ⟨rfl, ?_⟩)
  | (refine ⟨_, _, rfl, .inl (SqL.of (by walk_at "hp")), ?_⟩)
  | (refine ⟨_, _, rfl, Or.inl (by assumption), ?_⟩)
  | (refine ⟨_, _, rfl, Or.inr (by assumption), ?_⟩)
  | (refine ⟨(by walk_at "ok"), ?_⟩)
  | (refine ⟨_, _, _, _, rfl, rfl, (by walk_at "hp"), rfl, ?_⟩))
local macro_rules | `(tactic| walk_at "go") => `(tactic| repeat (walk_at "go1"))
local macro_rules | `(tactic| walk_at "gt") => `(tactic| repeat (first | walk_at "go1" | walk_at "ty"))

section
variable {P : Program} {w : World} {K : PySem.W.Frag} {mg : Str → Option Value} {base : Heap}
/-! ### fractions of any numbers -/
abbrev Fr := Nat × Nat
def PT (K : PySem.W.Frag) (H : Hp) (t : Addr) (x : Fr) : Prop := SqT K H t [.int (x.1 : Int), .int (x.2 : Int)]
theorem PT.same {H H' : Hp} {t : Addr} {x : Fr} (h : PT K H t x) (s : Same H H') : PT K H' t x := seqT s h
def lowP (x : Fr) : Fr := (x.1 / Nat.gcd x.1 x.2, x.2 / Nat.gcd x.1 x.2)
structure Bn (k : Nat) (x : Fr) : Prop where
  a : x.1 < 2 ^ k
  b : x.2 < 2 ^ k
  pa : 0 < x.1
  pb : 0 < x.2
def spLowG (K : PySem.W.Frag) : Sp := fun vs H Q _ => ∃ (x : Fr), vs = [.int (x.1 : Int), .int (x.2 : Int)] ∧ Bn 8001 x ∧ ∀ t H', Same H H' → PT K H' t (lowP x) → Q (.ref t) H'
theorem ok_l_lowG (T : Tx K mg) : FnOk P w K mg base CX0 2 T.f_l_low T.d_l_low ["_law_num", "_law_den"] (spLowG K) := by
  have G_l_gcd := ok_l_gcd (P := P) (w := w) (base := base) T
  refine T.F_l_low.ok sc_l_low (fun vs H Q E h => ?_) (fun cdv A outer s H vs Q E hr h => ?_)
  · obtain ⟨x, rfl, _⟩ := h
    rfl
  obtain ⟨⟨a, b⟩, rfl, ⟨ha, hb, pa, pb⟩, q⟩ := h
  dsimp only at ha hb pa pb
  have nd := sc_l_low.nd
  refine ⟨_, (pss_cons (ps_set (i := 2) nd rfl (Or.inl rfl) (pe_call G_l_gcd hr (by rfl) T.m_l_gcd T.F_l_gcd.kp T.b_l_gcd .nil pass0 (pa_cons (pv 0) (pa_cons (pv 1) pa_nil))))
    (pss_one (ps_ret (pe_tup (pa_cons (pe_op op_fdivW (pv 0) (pv 2)) (pa_cons (pe_op op_fdivW (pv 1) (pv 2)) pa_nil)))))), ?_⟩
  refine ⟨_, rfl, _, rfl, _, _, rfl, fun H1 s1 => ?_⟩
  have hg : 0 < Nat.gcd a b := Nat.gcd_pos_of_pos_left _ pa
  have hg2 : Nat.gcd a b < 2 ^ 8001 := Nat.lt_of_le_of_lt (Nat.gcd_le_left _ pa) ha
  have hm0 : (0 : Int) < ((Nat.gcd a b : Nat) : Int) := by omega
  have hW : ∀ i : Int, CDivW i ((Nat.gcd a b : Nat) : Int) := fun i => wide_div hm0 (by rw [Int.natAbs_natCast]; exact hg2) (by decide) (by decide)
  refine ⟨_, rfl, _, rfl, _, _, rfl, rfl, hW _, _, rfl, _, rfl, _, _, rfl, rfl, hW _, (by show 2 ≤ sizeLine; decide), fun t ht => q t _ (s1.trans (Same.new ht)) (SqT.of ?_)⟩
  rw [upd_same, lowP]
  rfl
def spMulG (K : PySem.W.Frag) : Sp := fun vs H Q _ => ∃ (p r : Addr) (x y : Fr), vs = [.ref p, .ref r] ∧ PT K H p x ∧ PT K H r y ∧ Bn 4000 x ∧ Bn 4000 y ∧ ∀ t H', Same H H' → PT K H' t (lowP (x.1 * y.1, x.2 * y.2)) → Q (.ref t) H'
theorem mul8 {a b : Nat} (h1 : a < 2 ^ 4000) (h2 : b < 2 ^ 4000) : a * b < 2 ^ 8001 := by
  have h := Nat.mul_lt_mul'' h1 h2
  rw [← Nat.pow_add] at h
  exact Nat.lt_trans h (Nat.pow_lt_pow_right (by decide) (by decide))
theorem ok_l_mulG (T : Tx K mg) : FnOk P w K mg base CX0 3 T.f_l_mul T.d_l_mul ["_law_x", "_law_y"] (spMulG K) := by
  have G_l_low := ok_l_lowG (P := P) (w := w) (base := base) T
  refine T.F_l_mul.ok sc_l_mul (fun vs H Q E h => ?_) (fun cdv A outer s H vs Q E hr h => ?_)
  · obtain ⟨p, r, x, y, rfl, _⟩ := h
    rfl
  obtain ⟨p, r, x, y, rfl, hx, hy, bx, bd, q⟩ := h
  refine ⟨_, (pss_one (ps_ret (pe_call G_l_low hr (by rfl) T.m_l_low T.F_l_low.kp T.b_l_low .nil pass0 (pa_cons (pe_op op_mulW (pe_ix (show IxR _ (rIxT K) from ix_tup) (pv 0) pe_int (fun _ _ => rfl)) (pe_ix (show IxR _ (rIxT K) from ix_tup) (pv 1) pe_int (fun _ _ => rfl))) (pa_cons (pe_op op_mulW (pe_ix (show IxR _ (rIxT K) from ix_tup) (pv 0) pe_int (fun _ _ => rfl)) (pe_ix (show IxR _ (rIxT K) from ix_tup) (pv 1) pe_int (fun _ _ => rfl))) pa_nil))))), ?_⟩
  refine ⟨_, rfl, _, _, _, _, rfl, rfl, hx, rfl, _, rfl, _, _, _, _, rfl, rfl, hy, rfl, _, _, rfl, rfl, wide_mul (nb4 bx.a) (nb4 bd.a) (by decide) (by decide) (by decide), ?_⟩
  refine ⟨_, rfl, _, _, _, _, rfl, rfl, hx, rfl, _, rfl, _, _, _, _, rfl, rfl, hy, rfl, _, _, rfl, rfl, wide_mul (nb4 bx.b) (nb4 bd.b) (by decide) (by decide) (by decide), ?_⟩
  exact ⟨(x.1 * y.1, x.2 * y.2), rfl, ⟨mul8 bx.a bd.a, mul8 bx.b bd.b, Nat.mul_pos bx.pa bd.pa, Nat.mul_pos bx.pb bd.pb⟩, q⟩
def spLessG (K : PySem.W.Frag) : Sp := fun vs H Q _ => ∃ (p r : Addr) (x y : Fr), vs = [.ref p, .ref r] ∧ PT K H p x ∧ PT K H r y ∧ Bn 4000 x ∧ Bn 4000 y ∧ Q (.bl (decide (x.1 * y.2 < y.1 * x.2))) H
theorem ok_l_lessG (T : Tx K mg) : FnOk P w K mg base CX0 1 T.f_l_less T.d_l_less ["_law_x", "_law_y"] (spLessG K) := by
  refine T.F_l_less.ok sc_l_less (fun vs H Q E h => ?_) (fun cdv A outer s H vs Q E hr h => ?_)
  · obtain ⟨p, r, x, y, rfl, _⟩ := h
    rfl
  obtain ⟨p, r, x, y, rfl, hx, hy, fx, fy, q⟩ := h
  refine ⟨_, (pss_one (ps_ret (pe_cmpR op_lt (pe_op op_mulW (pe_ix (show IxR _ (rIxT K) from ix_tup) (pv 0) pe_int (fun _ _ => rfl)) (pe_ix (show IxR _ (rIxT K) from ix_tup) (pv 1) pe_int (fun _ _ => rfl))) (pe_op op_mulW (pe_ix (show IxR _ (rIxT K) from ix_tup) (pv 1) pe_int (fun _ _ => rfl)) (pe_ix (show IxR _ (rIxT K) from ix_tup) (pv 0) pe_int (fun _ _ => rfl))) (nomark _)))), ?_⟩
  refine ⟨_, rfl, _, _, _, _, rfl, rfl, hx, rfl, _, rfl, _, _, _, _, rfl, rfl, hy, rfl, _, _, rfl, rfl, wide_mul (nb4 fx.a) (nb4 fy.b) (by decide) (by decide) (by decide), ?_⟩
  refine ⟨_, rfl, _, _, _, _, rfl, rfl, hy, rfl, _, rfl, _, _, _, _, rfl, rfl, hx, rfl, _, _, rfl, rfl, wide_mul (nb4 fy.a) (nb4 fx.b) (by decide) (by decide) (by decide), ?_⟩
  refine ⟨_, _, rfl, rfl, ?_⟩
  have e : decide (((x.1 : Nat) : Int) * ((y.2 : Nat) : Int) < ((y.1 : Nat) : Int) * ((x.2 : Nat) : Int)) = decide (x.1 * y.2 < y.1 * x.2) := by
    rw [← Int.natCast_mul, ← Int.natCast_mul]
    exact decide_eq_decide.mpr Int.ofNat_lt
  show Q (.bl (decide (((x.1 : Nat) : Int) * ((y.2 : Nat) : Int) < ((y.1 : Nat) : Int) * ((x.2 : Nat) : Int)))) H
  rw [e]
  exact q
end
end TL
namespace TL
open PySem L2

/-! ### steps of a reading -/
local macro_rules | `(tactic| walk_at "hp") => `(tactic| first | assumption | exact upd_same | (refine (upd_ne (by first | assumption | (exact Ne.symm (by assumption)))).trans ?_; walk_at "hp"))
local macro_rules | `(tactic| walk_at "ok") => `(tactic| first | (exact Or.inr ⟨by decide, by decide⟩) | (exact ⟨by decide, by decide⟩) | (exact ⟨by decide, by decide, by decide⟩) | (show _ ≠ _; omega) | (show _ ≠ _; decide) | (exact Or.inl ⟨by omega, by omega⟩) | decide)
local macro_rules | `(tactic| walk_at "sq") => `(tactic| first | assumption | exact SqL.of (by walk_at "hp") | exact SqT.of (by walk_at "hp"))
local macro_rules | `(tactic| walk_at "ty") => `(tactic| first | refine ⟨_, _, Value.type "int", Value.type "list", false, rfl, ClsV.ty _, TyX.base (TyOf.int _), kt_int_list, ?_⟩ | refine ⟨_, _, Value.type "bool", Value.type "list", false, rfl, ClsV.ty _, TyX.base (TyOf.bl _), kt_bool_list, ?_⟩ | refine ⟨_, _, Value.type "str", Value.type "list", false, rfl, ClsV.ty _, TyX.base (TyOf.str _), kt_str_list, ?_⟩ | refine ⟨_, _, Value.type "NoneType", Value.type "list", false, rfl, ClsV.ty _, TyX.base TyOf.non, kt_NoneType_list, ?_⟩ | refine ⟨_, _, Value.type "list", Value.type "list", true, rfl, ClsV.ty _, tyx_L (by walk_at "sq"), kt_list_list, ?_⟩ | refine ⟨_, _, Value.type "tuple", Value.type "list", false, rfl, ClsV.ty _, tyx_T (by walk_at "sq"), kt_tuple_list, ?_⟩ | refine ⟨_, _, Value.type "int", Value.type "tuple", false, rfl, ClsV.ty _, TyX.base (TyOf.int _), kt_int_tuple, ?_⟩ | refine ⟨_, _, Value.type "bool", Value.type "tuple", false, rfl, ClsV.ty _, TyX.base (TyOf.bl _), kt_bool_tuple, ?_⟩ | refine ⟨_, _, Value.type "str", Value.type "tuple", false, rfl, ClsV.ty _, TyX.base (TyOf.str _), kt_str_tuple, ?_⟩ | refine ⟨_, _, Value.type "NoneType", Value.type "tuple", false, rfl, ClsV.ty _, TyX.base TyOf.non, kt_NoneType_tuple, ?_⟩ | refine ⟨_, _, Value.type "list", Value.type "tuple", false, rfl, ClsV.ty _, tyx_L (by walk_at "sq"), kt_list_tuple, ?_⟩ | refine ⟨_, _, Value.type "tuple", Value.type "tuple", true, rfl, ClsV.ty _, tyx_T (by walk_at "sq"), kt_tuple_tuple, ?_⟩ | refine ⟨_, _, Value.type "int", Value.type "bool", false, rfl, ClsV.ty _, TyX.base (TyOf.int _), kt_int_bool, ?_⟩ | refine ⟨_, _, Value.type "bool", Value.type "bool", true, rfl, ClsV.ty _, TyX.base (TyOf.bl _), kt_bool_bool, ?_⟩ | refine ⟨_, _, Value.type "str", Value.type "bool", false, rfl, ClsV.ty _, TyX.base (TyOf.str _), kt_str_bool, ?_⟩ | refine ⟨_, _, Value.type "NoneType", Value.type "bool", false, rfl, ClsV.ty _, TyX.base TyOf.non, kt_NoneType_bool, ?_⟩ | refine ⟨_, _, Value.type "list", Value.type "bool", false, rfl, ClsV.ty _, tyx_L (by walk_at "sq"), kt_list_bool, ?_⟩ | refine ⟨_, _, Value.type "tuple", Value.type "bool", false, rfl, ClsV.ty _, tyx_T (by walk_at "sq"), kt_tuple_bool, ?_⟩ | refine ⟨_, _, Value.type "int", Value.type "int", true, rfl, ClsV.ty _, TyX.base (TyOf.int _), kt_int_int, ?_⟩ | refine ⟨_, _, Value.type "bool", Value.type "int", true, rfl, ClsV.ty _, TyX.base (TyOf.bl _), kt_bool_int, ?_⟩ | refine ⟨_, _, Value.type "str", Value.type "int", false, rfl, ClsV.ty _, TyX.base (TyOf.str _), kt_str_int, ?_⟩ | refine ⟨_, _, Value.type "NoneType", Value.type "int", false, rfl, ClsV.ty _, TyX.base TyOf.non, kt_NoneType_int, ?_⟩ | refine ⟨_, _, Value.type "list", Value.type "int", false, rfl, ClsV.ty _, tyx_L (by walk_at "sq"), kt_list_int, ?_⟩ | refine ⟨_, _, Value.type "tuple", Value.type "int", false, rfl, ClsV.ty _, tyx_T (by walk_at "sq"), kt_tuple_int, ?_⟩ | refine ⟨_, _, Value.type "int", Value.type "str", false, rfl, ClsV.ty _, TyX.base (TyOf.int _), kt_int_str, ?_⟩ | refine ⟨_, _, Value.type "bool", Value.type "str", false, rfl, ClsV.ty _, TyX.base (TyOf.bl _), kt_bool_str, ?_⟩ | refine ⟨_, _, Value.type "str", Value.type "str", true, rfl, ClsV.ty _, TyX.base (TyOf.str _), kt_str_str, ?_⟩ | refine ⟨_, _, Value.type "NoneType", Value.type "str", false, rfl, ClsV.ty _, TyX.base TyOf.non, kt_NoneType_str, ?_⟩ | refine ⟨_, _, Value.type "list", Value.type "str", false, rfl, ClsV.ty _, tyx_L (by walk_at "sq"), kt_list_str, ?_⟩ | refine ⟨_, _, Value.type "tuple", Value.type "str", false, rfl, ClsV.ty _, tyx_T (by walk_at "sq"), kt_tuple_str, ?_⟩)
local macro_rules | `(tactic| walk_at "go1") => `(tactic| first
  | (refine ⟨_, rfl, ?_⟩)
  | (refine ⟨_, _, rfl, rfl, ?_⟩)
  | (refine ⟨_, _, _, _, rfl, rfl, SqL.of (by walk_at "hp"), rfl, ?_⟩)
  | (refine Or.inl ⟨_, rfl, ?_⟩)
  | (refine ⟨rfl, ?_⟩)
  | (refine ⟨_, _, rfl, .inl (SqL.of (by walk_at "hp")), ?_⟩)
  | (refine ⟨_, _, rfl, Or.inl (by assumption), ?_⟩)
  | (refine ⟨_, _, rfl, Or.inr (by assumption), ?_⟩)
  | (refine ⟨(by walk_at "ok"), ?_⟩)
  | (refine ⟨_, _, _, _, rfl, rfl, (by walk_at "hp"), rfl, ?_⟩))
local macro_rules | `(tactic| walk_at "go") => `(tactic| repeat (walk_at "go1"))
local macro_rules | `(tactic| walk_at "gt") => `(tactic| repeat (first | walk_at "go1" | walk_at "ty"))

section
variable {P : Program} {w : World} {K : PySem.W.Frag} {mg : Str → Option Value} {base : Heap}
--    
theorem nbk {u k : Nat} (h : u < 2 ^ k) : ((u : Int)).natAbs < 2 ^ k := by rw [Int.natAbs_natCast]; exact h
def spLRaised (K : PySem.W.Frag) : Sp := fun vs H Q _ => ∃ (p : Addr) (n : Int) (e : List Int), vs = [.ref p, .int n] ∧ TAt K H p e ∧ n.natAbs ≤ 1000 ∧ up e ^ n.natAbs < 2 ^ 50000 ∧ dn e ^ n.natAbs < 2 ^ 50000 ∧ ∀ t H', Same H H' → TAt K H' t (mulE n e) → Q (.ref t) H'
def spCount : Sp := fun vs H Q _ => ∃ (d k r : Nat), vs = [.int ((d ^ k * r : Nat) : Int), .int (d : Int)] ∧ 1 < d ∧ 0 < r ∧ ¬ d ∣ r ∧ d < 2 ^ 300 ∧ Q (.int (k : Int)) H
def spSaid (K : PySem.W.Frag) : Sp := fun vs H Q _ => ∃ (p : Addr) (e : List Int), vs = [.ref p] ∧ TAt K H p e ∧ ShortE e ∧ Q (.str (toldE e)) H
def spExps (K : PySem.W.Frag) : Sp := fun vs H Q _ => ∃ (p : Addr) (e : List Int), vs = [.ref p] ∧ TAt K H p e ∧ ∀ t H', Same H H' → H' t = some (.lst (e.map V.int)) → Q (.ref t) H'
end
end TL
namespace TL
open PySem L2

/-! ### steps of a reading -/
local macro_rules | `(tactic| walk_at "hp") => `(tactic| first | assumption | exact upd_same | (refine (upd_ne (by first | assumption | (exact Ne.symm (by assumption)))).trans ?_; walk_at "hp"))
local macro_rules | `(tactic| walk_at "ok") => `(tactic| first | (exact Or.inr ⟨by decide, by decide⟩) | (exact ⟨by decide, by decide⟩) | (exact ⟨by decide, by decide, by decide⟩) | (show _ ≠ _; omega) | (show _ ≠ _; decide) | (exact Or.inl ⟨by omega, by omega⟩) | decide)
local macro_rules | `(tactic| walk_at "sq") => `(tactic| first | assumption | exact SqL.of (by walk_at "hp") | exact SqT.of (by walk_at "hp"))
local macro_rules | `(tactic| walk_at "ty") => `(tactic| first | refine ⟨_, _, Value.type "int", Value.type "list", false, rfl, ClsV.ty _, TyX.base (TyOf.int _), kt_int_list, ?_⟩ | refine ⟨_, _, Value.type "bool", Value.type "list", false, rfl, ClsV.ty _, TyX.base (TyOf.bl _), kt_bool_list, ?_⟩ | refine ⟨_, _, Value.type "str", Value.type "list", false, rfl, ClsV.ty _, TyX.base (TyOf.str _), kt_str_list, ?_⟩ | refine ⟨_, _, Value.type "NoneType", Value.type "list", false, rfl, ClsV.ty _, TyX.base TyOf.non, kt_NoneType_list, ?_⟩ | refine ⟨_, _, Value.type "list", Value.type "list", true, rfl, ClsV.ty _, tyx_L (by walk_at "sq"), kt_list_list, ?_⟩ | refine ⟨_, _, Value.type "tuple", Value.type "list", false, rfl, ClsV.ty _, tyx_T (by walk_at "sq"), kt_tuple_list, ?_⟩ | refine ⟨_, _, Value.type "int", Value.type "tuple", false, rfl, ClsV.ty _, TyX.base (TyOf.int _), kt_int_tuple, ?_⟩ | refine ⟨_, _, Value.type "bool", Value.type "tuple", false, rfl, ClsV.ty _, TyX.base (TyOf.bl _), kt_bool_tuple, ?_⟩ | refine ⟨_, _, Value.type "str", Value.type "tuple", false, rfl, ClsV.ty _, TyX.base (TyOf.str _), kt_str_tuple, ?_⟩ | refine ⟨_, _, Value.type "NoneType", Value.type "tuple", false, rfl, ClsV.ty _, TyX.base TyOf.non, kt_NoneType_tuple, ?_⟩ | refine ⟨_, _, Value.type "list", Value.type "tuple", false, rfl, ClsV.ty _, tyx_L (by walk_at "sq"), kt_list_tuple, ?_⟩ | refine ⟨_, _, Value.type "tuple", Value.type "tuple", true, rfl, ClsV.ty _, tyx_T (by walk_at "sq"), kt_tuple_tuple, ?_⟩ | refine ⟨_, _, Value.type "int", Value.type "bool", false, rfl, ClsV.ty _, TyX.base (TyOf.int _), kt_int_bool, ?_⟩ | refine ⟨_, _, Value.type "bool", Value.type "bool", true, rfl, ClsV.ty _, TyX.base (TyOf.bl _), kt_bool_bool, ?_⟩ | refine ⟨_, _, Value.type "str", Value.type "bool", false, rfl, ClsV.ty _, TyX.base (TyOf.str _), kt_str_bool, ?_⟩ | refine ⟨_, _, Value.type "NoneType", Value.type "bool", false, rfl, ClsV.ty _, TyX.base TyOf.non, kt_NoneType_bool, ?_⟩ | refine ⟨_, _, Value.type "list", Value.type "bool", false, rfl, ClsV.ty _, tyx_L (by walk_at "sq"), kt_list_bool, ?_⟩ | refine ⟨_, _, Value.type "tuple", Value.type "bool", false, rfl, ClsV.ty _, tyx_T (by walk_at "sq"), kt_tuple_bool, ?_⟩ | refine ⟨_, _, Value.type "int", Value.type "int", true, rfl, ClsV.ty _, TyX.base (TyOf.int _), kt_int_int, ?_⟩ | refine ⟨_, _, Value.type "bool", Value.type "int", true, rfl, ClsV.ty _, TyX.base (TyOf.bl _), kt_bool_int, ?_⟩ | refine ⟨_, _, Value.type "str", Value.type "int", false, rfl, ClsV.ty _, TyX.base (TyOf.str _), kt_str_int, ?_⟩ | refine ⟨_, _, Value.type "NoneType", Value.type "int", false, rfl, ClsV.ty _, TyX.base TyOf.non, kt_NoneType_int, ?_⟩ | refine ⟨_, _, Value.type "list", Value.type "int", false, rfl, ClsV.ty _, tyx_L (by walk_at "sq"), kt_list_int, ?_⟩ | refine ⟨_, _, Value.type "tuple", Value.type "int", false, rfl, ClsV.ty _, tyx_T (by walk_at "sq"), kt_tuple_int, ?_⟩ | refine ⟨_, _, Value.type "int", Value.type "str", false, rfl, ClsV.ty _, TyX.base (TyOf.int _), kt_int_str, ?_⟩ | refine ⟨_, _, Value.type "bool", Value.type "str", false, rfl, ClsV.ty _, TyX.base (TyOf.bl _), kt_bool_str, ?_⟩ | refine ⟨_, _, Value.type "str", Value.type "str", true, rfl, ClsV.ty _, TyX.base (TyOf.str _), kt_str_str, ?_⟩ | refine ⟨_, _, Value.type "NoneType", Value.type "str", false, rfl, ClsV.ty _, TyX.base TyOf.non, kt_NoneType_str, ?_⟩ | refine ⟨_, _, Value.type "list", Value.type "str", false, rfl, ClsV.ty _, tyx_L (by walk_at "sq"), kt_list_str, ?_⟩ | refine ⟨_, _, Value.type "tuple", Value.type "str", false, rfl, ClsV.ty _, tyx_T (by walk_at "sq"), kt_tuple_str, ?_⟩)
local macro_rules | `(tactic| walk_at "go1") => `(tactic| first
  | (refine ⟨_, rfl, ?_⟩)
  | (refine ⟨_, _, rfl, rfl, ?_⟩)
  | (refine ⟨_, _, _, _, rfl, rfl, SqL.of (by walk_at "hp"), rfl, ?_⟩)
  | (refine Or.inl ⟨_, rfl, ?_⟩)
  | (refine ⟨rfl, ?_⟩)
  | (refine ⟨_, _, rfl, .inl (SqL.of (by walk_at "hp")), ?_⟩)
  | (refine ⟨_, _, rfl, Or.inl (by assumption), ?_⟩)
  | (refine ⟨_, _, rfl, Or.inr (by assumption), ?_⟩)
  | (refine ⟨(by walk_at "ok"), ?_⟩)
  | (refine ⟨_, _, _, _, rfl, rfl, (by walk_at "hp"), rfl, ?_⟩))
local macro_rules | `(tactic| walk_at "go") => `(tactic| repeat (walk_at "go1"))
local macro_rules | `(tactic| walk_at "gt") => `(tactic| repeat (first | walk_at "go1" | walk_at "ty"))

section
variable {P : Program} {w : World} {K : PySem.W.Frag} {mg : Str → Option Value} {base : Heap}
-- [0=_law_bag_here, 1=_law_small] [0=_law_bag_here, 1=_law_x] [0=_law_bag_here, 1=_law_x, 2=_law_m]
def spLBits (K : PySem.W.Frag) : Sp := fun vs H Q _ => ∃ (p : Addr) (e : List Int), vs = [.ref p] ∧ TAt K H p e ∧ ∀ t H', Same H H' → SqT K H' t ((bitsE e).map V.int) → Q (.ref t) H'
/-! ### drawn ratios -/
theorem TAt.kb {B : Bg} {H H' : Hp} {t : Addr} {e : List Int} (h : TAt K H t e) (hB : Bag B H) (k : Kb B.b H H') : TAt K H' t e := by
  obtain ⟨i, r, s, c, hb, _⟩ := hB.ex
  exact ⟨seqT_kb hb k h.ex, h.len⟩
theorem RAt.kb {C : Addr} {B : Bg} {H H' : Hp} {t : Addr} {e : List Int} (h : RAt K C H t e) (hB : Bag B H) (k : Kb B.b H H') : RAt K C H' t e := by
  obtain ⟨i, r, s, c, hb, _⟩ := hB.ex
  obtain ⟨dx, t', h1, h2⟩ := h.ex
  exact ⟨⟨dx, t', k _ _ h1 (ne_of h1 hb (by intro z; cases z)), seqT_kb hb k h2⟩, h.len⟩
def Tas (K : PySem.W.Frag) (H : Hp) (ps : List V) (es : List (List Int)) : Prop := ps.length = es.length ∧ ∀ (i : Nat) p, ps[i]? = some p → ∃ t e, p = .ref t ∧ e ∈ es ∧ TAt K H t e
theorem Tas.same {H H' : Hp} {ps : List V} {es : List (List Int)} (h : Tas K H ps es) (s : Same H H') : Tas K H' ps es := ⟨h.1, fun i p hp => by
  obtain ⟨t, e, e1, e2, e3⟩ := h.2 i p hp
  exact ⟨t, e, e1, e2, e3.same s⟩⟩
def EvTs (K : PySem.W.Frag) (ta : TA) (σ : L2.St) (H : Hp) (es : List (List Int)) : Prop := ∀ H1, Same H H1 → ∀ Q : List V → Hp → Prop, (∀ ps H2, Same H1 H2 → Tas K H2 ps es → Q ps H2) → ta σ H1 Q
theorem ets_nil {σ : L2.St} {H : Hp} : EvTs K tNil σ H [] := fun H1 s Q q => q [] H1 (Same.refl _) ⟨rfl, fun i p h => by cases h⟩
theorem ets_cons {σ : L2.St} {H : Hp} {a b : Int} {tr : TA} {e : List Int} {es : List (List Int)} (h1 : a = ((up e : Nat) : Int)) (h2 : b = ((dn e : Nat) : Int)) (hl : e.length = 6) (hr : EvTs K tr σ H es) :
    EvTs K (tCons (tTup (tCons (tC (.int a)) (tCons (tC (.int b)) tNil))) tr) σ H (e :: es) := fun H1 s1 Q q =>
  ⟨(by show 2 ≤ sizeLine; decide), fun p hp => by
    have s2 := Same.new (o := .tup [.int a, .int b]) hp
    refine hr _ (s1.trans s2) _ fun ps H3 s3 hps => q (.ref p :: ps) H3 (s2.trans s3) ⟨by simp [hps.1], fun i r hr' => ?_⟩
    match i, hr' with
    | 0, hr' =>
      cases hr'
      exact ⟨p, e, rfl, List.mem_cons_self .., ⟨SqT.of (by rw [← h1, ← h2]; exact s3 _ _ upd_same), hl⟩⟩
    | i + 1, hr' =>
      obtain ⟨t, f, e1, e2, e3⟩ := hps.2 i r hr'
      exact ⟨t, f, e1, List.mem_cons_of_mem _ e2, e3⟩⟩
theorem tas_set {σ : L2.St} {H : Hp} {ta : TA} {rest : TS} {D : Ends} {i : Nat} {es : List (List Int)} (h : EvTs K ta σ H es) (hz : es.length ≤ 1000) (k : ∀ ps p H', Same H H' → Tas K H' ps es → H' p = some (.lst ps) → rest D (σ.set i (some (.ref p))) H') : tSeq (tAsg (tLst ta) (gName i)) rest D σ H :=
  h H (Same.refl _) _ fun ps H1 s1 hw => ⟨by rw [hw.1]; exact Nat.le_of_lt (Nat.lt_of_le_of_lt hz (by decide)), fun p hp =>
    have s2 := Same.new (o := .lst ps) hp
    k ps p _ (s1.trans s2) (hw.same s2) upd_same⟩
theorem of_tas {σ : L2.St} {H : Hp} {i j : Nat} {tb : TA} {es fs : List (List Int)} {B : Bg} {d : Addr} {ps : List V} {E : XK} {Q : VK} (hi : σ[i]? = some (some (.ref B.b))) (hj : σ[j]? = some (some (.ref d))) (hd : H d = some (.lst ps)) (hps : Tas K H ps es) (hB : Bag B H) (h : EvTs K tb σ H fs)
    (hz : es.length + fs.length ≤ 1000) (h0 : 0 < es.length) (q : ∀ t e H', Bag B H' → Kb B.b H H' → TAt K H' t e → e ∈ es ++ fs → Q (.ref t) H') : tRet (tCall (spOf K) [] E (tCons (tVar i) (tCons (tOp rCat (tVar j) (tLst tb)) tNil))) { nx := fun _ H' => Q .non H', rt := Q } σ H := by
  refine ⟨_, hi, _, hj, h H (Same.refl _) _ fun ps2 H1 s1 h2 => ⟨by rw [h2.1]; exact Nat.le_of_lt (Nat.lt_of_le_of_lt (by omega : fs.length ≤ 1000) (by decide)), fun p hp => ?_⟩⟩
  have s2 := Same.new (o := .lst ps2) hp
  refine ⟨d, p, ps, ps2, rfl, rfl, s2 _ _ (s1 _ _ hd), upd_same, by rw [hps.1, h2.1]; exact Nat.le_of_lt (Nat.lt_of_le_of_lt hz (by decide)), fun r hr => ?_⟩
  have s3 := Same.new (o := .lst (ps ++ ps2)) hr
  have sA := (s1.trans s2).trans s3
  have hB2 := hB.same (s1.trans s2)
  refine ⟨B, r, ps ++ ps2, rfl, SqL.of upd_same, hB2.nb hr, by rw [List.length_append, hps.1]; omega, by rw [List.length_append, hps.1, h2.1]; exact hz, hB.same sA, fun m v H' hv hB' kb => ?_⟩
  have kA := (Kb.same (g := B.b) sA).trans kb
  rcases Nat.lt_or_ge m ps.length with c | c
  · rw [List.getElem?_append_left c] at hv
    obtain ⟨t, e, rfl, he, ht⟩ := (hps.same sA).2 m v hv
    exact q t e H' hB' kA (ht.kb (hB.same sA) kb) (List.mem_append_left _ he)
  · rw [List.getElem?_append_right c] at hv
    obtain ⟨t, e, rfl, he, ht⟩ := (h2.same (s2.trans s3)).2 _ v hv
    exact q t e H' hB' kA (ht.kb (hB.same sA) kb) (List.mem_append_right _ he)
def steps : List (List Int) := [[-3, 2, 0, 0, 0, 0], [1, -2, 1, 0, 0, 0], [4, -1, -1, 0, 0, 0], [-3, -1, 2, 0, 0, 0], [1, 1, -1, 0, 0, 0], [-1, -1, 0, 1, 0, 0], [3, 0, 0, -1, 0, 0], [-2, 0, 1, 0, 0, 0], [2, -1, 0, 0, 0, 0], [-1, 1, 0, 0, 0, 0], [1, 0, 0, 0, 0, 0]]
def steps2 : List (List Int) := [[-3, 2, 0, 0, 0, 0], [4, -1, -1, 0, 0, 0], [-1, 0, -1, 0, 1, 0], [1, 0, 0, 1, 0, -1], [-2, -1, 0, 0, 0, 1]]
def Sm (b : Nat) (e : List Int) : Prop := up e ≤ b ∧ dn e ≤ b
theorem steps_sm : ∀ e ∈ steps ++ steps2, up e ≤ 25 ∧ dn e ≤ 25 := by decide
def spStep (K : PySem.W.Frag) (b : Nat) : Sp := fun vs H Q _ => ∃ (B : Bg), vs = [.ref B.b] ∧ Bag B H ∧ ∀ t e H', Bag B H' → Kb B.b H H' → TAt K H' t e → Sm b e → Q (.ref t) H'
theorem ok_l_step (T : Tx K mg) : FnOk P w K mg base CX0 3 T.f_l_step T.d_l_step ["_law_bag_here"] (spStep K 25) := by
  have G_l_of := ok_of (P := P) (w := w) (base := base) T
  refine T.F_l_step.ok sc_l_step (fun vs H Q E h => ?_) (fun cdv A outer s H vs Q E hr h => ?_)
  · obtain ⟨B, rfl, _⟩ := h
    rfl
  obtain ⟨B, rfl, hB, q⟩ := h
  have nd := sc_l_step.nd
  refine ⟨_, (pss_cons (ps_set (i := 1) nd rfl (Or.inl rfl) (pe_lst (pa_cons (pe_tup (pa_cons pe_int (pa_cons pe_int pa_nil))) (pa_cons (pe_tup (pa_cons pe_int (pa_cons pe_int pa_nil))) (pa_cons (pe_tup (pa_cons pe_int (pa_cons pe_int pa_nil))) (pa_cons (pe_tup (pa_cons pe_int (pa_cons pe_int pa_nil))) (pa_cons (pe_tup (pa_cons pe_int (pa_cons pe_int pa_nil))) (pa_cons (pe_tup (pa_cons pe_int (pa_cons pe_int pa_nil))) (pa_cons (pe_tup (pa_cons pe_int (pa_cons pe_int pa_nil))) (pa_cons (pe_tup (pa_cons pe_int (pa_cons pe_int pa_nil))) (pa_cons (pe_tup (pa_cons pe_int (pa_cons pe_int pa_nil))) (pa_cons (pe_tup (pa_cons pe_int (pa_cons pe_int pa_nil))) (pa_cons (pe_tup (pa_cons pe_int (pa_cons pe_int pa_nil))) pa_nil)))))))))))))
    (pss_one (ps_ret (pe_call G_l_of hr (by rfl) T.m_l_of T.F_l_of.kp T.b_l_of .nil pass0 (pa_cons (pv 0) (pa_cons (pe_op op_cat (pv 1) (pe_lst (pa_cons (pe_tup (pa_cons pe_int (pa_cons pe_int pa_nil))) (pa_cons (pe_tup (pa_cons pe_int (pa_cons pe_int pa_nil))) (pa_cons (pe_tup (pa_cons pe_int (pa_cons pe_int pa_nil))) (pa_cons (pe_tup (pa_cons pe_int (pa_cons pe_int pa_nil))) (pa_cons (pe_tup (pa_cons pe_int (pa_cons pe_int pa_nil))) pa_nil))))))) pa_nil)))))), ?_⟩
  refine tas_set (K := K) (es := steps) ?_ (by decide) fun ps d H1 s1 hps hd => ?_
  · repeat (first | exact ets_nil | refine ets_cons (by decide) (by decide) rfl ?_)
  refine of_tas (K := K) (B := B) (es := steps) (fs := steps2) rfl rfl hd hps (hB.same s1) ?_ (by decide) (by decide) fun t e H' hB' kb' ht he => ?_
  · repeat (first | exact ets_nil | refine ets_cons (by decide) (by decide) rfl ?_)
  exact q t e H' hB' ((Kb.same s1).trans kb') ht (steps_sm e he)
def spLength (K : PySem.W.Frag) : Sp := spStep K 625
theorem sm_add {a b : Nat} {x y : List Int} (hl : x.length = y.length) (hx : Sm a x) (hy : Sm b y) : Sm (a * b) (addE x y) := by
  have h1 := up_mul x y hl
  have h2 := dn_mul x y hl
  have p0 : 0 < pp prs (both x y) := pp_pos _ pc_prs
  refine ⟨Nat.le_trans (Nat.le_mul_of_pos_left _ p0) ?_, Nat.le_trans (Nat.le_mul_of_pos_left _ p0) ?_⟩
  · rw [← h1]
    exact Nat.mul_le_mul hx.1 hy.1
  · rw [← h2]
    exact Nat.mul_le_mul hx.2 hy.2
theorem Sm.fit {a : Nat} {x : List Int} (h : Sm a x) (ha : a < 2 ^ 4000) : Fit x := ⟨Nat.lt_of_le_of_lt h.1 ha, Nat.lt_of_le_of_lt h.2 ha⟩
theorem ok_l_length (T : Tx K mg) : FnOk P w K mg base CX0 4 T.f_l_length T.d_l_length ["_law_bag_here"] (spStep K 625) := by
  have G_l_step := ok_l_step (P := P) (w := w) (base := base) T
  have G_l_draw := ok_draw (P := P) (w := w) (base := base) T
  have G_l_mul := ok_l_mul (P := P) (w := w) (base := base) T
  refine T.F_l_length.ok sc_l_length (fun vs H Q E h => ?_) (fun cdv A outer s H vs Q E hr h => ?_)
  · obtain ⟨B, rfl, _⟩ := h
    rfl
  obtain ⟨B, rfl, hB, q⟩ := h
  have nd := sc_l_length.nd
  refine ⟨_, (pss_cons (ps_set (i := 1) nd rfl (Or.inl rfl) (pe_call G_l_step hr (by rfl) T.m_l_step T.F_l_step.kp T.b_l_step .nil pass0 (pa_cons (pv 0) pa_nil)))
    (pss_one (ps_ret (pe_ifExp (pt_cmpR op_eq (pe_call G_l_draw (hr.mono (by decide)) (by rfl) T.m_l_draw T.F_l_draw.kp T.b_l_draw .nil pass0 (pa_cons (pv 0) (pa_cons pe_int pa_nil))) pe_int (nomark _)) (pe_call G_l_mul hr (by rfl) T.m_l_mul T.F_l_mul.kp T.b_l_mul .nil pass0 (pa_cons (pv 1) (pa_cons (pe_call G_l_step hr (by rfl) T.m_l_step T.F_l_step.kp T.b_l_step .nil pass0 (pa_cons (pv 0) pa_nil)) pa_nil))) (pv 1))))), ?_⟩
  refine ⟨_, rfl, B, rfl, hB, fun t e H1 hB1 kb1 ht he => ?_⟩
  refine ⟨_, rfl, B, 3, rfl, by decide, by decide, hB1, fun d H2 d0 d1 hB2 kb2 => ?_⟩
  refine ⟨rfl, _, rfl, ?_⟩
  have ht2 := ht.kb hB1 kb2
  have f25 : (25 : Nat) < 2 ^ 4000 := Nat.lt_trans (by decide : 25 < 2 ^ 5) (Nat.pow_lt_pow_right (by decide) (by decide))
  refine ite2 (fun c => ?_) (fun c => ?_)
  · refine ⟨_, rfl, _, rfl, B, rfl, hB2, fun t' e' H3 hB3 kb3 ht' he' => ?_⟩
    refine ⟨t, t', e, e', rfl, ht2.kb hB2 kb3, ht', he.fit f25, he'.fit f25, fun r H4 s4 hr' => ?_⟩
    have hl : e.length = e'.length := by rw [ht.len, ht'.len]
    exact q r _ H4 (hB3.same s4) (((kb1.trans kb2).trans kb3).trans (Kb.same s4)) hr' (sm_add hl he he')
  · exact ⟨_, rfl, q t e H2 hB2 (kb1.trans kb2) ht2 ⟨Nat.le_trans he.1 (by decide), Nat.le_trans he.2 (by decide)⟩⟩
end
end TL
namespace TL
open PySem L2

/-! ### steps of a reading -/
local macro_rules | `(tactic| walk_at "hp") => `(tactic| first | assumption | exact upd_same | (refine (upd_ne (by first | assumption | (exact Ne.symm (by assumption)))).trans ?_; walk_at "hp"))
local macro_rules | `(tactic| walk_at "ok") => `(tactic| first | (exact Or.inr ⟨by decide, by decide⟩) | (exact ⟨by decide, by decide⟩) | (exact ⟨by decide, by decide, by decide⟩) | (show _ ≠ _; omega) | (show _ ≠ _; decide) | (exact Or.inl ⟨by omega, by omega⟩) | decide)
local macro_rules | `(tactic| walk_at "sq") => `(tactic| first | assumption | exact SqL.of (by walk_at "hp") | exact SqT.of (by walk_at "hp"))
local macro_rules | `(tactic| walk_at "ty") => `(tactic| first | refine ⟨_, _, Value.type "int", Value.type "list", false, rfl, ClsV.ty _, TyX.base (TyOf.int _), kt_int_list, ?_⟩ | refine ⟨_, _, Value.type "bool", Value.type "list", false, rfl, ClsV.ty _, TyX.base (TyOf.bl _), kt_bool_list, ?_⟩ | refine ⟨_, _, Value.type "str", Value.type "list", false, rfl, ClsV.ty _, TyX.base (TyOf.str _), kt_str_list, ?_⟩ | refine ⟨_, _, Value.type "NoneType", Value.type "list", false, rfl, ClsV.ty _, TyX.base TyOf.non, kt_NoneType_list, ?_⟩ | refine ⟨_, _, Value.type "list", Value.type "list", true, rfl, ClsV.ty _, tyx_L (by walk_at "sq"), kt_list_list, ?_⟩ | refine ⟨_, _, Value.type "tuple", Value.type "list", false, rfl, ClsV.ty _, tyx_T (by walk_at "sq"), kt_tuple_list, ?_⟩ | refine ⟨_, _, Value.type "int", Value.type "tuple", false, rfl, ClsV.ty _, TyX.base (TyOf.int _), kt_int_tuple, ?_⟩ | refine ⟨_, _, Value.type "bool", Value.type "tuple", false, rfl, ClsV.ty _, TyX.base (TyOf.bl _), kt_bool_tuple, ?_⟩ | refine ⟨_, _, Value.type "str", Value.type "tuple", false, rfl, ClsV.ty _, TyX.base (TyOf.str _), kt_str_tuple, ?_⟩ | refine ⟨_, _, Value.type "NoneType", Value.type "tuple", false, rfl, ClsV.ty _, TyX.base TyOf.non, kt_NoneType_tuple, ?_⟩ | refine ⟨_, _, Value.type "list", Value.type "tuple", false, rfl, ClsV.ty _, tyx_L (by walk_at "sq"), kt_list_tuple, ?_⟩ | refine ⟨_, _, Value.type "tuple", Value.type "tuple", true, rfl, ClsV.ty _, tyx_T (by walk_at "sq"), kt_tuple_tuple, ?_⟩ | refine ⟨_, _, Value.type "int", Value.type "bool", false, rfl, ClsV.ty _, TyX.base (TyOf.int _), kt_int_bool, ?_⟩ | refine ⟨_, _, Value.type "bool", Value.type "bool", true, rfl, ClsV.ty _, TyX.base (TyOf.bl _), kt_bool_bool, ?_⟩ | refine ⟨_, _, Value.type "str", Value.type "bool", false, rfl, ClsV.ty _, TyX.base (TyOf.str _), kt_str_bool, ?_⟩ | refine ⟨_, _, Value.type "NoneType", Value.type "bool", false, rfl, ClsV.ty _, TyX.base TyOf.non, kt_NoneType_bool, ?_⟩ | refine ⟨_, _, Value.type "list", Value.type "bool", false, rfl, ClsV.ty _, tyx_L (by walk_at "sq"), kt_list_bool, ?_⟩ | refine ⟨_, _, Value.type "tuple", Value.type "bool", false, rfl, ClsV.ty _, tyx_T (by walk_at "sq"), kt_tuple_bool, ?_⟩ | refine ⟨_, _, Value.type "int", Value.type "int", true, rfl, ClsV.ty _, TyX.base (TyOf.int _), kt_int_int, ?_⟩ | refine ⟨_, _, Value.type "bool", Value.type "int", true, rfl, ClsV.ty _, TyX.base (TyOf.bl _), kt_bool_int, ?_⟩ | refine ⟨_, _, Value.type "str", Value.type "int", false, rfl, ClsV.ty _, TyX.base (TyOf.str _), kt_str_int, ?_⟩ | refine ⟨_, _, Value.type "NoneType", Value.type "int", false, rfl, ClsV.ty _, TyX.base TyOf.non, kt_NoneType_int, ?_⟩ | refine ⟨_, _, Value.type "list", Value.type "int", false, rfl, ClsV.ty _, tyx_L (by walk_at "sq"), kt_list_int, ?_⟩ | refine ⟨_, _, Value.type "tuple", Value.type "int", false, rfl, ClsV.ty _, tyx_T (by walk_at "sq"), kt_tuple_int, ?_⟩ | refine ⟨_, _, Value.type "int", Value.type "str", false, rfl, ClsV.ty _, TyX.base (TyOf.int _), kt_int_str, ?_⟩ | refine ⟨_, _, Value.type "bool", Value.type "str", false, rfl, ClsV.ty _, TyX.base (TyOf.bl _), kt_bool_str, ?_⟩ | refine ⟨_, _, Value.type "str", Value.type "str", true, rfl, ClsV.ty _, TyX.base (TyOf.str _), kt_str_str, ?_⟩ | refine ⟨_, _, Value.type "NoneType", Value.type "str", false, rfl, ClsV.ty _, TyX.base TyOf.non, kt_NoneType_str, ?_⟩ | refine ⟨_, _, Value.type "list", Value.type "str", false, rfl, ClsV.ty _, tyx_L (by walk_at "sq"), kt_list_str, ?_⟩ | refine ⟨_, _, Value.type "tuple", Value.type "str", false, rfl, ClsV.ty _, tyx_T (by walk_at "sq"), kt_tuple_str, ?_⟩)
local macro_rules | `(tactic| walk_at "go1") => `(tactic| first
  | (refine ⟨_, rfl, ?_⟩)
  | (refine ⟨_, _, rfl, rfl, ?_⟩)
  | (refine ⟨_, _, _, _, rfl, rfl, SqL.of (by walk_at "hp"), rfl, ?_⟩)
  | (refine Or.inl ⟨_, rfl, ?_⟩)
  | (refine ⟨rfl, ?_⟩)
  | (refine ⟨_, _, rfl, .inl (SqL.of (by walk_at "hp")), ?_⟩)
  | (refine ⟨_, _, rfl, Or.inl (by assumption), ?_⟩)
  | (refine ⟨_, _, rfl, Or.inr (by assumption), ?_⟩)
  | (refine ⟨(by walk_at "ok"), ?_⟩)
  | (refine ⟨_, _, _, _, rfl, rfl, (by walk_at "hp"), rfl, ?_⟩))
local macro_rules | `(tactic| walk_at "go") => `(tactic| repeat (walk_at "go1"))
local macro_rules | `(tactic| walk_at "gt") => `(tactic| repeat (first | walk_at "go1" | walk_at "ty"))

section
variable {P : Program} {w : World} {K : PySem.W.Frag} {mg : Str → Option Value} {base : Heap}
theorem among2 {n : Int} (h : n ∈ ([1, 1, 1, 1, 2, 17, 30, 10 ^ 9 + 7] : List Int)) : ∃ m : Nat, n = (m : Int) ∧ 0 < m ∧ m < 2 ^ 30 := by
  have : 0 < n ∧ n < 2 ^ 30 := by
    revert n
    decide
  exact ⟨n.toNat, by omega, by omega, by omega⟩
def spLRatio (K : PySem.W.Frag) (C : Addr) : Sp := fun vs H Q _ => ∃ (B : Bg) (p : Addr) (e : List Int), vs = [.ref B.b, .ref p] ∧ Bag B H ∧ TAt K H p e ∧ Fit e ∧ ∀ t H', Bag B H' → Kb B.b H H' → RAt K C H' t e → Q (.ref t) H'
theorem ok_l_ratio (T : Tx K mg) : FnOk P w K mg base CX0 6 T.f_l_ratio T.d_l_ratio ["_law_bag_here", "_law_x"] (spLRatio K T.C_Ratio) := by
  have G_l_of := ok_of (P := P) (w := w) (base := base) T
  have G_Ratio_init := ok_rinit (P := P) (w := w) (base := base) T
  refine T.F_l_ratio.ok sc_l_ratio (fun vs H Q E h => ?_) (fun cdv A outer s H vs Q E hr h => ?_)
  · obtain ⟨B, p, e, rfl, _⟩ := h
    rfl
  obtain ⟨B, p, e, rfl, hB, he, hf, q⟩ := h
  have nd := sc_l_ratio.nd
  refine ⟨_, (pss_cons (ps_set (i := 2) nd rfl (Or.inl rfl) (pe_call G_l_of (hr.mono (by decide)) (by rfl) T.m_l_of T.F_l_of.kp T.b_l_of .nil pass0 (pa_cons (pv 0) (pa_cons (pe_lst (pa_cons pe_int (pa_cons pe_int (pa_cons pe_int (pa_cons pe_int (pa_cons pe_int (pa_cons pe_int (pa_cons pe_int (pa_cons (pe_op op_add (pe_op op_pow pe_int pe_int) pe_int) pa_nil))))))))) pa_nil))))
    (pss_one (ps_ret (pe_make T.k_Ratio G_Ratio_init hr (by rfl) T.g_Ratio T.b_Ratio_init .nil pass0 (pa_cons (pe_op op_mulW (pe_ix (show IxR _ (rIxT K) from ix_tup) (pv 1) pe_int (fun _ _ => rfl)) (pv 2)) (pa_cons (pe_op op_mulW (pe_ix (show IxR _ (rIxT K) from ix_tup) (pv 1) pe_int (fun _ _ => rfl)) (pv 2)) pa_nil)))))), ?_⟩
  refine ⟨_, rfl, 10, 9, rfl, rfl, ⟨by decide, by decide, by decide⟩, _, _, rfl, rfl, ?_⟩
  refine ⟨(by show 8 ≤ sizeLine; decide), fun pl hpl => ?_⟩
  have s1 := Same.new (o := .lst (([1, 1, 1, 1, 2, 17, 30, 10 ^ 9 + 7] : List Int).map V.int)) hpl
  refine ⟨B, pl, ([1, 1, 1, 1, 2, 17, 30, 10 ^ 9 + 7] : List Int).map V.int, rfl, SqL.of upd_same, hB.nb hpl, by decide, by decide, hB.same s1, fun i v H1 hv hB1 kb1 => ?_⟩
  obtain ⟨n, hn, rfl⟩ := List.mem_map.mp (List.mem_of_getElem? hv)
  obtain ⟨m, rfl, m0, m1⟩ := among2 hn
  have he1 := (he.same s1).kb (hB.same s1) kb1
  have mb : ((m : Int)).natAbs < 2 ^ 30 := by rw [Int.natAbs_natCast]; exact m1
  refine ⟨_, rfl, _, _, _, _, rfl, rfl, he1.ex, rfl, _, rfl, _, _, rfl, rfl, wide_mul (nb4 hf.1) mb (by decide) (by decide) (by decide), ?_⟩
  refine ⟨_, rfl, _, _, _, _, rfl, rfl, he1.ex, rfl, _, rfl, _, _, rfl, rfl, wide_mul (nb4 hf.2) mb (by decide) (by decide) (by decide), ?_⟩
  intro x dx nx ndx nex
  refine ⟨x, dx, m, e, ?_, upd_same, m0, Nat.lt_trans m1 (Nat.pow_lt_pow_right (by decide) (by decide)), he.len, fun H2 r2 kp => ⟨rfl, ?_⟩⟩
  · rw [Nat.mul_comm m, Nat.mul_comm m]
    rfl
  have s0 : Same H1 (upd (upd H1 dx (.own x)) x (.ins T.C_Ratio dx [])) := fun b o z => by
    rw [upd_ne (ne_of_none z nx), upd_ne (ne_of_none z ndx)]
    exact z
  have s2 : Same H1 H2 := fun b o z => kp b o (s0 b o z) (ne_of_none z nx)
  exact q x H2 (hB1.same s2) (((Kb.same s1).trans kb1).trans (Kb.same s2)) r2
def IsAt (K : PySem.W.Frag) (H : Hp) (t : Addr) (e : List Int) : Prop := SqT K H t [.str (Str.ofString "is"), .int ((up e : Nat) : Int), .int ((dn e : Nat) : Int)]
def spIs (K : PySem.W.Frag) : Sp := fun vs H Q _ => ∃ (p : Addr) (e : List Int), vs = [.ref p] ∧ TAt K H p e ∧ ∀ t H', Same H H' → IsAt K H' t e → Q (.ref t) H'
theorem ok_l_is (T : Tx K mg) : FnOk P w K mg base CX0 1 T.f_l_is T.d_l_is ["_law_x"] (spIs K) := by
  refine T.F_l_is.ok sc_l_is (fun vs H Q E h => ?_) (fun cdv A outer s H vs Q E hr h => ?_)
  · obtain ⟨p, e, rfl, _⟩ := h
    rfl
  obtain ⟨p, e, rfl, he, q⟩ := h
  refine ⟨_, (pss_one (ps_ret (pe_tup (pa_cons pe_str (pa_cons (pe_ix (show IxR _ (rIxT K) from ix_tup) (pv 0) pe_int (fun _ _ => rfl)) (pa_cons (pe_ix (show IxR _ (rIxT K) from ix_tup) (pv 0) pe_int (fun _ _ => rfl)) pa_nil)))))), ?_⟩
  exact ⟨_, rfl, _, _, _, _, rfl, rfl, he.ex, rfl, _, rfl, _, _, _, _, rfl, rfl, he.ex, rfl, (by show 3 ≤ sizeLine; decide), fun t ht => q t _ (Same.new ht) (SqT.of upd_same)⟩
/-! ### what the law sees of a thing -/
def Ras (K : PySem.W.Frag) (C : Addr) (H : Hp) (ps : List V) (es : List (List Int)) : Prop := ps.length = es.length ∧ ∀ (i : Nat) p, ps[i]? = some p → ∃ t e, p = .ref t ∧ es[i]? = some e ∧ RAt K C H t e
def Iss (K : PySem.W.Frag) (H : Hp) (ps : List V) (es : List (List Int)) : Prop := ps.length = es.length ∧ ∀ (i : Nat) p, ps[i]? = some p → ∃ t e, p = .ref t ∧ es[i]? = some e ∧ IsAt K H t e
def spSeen0 (K : PySem.W.Frag) (C : Addr) : Sp := fun vs H Q _ => ∃ (p : Addr) (e : List Int), vs = [.ref p] ∧ RAt K C H p e ∧ ∀ t H', Same H H' → IsAt K H' t e → Q (.ref t) H'
theorem never_seen {T : Tx K mg} : FnOk P w K mg base CX0 0 T.f_l_seen T.d_l_seen ["_law_thing"] (fun _ _ _ _ => False) :=
  ⟨fun vs H Q E h => h.elim, fun A outer s H args us vs Q E _ _ _ _ h => h.elim⟩
theorem ok_seen0 (T : Tx K mg) : FnOk P w K mg base CX0 1 T.f_l_seen T.d_l_seen ["_law_thing"] (spSeen0 K T.C_Ratio) := by
  have G_l_seen := never_seen (P := P) (w := w) (base := base) (T := T)
  refine T.F_l_seen.ok sc_l_seen (fun vs H Q E h => ?_) (fun cdv A outer s H vs Q E hr h => ?_)
  · obtain ⟨p, e, rfl, _⟩ := h
    rfl
  obtain ⟨p, e, rfl, he, q⟩ := h
  obtain ⟨dx, t, h1, h2⟩ := he.ex
  have nd := sc_l_seen.nd
  have i := T.i_Ratio
  refine ⟨_, (pss_cons (ps_if (pt_val (pe_callB (show CallR _ _ (rIsi K) from call_isi) (by rfl) T.z_isinstance (by decide +kernel) (pa_cons (pv 0) (pa_cons (pe_glob (v := .ref T.C_Ratio) (by rfl) T.g_Ratio rfl) pa_nil)))) (pss_one (ps_ret (pe_tup (pa_cons pe_str (pa_cons (show PE _ _ (tFld K _ _) from pe_fld (pv 0) rfl) (pa_cons (show PE _ _ (tFld K _ _) from pe_fld (pv 0) rfl) pa_nil)))))) pss_nil)
    (pss_cons (ps_if (pt_val (pe_callB (show CallR _ _ (rIsi K) from call_isi) (by rfl) T.z_isinstance (by decide +kernel) (pa_cons (pv 0) (pa_cons (pe_bltn (v := .ty "list") (u := .type "list") (by rfl) T.z_list (by decide +kernel) rfl) pa_nil)))) (pss_one (ps_ret (pe_lc (own := [("_law_x", 1)]) (g := (gName 1)) rfl nd (show PI _ _ _ (iList K _) from pi_list (pv 0)) (blkOk_by (own := [("_law_x", 1)]) (N := N_l_seen) (sc := defScope s_l_seen) (by decide +kernel)) (fun _ _ _ _ _ => by exact (pg_name (i := 1) nd rfl (Or.inl rfl))) (fun _ _ _ _ _ => by exact pts_nil) (fun _ _ _ _ _ => by exact (pe_call G_l_seen hr (by rfl) T.m_l_seen T.F_l_seen.kp T.b_l_seen .nil pass0 (pa_cons (pv 1) pa_nil)))))) pss_nil)
    (pss_cons (ps_if (pt_val (pe_callB (show CallR _ _ (rIsi K) from call_isi) (by rfl) T.z_isinstance (by decide +kernel) (pa_cons (pv 0) (pa_cons (pe_bltn (v := .ty "tuple") (u := .type "tuple") (by rfl) T.z_tuple (by decide +kernel) rfl) pa_nil)))) (pss_one (ps_ret (pe_callTy (show CallR _ _ (rTup1 K) from call_tup1) (by rfl) T.z_tuple (by decide +kernel) (pa_cons (pe_lc (own := [("_law_x", 1)]) (g := (gName 1)) rfl nd (show PI _ _ _ (iList K _) from pi_list (pv 0)) (blkOk_by (own := [("_law_x", 1)]) (N := N_l_seen) (sc := defScope s_l_seen) (by decide +kernel)) (fun _ _ _ _ _ => by exact (pg_name (i := 1) nd rfl (Or.inl rfl))) (fun _ _ _ _ _ => by exact pts_nil) (fun _ _ _ _ _ => by exact (pe_call G_l_seen hr (by rfl) T.m_l_seen T.F_l_seen.kp T.b_l_seen .nil pass0 (pa_cons (pv 1) pa_nil)))) pa_nil)))) pss_nil)
    (pss_one (ps_ret (pv 0)))))), ?_⟩
  refine ⟨_, rfl, _, _, _, .ref T.C_Ratio, true, rfl, ClsV.own _, TyX.base (TyOf.ins h1 T.c_Ratio i.ca i.cn i.ct i.cm), i.me, ?_⟩
  refine ⟨_, rfl, ?_⟩
  exact ⟨_, rfl, p, _, _, _, _, rfl, h1, T.c_Ratio, T.n_Ratio_over, rf_o _ _ _, _, rfl, p, _, _, _, _, rfl, h1, T.c_Ratio, T.n_Ratio_under, rf_u _ _ _, (by show 3 ≤ sizeLine; decide), fun t ht => q t _ (Same.new ht) (SqT.of upd_same)⟩
def spSeen1 (K : PySem.W.Frag) (C : Addr) : Sp := fun vs H Q _ => ∃ (p : Addr) (ps : List V) (es : List (List Int)), vs = [.ref p] ∧ SqL K H p ps ∧ Ras K C H ps es ∧ es.length ≤ 1000 ∧ ∀ t qs H', Same H H' → H' t = some (.lst qs) → Iss K H' qs es → Q (.ref t) H'
theorem ok_seen1 (T : Tx K mg) : FnOk P w K mg base CX0 2 T.f_l_seen T.d_l_seen ["_law_thing"] (spSeen1 K T.C_Ratio) := by
  have G_l_seen := ok_seen0 (P := P) (w := w) (base := base) T
  refine T.F_l_seen.ok sc_l_seen (fun vs H Q E h => ?_) (fun cdv A outer s H vs Q E hr h => ?_)
  · obtain ⟨p, ps, es, rfl, _⟩ := h
    rfl
  obtain ⟨p, ps, es, rfl, hp, hR, hz, q⟩ := h
  have nd := sc_l_seen.nd
  refine ⟨_, (pss_cons (ps_if (pt_val (pe_callB (show CallR _ _ (rIsi K) from call_isi) (by rfl) T.z_isinstance (by decide +kernel) (pa_cons (pv 0) (pa_cons (pe_glob (v := .ref T.C_Ratio) (by rfl) T.g_Ratio rfl) pa_nil)))) (pss_one (ps_ret (pe_tup (pa_cons pe_str (pa_cons (show PE _ _ (tFld K _ _) from pe_fld (pv 0) rfl) (pa_cons (show PE _ _ (tFld K _ _) from pe_fld (pv 0) rfl) pa_nil)))))) pss_nil)
    (pss_cons (ps_if (pt_val (pe_callB (show CallR _ _ (rIsi K) from call_isi) (by rfl) T.z_isinstance (by decide +kernel) (pa_cons (pv 0) (pa_cons (pe_bltn (v := .ty "list") (u := .type "list") (by rfl) T.z_list (by decide +kernel) rfl) pa_nil)))) (pss_one (ps_ret (pe_lc (own := [("_law_x", 1)]) (g := (gName 1)) rfl nd (show PI _ _ _ (iList K _) from pi_list (pv 0)) (blkOk_by (own := [("_law_x", 1)]) (N := N_l_seen) (sc := defScope s_l_seen) (by decide +kernel)) (fun _ _ _ _ _ => by exact (pg_name (i := 1) nd rfl (Or.inl rfl))) (fun _ _ _ _ _ => by exact pts_nil) (fun _ _ _ _ _ => by exact (pe_call G_l_seen hr (by rfl) T.m_l_seen T.F_l_seen.kp T.b_l_seen .nil pass0 (pa_cons (pv 1) pa_nil)))))) pss_nil)
    (pss_cons (ps_if (pt_val (pe_callB (show CallR _ _ (rIsi K) from call_isi) (by rfl) T.z_isinstance (by decide +kernel) (pa_cons (pv 0) (pa_cons (pe_bltn (v := .ty "tuple") (u := .type "tuple") (by rfl) T.z_tuple (by decide +kernel) rfl) pa_nil)))) (pss_one (ps_ret (pe_callTy (show CallR _ _ (rTup1 K) from call_tup1) (by rfl) T.z_tuple (by decide +kernel) (pa_cons (pe_lc (own := [("_law_x", 1)]) (g := (gName 1)) rfl nd (show PI _ _ _ (iList K _) from pi_list (pv 0)) (blkOk_by (own := [("_law_x", 1)]) (N := N_l_seen) (sc := defScope s_l_seen) (by decide +kernel)) (fun _ _ _ _ _ => by exact (pg_name (i := 1) nd rfl (Or.inl rfl))) (fun _ _ _ _ _ => by exact pts_nil) (fun _ _ _ _ _ => by exact (pe_call G_l_seen hr (by rfl) T.m_l_seen T.F_l_seen.kp T.b_l_seen .nil pass0 (pa_cons (pv 1) pa_nil)))) pa_nil)))) pss_nil)
    (pss_one (ps_ret (pv 0)))))), ?_⟩
  refine ⟨_, rfl, _, _, _, .ref T.C_Ratio, false, rfl, ClsV.own _, tyx_L hp, T.kList, ?_⟩
  refine ⟨_, rfl, ?_⟩
  refine ⟨_, rfl, _, _, .type "list", .type "list", true, rfl, ClsV.ty _, tyx_L hp, kt_list_list, _, rfl, ?_⟩
  refine ⟨_, rfl, p, rfl, ⟨ps, hp⟩, fun D hD => ?_⟩
  refine lcs (walk_list (K := K) (a := p) (xs := ps)) (fun i y H => ∃ t e, y = V.ref t ∧ es[i]? = some e ∧ IsAt K H t e) (fun i y H1 H2 s1 ⟨t, e, a1, a2, a3⟩ => ⟨t, e, a1, a2, seqT s1 a3⟩)
    (fun i y H1 zs zs' hz' ⟨t, e, a1, a2, a3⟩ => ⟨t, e, a1, a2, seqT_lst hz' a3⟩) (by rw [hR.1]; omega) hD (fun H1 s1 => s1.seq hp) ?_ fun ys H1 hl hys s1 hD1 => q D ys H1 s1 hD1 ⟨by rw [hl, hR.1], hys⟩
  rintro i x H1 H2 hi s1 ⟨rfl, hx⟩ k hk
  obtain ⟨t, e, rfl, he, ht⟩ := hR.2 i x hx
  refine ⟨rfl, ?_⟩
  exact ⟨_, rfl, t, e, rfl, ht.same s1, fun t2 H3 s3 h3 => hk _ H3 s3 ⟨t2, e, rfl, he, h3⟩⟩
end
end TL
namespace TL
open PySem L2

/-! ### steps of a reading -/
local macro_rules | `(tactic| walk_at "hp") => `(tactic| first | assumption | exact upd_same | (refine (upd_ne (by first | assumption | (exact Ne.symm (by assumption)))).trans ?_; walk_at "hp"))
local macro_rules | `(tactic| walk_at "ok") => `(tactic| first | (exact Or.inr ⟨by decide, by decide⟩) | (exact ⟨by decide, by decide⟩) | (exact ⟨by decide, by decide, by decide⟩) | (show _ ≠ _; omega) | (show _ ≠ _; decide) | (exact Or.inl ⟨by omega, by omega⟩) | decide)
local macro_rules | `(tactic| walk_at "sq") => `(tactic| first | assumption | exact SqL.of (by walk_at "hp") | exact SqT.of (by walk_at "hp"))
local macro_rules | `(tactic| walk_at "ty") => `(tactic| first | refine ⟨_, _, Value.type "int", Value.type "list", false, rfl, ClsV.ty _, TyX.base (TyOf.int _), kt_int_list, ?_⟩ | refine ⟨_, _, Value.type "bool", Value.type "list", false, rfl, ClsV.ty _, TyX.base (TyOf.bl _), kt_bool_list, ?_⟩ | refine ⟨_, _, Value.type "str", Value.type "list", false, rfl, ClsV.ty _, TyX.base (TyOf.str _), kt_str_list, ?_⟩ | refine ⟨_, _, Value.type "NoneType", Value.type "list", false, rfl, ClsV.ty _, TyX.base TyOf.non, kt_NoneType_list, ?_⟩ | refine ⟨_, _, Value.type "list", Value.type "list", true, rfl, ClsV.ty _, tyx_L (by walk_at "sq"), kt_list_list, ?_⟩ | refine ⟨_, _, Value.type "tuple", Value.type "list", false, rfl, ClsV.ty _, tyx_T (by walk_at "sq"), kt_tuple_list, ?_⟩ | refine ⟨_, _, Value.type "int", Value.type "tuple", false, rfl, ClsV.ty _, TyX.base (TyOf.int _), kt_int_tuple, ?_⟩ | refine ⟨_, _, Value.type "bool", Value.type "tuple", false, rfl, ClsV.ty _, TyX.base (TyOf.bl _), kt_bool_tuple, ?_⟩ | refine ⟨_, _, Value.type "str", Value.type "tuple", false, rfl, ClsV.ty _, TyX.base (TyOf.str _), kt_str_tuple, ?_⟩ | refine ⟨_, _, Value.type "NoneType", Value.type "tuple", false, rfl, ClsV.ty _, TyX.base TyOf.non, kt_NoneType_tuple, ?_⟩ | refine ⟨_, _, Value.type "list", Value.type "tuple", false, rfl, ClsV.ty _, tyx_L (by walk_at "sq"), kt_list_tuple, ?_⟩ | refine ⟨_, _, Value.type "tuple", Value.type "tuple", true, rfl, ClsV.ty _, tyx_T (by walk_at "sq"), kt_tuple_tuple, ?_⟩ | refine ⟨_, _, Value.type "int", Value.type "bool", false, rfl, ClsV.ty _, TyX.base (TyOf.int _), kt_int_bool, ?_⟩ | refine ⟨_, _, Value.type "bool", Value.type "bool", true, rfl, ClsV.ty _, TyX.base (TyOf.bl _), kt_bool_bool, ?_⟩ | refine ⟨_, _, Value.type "str", Value.type "bool", false, rfl, ClsV.ty _, TyX.base (TyOf.str _), kt_str_bool, ?_⟩ | refine ⟨_, _, Value.type "NoneType", Value.type "bool", false, rfl, ClsV.ty _, TyX.base TyOf.non, kt_NoneType_bool, ?_⟩ | refine ⟨_, _, Value.type "list", Value.type "bool", false, rfl, ClsV.ty _, tyx_L (by walk_at "sq"), kt_list_bool, ?_⟩ | refine ⟨_, _, Value.type "tuple", Value.type "bool", false, rfl, ClsV.ty _, tyx_T (by walk_at "sq"), kt_tuple_bool, ?_⟩ | refine ⟨_, _, Value.type "int", Value.type "int", true, rfl, ClsV.ty _, TyX.base (TyOf.int _), kt_int_int, ?_⟩ | refine ⟨_, _, Value.type "bool", Value.type "int", true, rfl, ClsV.ty _, TyX.base (TyOf.bl _), kt_bool_int, ?_⟩ | refine ⟨_, _, Value.type "str", Value.type "int", false, rfl, ClsV.ty _, TyX.base (TyOf.str _), kt_str_int, ?_⟩ | refine ⟨_, _, Value.type "NoneType", Value.type "int", false, rfl, ClsV.ty _, TyX.base TyOf.non, kt_NoneType_int, ?_⟩ | refine ⟨_, _, Value.type "list", Value.type "int", false, rfl, ClsV.ty _, tyx_L (by walk_at "sq"), kt_list_int, ?_⟩ | refine ⟨_, _, Value.type "tuple", Value.type "int", false, rfl, ClsV.ty _, tyx_T (by walk_at "sq"), kt_tuple_int, ?_⟩ | refine ⟨_, _, Value.type "int", Value.type "str", false, rfl, ClsV.ty _, TyX.base (TyOf.int _), kt_int_str, ?_⟩ | refine ⟨_, _, Value.type "bool", Value.type "str", false, rfl, ClsV.ty _, TyX.base (TyOf.bl _), kt_bool_str, ?_⟩ | refine ⟨_, _, Value.type "str", Value.type "str", true, rfl, ClsV.ty _, TyX.base (TyOf.str _), kt_str_str, ?_⟩ | refine ⟨_, _, Value.type "NoneType", Value.type "str", false, rfl, ClsV.ty _, TyX.base TyOf.non, kt_NoneType_str, ?_⟩ | refine ⟨_, _, Value.type "list", Value.type "str", false, rfl, ClsV.ty _, tyx_L (by walk_at "sq"), kt_list_str, ?_⟩ | refine ⟨_, _, Value.type "tuple", Value.type "str", false, rfl, ClsV.ty _, tyx_T (by walk_at "sq"), kt_tuple_str, ?_⟩)
local macro_rules | `(tactic| walk_at "go1") => `(tactic| first
  | (refine ⟨_, rfl, ?_⟩)
  | (refine ⟨_, _, rfl, rfl, ?_⟩)
  | (refine ⟨_, _, _, _, rfl, rfl, SqL.of (by walk_at "hp"), rfl, ?_⟩)
  | (refine Or.inl ⟨_, rfl, ?_⟩)
  | (refine ⟨rfl, ?_⟩)
  | (refine ⟨_, _, rfl, .inl (SqL.of (by walk_at "hp")), ?_⟩)
  | (refine ⟨_, _, rfl, Or.inl (by assumption), ?_⟩)
  | (refine ⟨_, _, rfl, Or.inr (by assumption), ?_⟩)
  | (refine ⟨(by walk_at "ok"), ?_⟩)
  | (refine ⟨_, _, _, _, rfl, rfl, (by walk_at "hp"), rfl, ?_⟩))
local macro_rules | `(tactic| walk_at "go") => `(tactic| repeat (walk_at "go1"))
local macro_rules | `(tactic| walk_at "gt") => `(tactic| repeat (first | walk_at "go1" | walk_at "ty"))

section
variable {P : Program} {w : World} {K : PySem.W.Frag} {mg : Str → Option Value} {base : Heap}

theorem iteT' {A B : Prop} {c : Bool} (e : c = true) (h : A) : if c = true then A else B := by
  rw [if_pos e]
  exact h
theorem iteF' {A B : Prop} {c : Bool} (e : c = false) (h : B) : if c = true then A else B := by
  subst e
  exact iteF h
def spBuilt (K : PySem.W.Frag) : Sp := fun vs H Q _ => ∃ (a : Addr) (e : List Int), vs = [.ref a] ∧ SqL K H a (e.map V.int) ∧ e.length = 6 ∧ (∀ x ∈ e, x.natAbs ≤ 1000) ∧ Fit e ∧ ∀ t H', Same H H' → TAt K H' t e → Q (.ref t) H'
end
end TL
namespace TL
open PySem L2

/-! ### steps of a reading -/
local macro_rules | `(tactic| walk_at "hp") => `(tactic| first | assumption | exact upd_same | (refine (upd_ne (by first | assumption | (exact Ne.symm (by assumption)))).trans ?_; walk_at "hp"))
local macro_rules | `(tactic| walk_at "ok") => `(tactic| first | (exact Or.inr ⟨by decide, by decide⟩) | (exact ⟨by decide, by decide⟩) | (exact ⟨by decide, by decide, by decide⟩) | (show _ ≠ _; omega) | (show _ ≠ _; decide) | (exact Or.inl ⟨by omega, by omega⟩) | decide)
local macro_rules | `(tactic| walk_at "sq") => `(tactic| first | assumption | exact SqL.of (by walk_at "hp") | exact SqT.of (by walk_at "hp"))
local macro_rules | `(tactic| walk_at "ty") => `(tactic| first | refine ⟨_, _, Value.type "int", Value.type "list", false, rfl, ClsV.ty _, TyX.base (TyOf.int _), kt_int_list, ?_⟩ | refine ⟨_, _, Value.type "bool", Value.type "list", false, rfl, ClsV.ty _, TyX.base (TyOf.bl _), kt_bool_list, ?_⟩ | refine ⟨_, _, Value.type "str", Value.type "list", false, rfl, ClsV.ty _, TyX.base (TyOf.str _), kt_str_list, ?_⟩ | refine ⟨_, _, Value.type "NoneType", Value.type "list", false, rfl, ClsV.ty _, TyX.base TyOf.non, kt_NoneType_list, ?_⟩ | refine ⟨_, _, Value.type "list", Value.type "list", true, rfl, ClsV.ty _, tyx_L (by walk_at "sq"), kt_list_list, ?_⟩ | refine ⟨_, _, Value.type "tuple", Value.type "list", false, rfl, ClsV.ty _, tyx_T (by walk_at "sq"), kt_tuple_list, ?_⟩ | refine ⟨_, _, Value.type "int", Value.type "tuple", false, rfl, ClsV.ty _, TyX.base (TyOf.int _), kt_int_tuple, ?_⟩ | refine ⟨_, _, Value.type "bool", Value.type "tuple", false, rfl, ClsV.ty _, TyX.base (TyOf.bl _), kt_bool_tuple, ?_⟩ | refine ⟨_, _, Value.type "str", Value.type "tuple", false, rfl, ClsV.ty _, TyX.base (TyOf.str _), kt_str_tuple, ?_⟩ | refine ⟨_, _, Value.type "NoneType", Value.type "tuple", false, rfl, ClsV.ty _, TyX.base TyOf.non, kt_NoneType_tuple, ?_⟩ | refine ⟨_, _, Value.type "list", Value.type "tuple", false, rfl, ClsV.ty _, tyx_L (by walk_at "sq"), kt_list_tuple, ?_⟩ | refine ⟨_, _, Value.type "tuple", Value.type "tuple", true, rfl, ClsV.ty _, tyx_T (by walk_at "sq"), kt_tuple_tuple, ?_⟩ | refine ⟨_, _, Value.type "int", Value.type "bool", false, rfl, ClsV.ty _, TyX.base (TyOf.int _), kt_int_bool, ?_⟩ | refine ⟨_, _, Value.type "bool", Value.type "bool", true, rfl, ClsV.ty _, TyX.base (TyOf.bl _), kt_bool_bool, ?_⟩ | refine ⟨_, _, Value.type "str", Value.type "bool", false, rfl, ClsV.ty _, TyX.base (TyOf.str _), kt_str_bool, ?_⟩ | refine ⟨_, _, Value.type "NoneType", Value.type "bool", false, rfl, ClsV.ty _, TyX.base TyOf.non, kt_NoneType_bool, ?_⟩ | refine ⟨_, _, Value.type "list", Value.type "bool", false, rfl, ClsV.ty _, tyx_L (by walk_at "sq"), kt_list_bool, ?_⟩ | refine ⟨_, _, Value.type "tuple", Value.type "bool", false, rfl, ClsV.ty _, tyx_T (by walk_at "sq"), kt_tuple_bool, ?_⟩ | refine ⟨_, _, Value.type "int", Value.type "int", true, rfl, ClsV.ty _, TyX.base (TyOf.int _), kt_int_int, ?_⟩ | refine ⟨_, _, Value.type "bool", Value.type "int", true, rfl, ClsV.ty _, TyX.base (TyOf.bl _), kt_bool_int, ?_⟩ | refine ⟨_, _, Value.type "str", Value.type "int", false, rfl, ClsV.ty _, TyX.base (TyOf.str _), kt_str_int, ?_⟩ | refine ⟨_, _, Value.type "NoneType", Value.type "int", false, rfl, ClsV.ty _, TyX.base TyOf.non, kt_NoneType_int, ?_⟩ | refine ⟨_, _, Value.type "list", Value.type "int", false, rfl, ClsV.ty _, tyx_L (by walk_at "sq"), kt_list_int, ?_⟩ | refine ⟨_, _, Value.type "tuple", Value.type "int", false, rfl, ClsV.ty _, tyx_T (by walk_at "sq"), kt_tuple_int, ?_⟩ | refine ⟨_, _, Value.type "int", Value.type "str", false, rfl, ClsV.ty _, TyX.base (TyOf.int _), kt_int_str, ?_⟩ | refine ⟨_, _, Value.type "bool", Value.type "str", false, rfl, ClsV.ty _, TyX.base (TyOf.bl _), kt_bool_str, ?_⟩ | refine ⟨_, _, Value.type "str", Value.type "str", true, rfl, ClsV.ty _, TyX.base (TyOf.str _), kt_str_str, ?_⟩ | refine ⟨_, _, Value.type "NoneType", Value.type "str", false, rfl, ClsV.ty _, TyX.base TyOf.non, kt_NoneType_str, ?_⟩ | refine ⟨_, _, Value.type "list", Value.type "str", false, rfl, ClsV.ty _, tyx_L (by walk_at "sq"), kt_list_str, ?_⟩ | refine ⟨_, _, Value.type "tuple", Value.type "str", false, rfl, ClsV.ty _, tyx_T (by walk_at "sq"), kt_tuple_str, ?_⟩)
local macro_rules | `(tactic| walk_at "go1") => `(tactic| first
  | (refine ⟨_, rfl, ?_⟩)
  | (refine ⟨_, _, rfl, rfl, ?_⟩)
  | (refine ⟨_, _, _, _, rfl, rfl, SqL.of (by walk_at "hp"), rfl, ?_⟩)
  | (refine Or.inl ⟨_, rfl, ?_⟩)
  | (refine ⟨rfl, ?_⟩)
  | (refine ⟨_, _, rfl, .inl (SqL.of (by walk_at "hp")), ?_⟩)
  | (refine ⟨_, _, rfl, Or.inl (by assumption), ?_⟩)
  | (refine ⟨_, _, rfl, Or.inr (by assumption), ?_⟩)
  | (refine ⟨(by walk_at "ok"), ?_⟩)
  | (refine ⟨_, _, _, _, rfl, rfl, (by walk_at "hp"), rfl, ?_⟩))
local macro_rules | `(tactic| walk_at "go") => `(tactic| repeat (walk_at "go1"))
local macro_rules | `(tactic| walk_at "gt") => `(tactic| repeat (first | walk_at "go1" | walk_at "ty"))

section
variable {P : Program} {w : World} {K : PySem.W.Frag} {mg : Str → Option Value} {base : Heap}
/-! ### _law_same of equal data -/
def spSame (K : PySem.W.Frag) (m : Nat) : Sp := fun vs H Q _ => ∃ (n : Nat) (x y : V), vs = [x, y] ∧ n < m ∧ DEq K H n x y ∧ ∀ H', Same H H' → Q (.bl true) H'
theorem ok_same_step (T : Tx K mg) {m : Nat} (G_l_same : FnOk P w K mg base CX0 m T.f_l_same T.d_l_same ["_law_found", "_law_due"] (spSame K m)) : FnOk P w K mg base CX0 (m + 1) T.f_l_same T.d_l_same ["_law_found", "_law_due"] (spSame K (m + 1)) := by
  refine T.F_l_same.ok sc_l_same (fun vs H Q E h => ?_) (fun cdv A outer s H vs Q E hr h => ?_)
  · obtain ⟨n, x, y, rfl, _⟩ := h
    rfl
  obtain ⟨n, x, y, rfl, hm, hd, q⟩ := h
  have nd := sc_l_same.nd
  refine ⟨_, (pss_cons (ps_if (pt_val (pe_callB (show CallR _ _ (rIsi K) from call_isi) (by rfl) T.z_isinstance (by decide +kernel) (pa_cons (pv 1) (pa_cons (pe_bltn (v := .ty "list") (u := .type "list") (by rfl) T.z_list (by decide +kernel) rfl) pa_nil)))) (pss_one (ps_ret (pe_and (pe_callB (show CallR _ _ (rIsi K) from call_isi) (by rfl) T.z_isinstance (by decide +kernel) (pa_cons (pv 0) (pa_cons (pe_bltn (v := .ty "list") (u := .type "list") (by rfl) T.z_list (by decide +kernel) rfl) pa_nil))) (pe_and (pe_cmpR op_eq (pe_callB (show CallR _ _ (rLenSq K) from call_len_seq) (by rfl) T.z_len (by decide +kernel) (pa_cons (pv 0) pa_nil)) (pe_callB (show CallR _ _ (rLenSq K) from call_len_seq) (by rfl) T.z_len (by decide +kernel) (pa_cons (pv 1) pa_nil)) (nomark _)) (pe_one (pe_callB (show CallR _ _ (rAll K) from cr_all rfl) (by rfl) T.z_all (by decide +kernel) (pa_cons (pe_lc (own := [("_law_x", 2), ("_law_y", 3)]) (g := (gTup K 2 (gCons (gName 2) (gCons (gName 3) gNil)))) rfl nd (show PI _ _ _ (RZ.iZipA K _) from RZ.pi_zipA (by rfl) T.z_zip (pa_cons (pv 0) (pa_cons (pv 1) pa_nil))) (blkOk_by (own := [("_law_x", 2), ("_law_y", 3)]) (N := N_l_same) (sc := defScope s_l_same) (by decide +kernel)) (fun _ _ _ _ _ => by exact (pg_tup rfl (pgs_cons (pg_name (i := 2) nd rfl (Or.inl rfl)) (pgs_cons (pg_name (i := 3) nd rfl (Or.inl rfl)) pgs_nil)))) (fun _ _ _ _ _ => by exact pts_nil) (fun _ _ _ _ _ => by exact (pe_call G_l_same hr (by rfl) T.m_l_same T.F_l_same.kp T.b_l_same .nil pass0 (pa_cons (pv 2) (pa_cons (pv 3) pa_nil))))) pa_nil))))))) pss_nil)
    (pss_cons (ps_if (pt_val (pe_callB (show CallR _ _ (rIsi K) from call_isi) (by rfl) T.z_isinstance (by decide +kernel) (pa_cons (pv 1) (pa_cons (pe_bltn (v := .ty "tuple") (u := .type "tuple") (by rfl) T.z_tuple (by decide +kernel) rfl) pa_nil)))) (pss_one (ps_ret (pe_and (pe_callB (show CallR _ _ (rIsi K) from call_isi) (by rfl) T.z_isinstance (by decide +kernel) (pa_cons (pv 0) (pa_cons (pe_bltn (v := .ty "tuple") (u := .type "tuple") (by rfl) T.z_tuple (by decide +kernel) rfl) pa_nil))) (pe_and (pe_cmpR op_eq (pe_callB (show CallR _ _ (rLenSq K) from call_len_seq) (by rfl) T.z_len (by decide +kernel) (pa_cons (pv 0) pa_nil)) (pe_callB (show CallR _ _ (rLenSq K) from call_len_seq) (by rfl) T.z_len (by decide +kernel) (pa_cons (pv 1) pa_nil)) (nomark _)) (pe_one (pe_callB (show CallR _ _ (rAll K) from cr_all rfl) (by rfl) T.z_all (by decide +kernel) (pa_cons (pe_lc (own := [("_law_x", 2), ("_law_y", 3)]) (g := (gTup K 2 (gCons (gName 2) (gCons (gName 3) gNil)))) rfl nd (show PI _ _ _ (RZ.iZipA K _) from RZ.pi_zipA (by rfl) T.z_zip (pa_cons (pv 0) (pa_cons (pv 1) pa_nil))) (blkOk_by (own := [("_law_x", 2), ("_law_y", 3)]) (N := N_l_same) (sc := defScope s_l_same) (by decide +kernel)) (fun _ _ _ _ _ => by exact (pg_tup rfl (pgs_cons (pg_name (i := 2) nd rfl (Or.inl rfl)) (pgs_cons (pg_name (i := 3) nd rfl (Or.inl rfl)) pgs_nil)))) (fun _ _ _ _ _ => by exact pts_nil) (fun _ _ _ _ _ => by exact (pe_call G_l_same hr (by rfl) T.m_l_same T.F_l_same.kp T.b_l_same .nil pass0 (pa_cons (pv 2) (pa_cons (pv 3) pa_nil))))) pa_nil))))))) pss_nil)
    (pss_cons (ps_if (PW.pt (pw_or (pt_cmpR op_isN (pv 1) pe_non (nomark _)) (pw_or1 (pt_cmpR op_isN (pv 0) pe_non (nomark _))))) (pss_one (ps_ret (pe_and (pe_cmpR op_isN (pv 1) pe_non (nomark _)) (pe_one (pe_cmpR op_isN (pv 0) pe_non (nomark _)))))) pss_nil)
    (pss_cons (ps_if (PW.pt (pw_or (pt_val (pe_callB (show CallR _ _ (rIsi K) from call_isi) (by rfl) T.z_isinstance (by decide +kernel) (pa_cons (pv 1) (pa_cons (pe_bltn (v := .ty "bool") (u := .type "bool") (by rfl) T.z_bool (by decide +kernel) rfl) pa_nil)))) (pw_or1 (pt_val (pe_callB (show CallR _ _ (rIsi K) from call_isi) (by rfl) T.z_isinstance (by decide +kernel) (pa_cons (pv 0) (pa_cons (pe_bltn (v := .ty "bool") (u := .type "bool") (by rfl) T.z_bool (by decide +kernel) rfl) pa_nil))))))) (pss_one (ps_ret (pe_and (pe_callB (show CallR _ _ (rIsi K) from call_isi) (by rfl) T.z_isinstance (by decide +kernel) (pa_cons (pv 1) (pa_cons (pe_bltn (v := .ty "bool") (u := .type "bool") (by rfl) T.z_bool (by decide +kernel) rfl) pa_nil))) (pe_and (pe_callB (show CallR _ _ (rIsi K) from call_isi) (by rfl) T.z_isinstance (by decide +kernel) (pa_cons (pv 0) (pa_cons (pe_bltn (v := .ty "bool") (u := .type "bool") (by rfl) T.z_bool (by decide +kernel) rfl) pa_nil))) (pe_one (pe_cmpR op_eq (pv 0) (pv 1) (nomark _))))))) pss_nil)
    (pss_cons (ps_if (pt_val (pe_callB (show CallR _ _ (rIsi K) from call_isi) (by rfl) T.z_isinstance (by decide +kernel) (pa_cons (pv 1) (pa_cons (pe_bltn (v := .ty "int") (u := .type "int") (by rfl) T.z_int (by decide +kernel) rfl) pa_nil)))) (pss_one (ps_ret (pe_and (pe_callB (show CallR _ _ (rIsi K) from call_isi) (by rfl) T.z_isinstance (by decide +kernel) (pa_cons (pv 0) (pa_cons (pe_bltn (v := .ty "int") (u := .type "int") (by rfl) T.z_int (by decide +kernel) rfl) pa_nil))) (pe_one (pe_cmpR op_eq (pv 0) (pv 1) (nomark _)))))) pss_nil)
    (pss_cons (ps_if (pt_val (pe_callB (show CallR _ _ (rIsi K) from call_isi) (by rfl) T.z_isinstance (by decide +kernel) (pa_cons (pv 1) (pa_cons (pe_bltn (v := .ty "str") (u := .type "str") (by rfl) T.z_str (by decide +kernel) rfl) pa_nil)))) (pss_one (ps_ret (pe_and (pe_callB (show CallR _ _ (rIsi K) from call_isi) (by rfl) T.z_isinstance (by decide +kernel) (pa_cons (pv 0) (pa_cons (pe_bltn (v := .ty "str") (u := .type "str") (by rfl) T.z_str (by decide +kernel) rfl) pa_nil))) (pe_one (pe_cmpR op_eq (pv 0) (pv 1) (nomark _)))))) pss_nil)
    (pss_one (ps_ret (pe_and (pe_not (pe_callB (show CallR _ _ (rIsiT K) from call_isiT) (by rfl) T.z_isinstance (by decide +kernel) (pa_cons (pv 0) (pa_cons (pe_tup (pa_cons (pe_bltn (v := .ty "int") (u := .type "int") (by rfl) T.z_int (by decide +kernel) rfl) (pa_cons (pe_bltn (v := .ty "str") (u := .type "str") (by rfl) T.z_str (by decide +kernel) rfl) (pa_cons (pe_bltn (v := .ty "list") (u := .type "list") (by rfl) T.z_list (by decide +kernel) rfl) (pa_cons (pe_bltn (v := .ty "tuple") (u := .type "tuple") (by rfl) T.z_tuple (by decide +kernel) rfl) pa_nil))))) pa_nil)))) (pe_one (pe_cmpR op_eq (pv 0) (pv 1) (nomark _)))))))))))), ?_⟩
  cases hd with
  | int i =>
    walk_at "gt"
    rw [decide_eq_true rfl]
    exact q H (Same.refl H)
  | bl b =>
    walk_at "gt"
    rw [decide_eq_true rfl]
    exact q H (Same.refl H)
  | str x =>
    walk_at "gt"
    rw [decide_eq_true rfl]
    exact q H (Same.refl H)
  | non =>
    walk_at "gt"
    rw [decide_eq_true rfl]
    exact q H (Same.refl H)
  | @lst n a b xs ys h1 h2 hlen hl he =>
    walk_at "gt"
    refine ite_dec (by rw [hl]) ?_
    refine ⟨_, rfl, _, rfl, a, b, xs, ys, rfl, .inl ⟨h1, h2, fun D hD => ?_⟩⟩
    refine lcm (walk_zip (n := xs.length) (by omega)) (List.replicate xs.length (V.bl true)) (by simp) hlen hD (fun H' s => ⟨s.seq h1, s.seq h2⟩) ?_ ?_
    · rintro i y x H1 H2 hi hy s1 ⟨Tp, u, z, rfl, hT, rfl, hu, hz⟩ k hk
      obtain rfl := rep_get hy
      have s2 : Same H1 (upd H1 Tp (.tup [u, z])) := Same.new hT
      refine ⟨Tp, [u, z], rfl, SqT.of upd_same, rfl, u, [z], rfl, z, [], rfl, rfl, rfl, ?_⟩
      exact ⟨_, rfl, _, rfl, n, u, z, rfl, by omega, (he i u z hu hz).same (s1.trans s2), fun H4 s4 => hk H4 (s2.trans s4)⟩
    · intro H' s1 hD'
      refine ⟨D, List.replicate xs.length true, rfl, SqL.of (by rw [hD', List.map_replicate]), ?_⟩
      rw [all_rep]
      exact q H' s1
  | @tup n a b xs ys h1 h2 hlen hl he =>
    walk_at "gt"
    refine ite_dec (by rw [hl]) ?_
    refine ⟨_, rfl, _, rfl, a, b, xs, ys, rfl, .inr ⟨h1, h2, fun D hD => ?_⟩⟩
    refine lcm (walk_zipT (n := xs.length) (by omega)) (List.replicate xs.length (V.bl true)) (by simp) hlen hD (fun H' s => ⟨seqT s h1, seqT s h2⟩) ?_ ?_
    · rintro i y x H1 H2 hi hy s1 ⟨Tp, u, z, rfl, hT, rfl, hu, hz⟩ k hk
      obtain rfl := rep_get hy
      have s2 : Same H1 (upd H1 Tp (.tup [u, z])) := Same.new hT
      refine ⟨Tp, [u, z], rfl, SqT.of upd_same, rfl, u, [z], rfl, z, [], rfl, rfl, rfl, ?_⟩
      exact ⟨_, rfl, _, rfl, n, u, z, rfl, by omega, (he i u z hu hz).same (s1.trans s2), fun H4 s4 => hk H4 (s2.trans s4)⟩
    · intro H' s1 hD'
      refine ⟨D, List.replicate xs.length true, rfl, SqL.of (by rw [hD', List.map_replicate]), ?_⟩
      rw [all_rep]
      exact q H' s1
theorem ok_same (T : Tx K mg) : ∀ m : Nat, FnOk P w K mg base CX0 m T.f_l_same T.d_l_same ["_law_found", "_law_due"] (spSame K m)
  | 0 => by
    have no : ∀ vs H Q E, ¬ spSame K 0 vs H Q E := fun vs H Q E h => by
      obtain ⟨n, x, y, _, h1, _⟩ := h
      omega
    exact ⟨fun vs H Q E h => absurd h (no vs H Q E), fun A outer s H args us vs Q E _ _ _ _ h => absurd h (no vs H Q E)⟩
  | m + 1 => ok_same_step T (ok_same T m)
end
end TL
namespace TL
open PySem L2

/-! ### steps of a reading -/
local macro_rules | `(tactic| walk_at "hp") => `(tactic| first | assumption | exact upd_same | (refine (upd_ne (by first | assumption | (exact Ne.symm (by assumption)))).trans ?_; walk_at "hp"))
local macro_rules | `(tactic| walk_at "ok") => `(tactic| first | (exact Or.inr ⟨by decide, by decide⟩) | (exact ⟨by decide, by decide⟩) | (exact ⟨by decide, by decide, by decide⟩) | (show _ ≠ _; omega) | (show _ ≠ _; decide) | (exact Or.inl ⟨by omega, by omega⟩) | decide)
local macro_rules | `(tactic| walk_at "sq") => `(tactic| first | assumption | exact SqL.of (by walk_at "hp") | exact SqT.of (by walk_at "hp"))
local macro_rules | `(tactic| walk_at "ty") => `(tactic| first | refine ⟨_, _, Value.type "int", Value.type "list", false, rfl, ClsV.ty _, TyX.base (TyOf.int _), kt_int_list, ?_⟩ | refine ⟨_, _, Value.type "bool", Value.type "list", false, rfl, ClsV.ty _, TyX.base (TyOf.bl _), kt_bool_list, ?_⟩ | refine ⟨_, _, Value.type "str", Value.type "list", false, rfl, ClsV.ty _, TyX.base (TyOf.str _), kt_str_list, ?_⟩ | refine ⟨_, _, Value.type "NoneType", Value.type "list", false, rfl, ClsV.ty _, TyX.base TyOf.non, kt_NoneType_list, ?_⟩ | refine ⟨_, _, Value.type "list", Value.type "list", true, rfl, ClsV.ty _, tyx_L (by walk_at "sq"), kt_list_list, ?_⟩ | refine ⟨_, _, Value.type "tuple", Value.type "list", false, rfl, ClsV.ty _, tyx_T (by walk_at "sq"), kt_tuple_list, ?_⟩ | refine ⟨_, _, Value.type "int", Value.type "tuple", false, rfl, ClsV.ty _, TyX.base (TyOf.int _), kt_int_tuple, ?_⟩ | refine ⟨_, _, Value.type "bool", Value.type "tuple", false, rfl, ClsV.ty _, TyX.base (TyOf.bl _), kt_bool_tuple, ?_⟩ | refine ⟨_, _, Value.type "str", Value.type "tuple", false, rfl, ClsV.ty _, TyX.base (TyOf.str _), kt_str_tuple, ?_⟩ | refine ⟨_, _, Value.type "NoneType", Value.type "tuple", false, rfl, ClsV.ty _, TyX.base TyOf.non, kt_NoneType_tuple, ?_⟩ | refine ⟨_, _, Value.type "list", Value.type "tuple", false, rfl, ClsV.ty _, tyx_L (by walk_at "sq"), kt_list_tuple, ?_⟩ | refine ⟨_, _, Value.type "tuple", Value.type "tuple", true, rfl, ClsV.ty _, tyx_T (by walk_at "sq"), kt_tuple_tuple, ?_⟩ | refine ⟨_, _, Value.type "int", Value.type "bool", false, rfl, ClsV.ty _, TyX.base (TyOf.int _), kt_int_bool, ?_⟩ | refine ⟨_, _, Value.type "bool", Value.type "bool", true, rfl, ClsV.ty _, TyX.base (TyOf.bl _), kt_bool_bool, ?_⟩ | refine ⟨_, _, Value.type "str", Value.type "bool", false, rfl, ClsV.ty _, TyX.base (TyOf.str _), kt_str_bool, ?_⟩ | refine ⟨_, _, Value.type "NoneType", Value.type "bool", false, rfl, ClsV.ty _, TyX.base TyOf.non, kt_NoneType_bool, ?_⟩ | refine ⟨_, _, Value.type "list", Value.type "bool", false, rfl, ClsV.ty _, tyx_L (by walk_at "sq"), kt_list_bool, ?_⟩ | refine ⟨_, _, Value.type "tuple", Value.type "bool", false, rfl, ClsV.ty _, tyx_T (by walk_at "sq"), kt_tuple_bool, ?_⟩ | refine ⟨_, _, Value.type "int", Value.type "int", true, rfl, ClsV.ty _, TyX.base (TyOf.int _), kt_int_int, ?_⟩ | refine ⟨_, _, Value.type "bool", Value.type "int", true, rfl, ClsV.ty _, TyX.base (TyOf.bl _), kt_bool_int, ?_⟩ | refine ⟨_, _, Value.type "str", Value.type "int", false, rfl, ClsV.ty _, TyX.base (TyOf.str _), kt_str_int, ?_⟩ | refine ⟨_, _, Value.type "NoneType", Value.type "int", false, rfl, ClsV.ty _, TyX.base TyOf.non, kt_NoneType_int, ?_⟩ | refine ⟨_, _, Value.type "list", Value.type "int", false, rfl, ClsV.ty _, tyx_L (by walk_at "sq"), kt_list_int, ?_⟩ | refine ⟨_, _, Value.type "tuple", Value.type "int", false, rfl, ClsV.ty _, tyx_T (by walk_at "sq"), kt_tuple_int, ?_⟩ | refine ⟨_, _, Value.type "int", Value.type "str", false, rfl, ClsV.ty _, TyX.base (TyOf.int _), kt_int_str, ?_⟩ | refine ⟨_, _, Value.type "bool", Value.type "str", false, rfl, ClsV.ty _, TyX.base (TyOf.bl _), kt_bool_str, ?_⟩ | refine ⟨_, _, Value.type "str", Value.type "str", true, rfl, ClsV.ty _, TyX.base (TyOf.str _), kt_str_str, ?_⟩ | refine ⟨_, _, Value.type "NoneType", Value.type "str", false, rfl, ClsV.ty _, TyX.base TyOf.non, kt_NoneType_str, ?_⟩ | refine ⟨_, _, Value.type "list", Value.type "str", false, rfl, ClsV.ty _, tyx_L (by walk_at "sq"), kt_list_str, ?_⟩ | refine ⟨_, _, Value.type "tuple", Value.type "str", false, rfl, ClsV.ty _, tyx_T (by walk_at "sq"), kt_tuple_str, ?_⟩)
local macro_rules | `(tactic| walk_at "go1") => `(tactic| first
  | (refine ⟨_, rfl, ?_⟩)
  | (refine ⟨_, _, rfl, rfl, ?_⟩)
  | (refine ⟨_, _, _, _, rfl, rfl, SqL.of (by walk_at "hp"), rfl, ?_⟩)
  | (refine Or.inl ⟨_, rfl, ?_⟩)
  | (refine ⟨rfl, ?_⟩)
  | (refine ⟨_, _, rfl, .inl (SqL.of (by walk_at "hp")), ?_⟩)
  | (refine ⟨_, _, rfl, Or.inl (by assumption), ?_⟩)
  | (refine ⟨_, _, rfl, Or.inr (by assumption), ?_⟩)
  | (refine ⟨(by walk_at "ok"), ?_⟩)
  | (refine ⟨_, _, _, _, rfl, rfl, (by walk_at "hp"), rfl, ?_⟩))
local macro_rules | `(tactic| walk_at "go") => `(tactic| repeat (walk_at "go1"))
local macro_rules | `(tactic| walk_at "gt") => `(tactic| repeat (first | walk_at "go1" | walk_at "ty"))

section
variable {P : Program} {w : World} {K : PySem.W.Frag} {mg : Str → Option Value} {base : Heap}
theorem d_fdiv : PySem.dunder Operator.FloorDiv.info.2 = ("__floordiv__" : Str) := by decide +kernel
theorem o_rmul (T : Tx K mg) : OpAt K T.C_Ratio T.f_Ratio_mul (PySem.dunder Operator.Mult.info.2) := ⟨T.sfR, by rw [d_mul]; exact T.a_Ratio_mul.at_, T.a_Ratio_mul.fn⟩
theorem ints_of2 {R : Int → Prop} : ∀ ys : List V, (∀ y ∈ ys, ∃ d, y = V.int d ∧ R d) → ∃ ns : List Int, ys = ns.map V.int ∧ ns.length = ys.length ∧ ∀ d ∈ ns, R d
  | [], _ => ⟨[], rfl, rfl, fun d h => by cases h⟩
  | y :: ys, h => by
    obtain ⟨d, rfl, hd⟩ := h y List.mem_cons_self
    obtain ⟨ns, rfl, h2, h3⟩ := ints_of2 ys fun z hz => h z (List.mem_cons_of_mem _ hz)
    refine ⟨d :: ns, rfl, by simp, fun e he => ?_⟩
    rcases List.mem_cons.mp he with q | q
    · rw [q]
      exact hd
    · exact h3 e q
def EvR (K : PySem.W.Frag) (C : Addr) (te : TE) (σ : L2.St) (H : Hp) (e : List Int) : Prop := ∀ H1, Same H H1 → ∀ Q : VK, (∀ p H2, Same H1 H2 → RAt K C H2 p e → Q (.ref p) H2) → te σ H1 Q
def EvT (K : PySem.W.Frag) (te : TE) (σ : L2.St) (H : Hp) (e : List Int) : Prop := ∀ H1, Same H H1 → ∀ Q : VK, (∀ p H2, Same H1 H2 → TAt K H2 p e → Q (.ref p) H2) → te σ H1 Q
def TasI (K : PySem.W.Frag) (H : Hp) (ps : List V) (es : List (List Int)) : Prop := ps.length = es.length ∧ ∀ (i : Nat) p, ps[i]? = some p → ∃ t e, p = .ref t ∧ es[i]? = some e ∧ TAt K H t e
def EvRs (K : PySem.W.Frag) (C : Addr) (ta : TA) (σ : L2.St) (H : Hp) (es : List (List Int)) : Prop := ∀ H1, Same H H1 → ∀ Q : List V → Hp → Prop, (∀ ps H2, Same H1 H2 → Ras K C H2 ps es → Q ps H2) → ta σ H1 Q
def EvTI (K : PySem.W.Frag) (ta : TA) (σ : L2.St) (H : Hp) (es : List (List Int)) : Prop := ∀ H1, Same H H1 → ∀ Q : List V → Hp → Prop, (∀ ps H2, Same H1 H2 → TasI K H2 ps es → Q ps H2) → ta σ H1 Q
section
variable {C : Addr} {σ : L2.St} {H : Hp} {ta tb te : TE} {x y : List Int} {E : XK}
theorem er_var {i : Nat} {p : Addr} (h : σ[i]? = some (some (.ref p))) (hw : RAt K C H p x) : EvR K C (tVar i) σ H x := fun H1 s Q q => ⟨_, h, q p H1 (Same.refl _) (hw.same s)⟩
theorem er_op {f : List Int → List Int → List Int} (ha : EvR K C ta σ H x) (hb : EvR K C tb σ H y) (h1 : up (f x y) < 2 ^ 100000) (h2 : dn (f x y) < 2 ^ 100000) : EvR K C (tOp (rOw C (spR2 K C f) E) ta tb) σ H (f x y) := fun H1 s1 Q q =>
  ha H1 s1 _ fun p H2 s2 hp => hb H2 (s1.trans s2) _ fun r H3 s3 hr => by
    have hp3 := hp.same s3
    obtain ⟨dx, _, e, _⟩ := hp3.ex
    obtain ⟨dy, _, g, _⟩ := hr.ex
    exact ⟨p, dx, _, r, dy, _, rfl, rfl, e, g, p, r, x, y, rfl, hp3, hr, h1, h2, fun t H4 s4 ht => q t H4 ((s2.trans s3).trans s4) ht⟩
theorem er_one : EvR K C (tMake C (spRInit K C) [.int 1] E (tCons (tC (.int 1)) tNil)) σ H (List.replicate 6 0) := fun H1 s1 Q q => by
  refine fun x dx nx ndx nex => ⟨x, dx, 1, List.replicate 6 0, rfl, upd_same, by decide, by decide, rfl, fun H2 r2 kp => ⟨rfl, ?_⟩⟩
  have s0 : Same H1 (upd (upd H1 dx (.own x)) x (.ins C dx [])) := fun b o e => by
    rw [upd_ne (ne_of_none e nx), upd_ne (ne_of_none e ndx)]
    exact e
  exact q x H2 (fun b o e => kp b o (s0 b o e) (ne_of_none e nx)) r2
theorem ers_nil : EvRs K C tNil σ H [] := fun H1 s Q q => q [] H1 (Same.refl _) ⟨rfl, fun i p h => by cases h⟩
theorem ers_cons {tr : TA} {es : List (List Int)} (h : EvR K C te σ H x) (hr : EvRs K C tr σ H es) : EvRs K C (tCons te tr) σ H (x :: es) := fun H1 s1 Q q =>
  h H1 s1 _ fun p H2 s2 hp => hr H2 (s1.trans s2) _ fun ps H3 s3 hps => q (.ref p :: ps) H3 (s2.trans s3) ⟨by simp [hps.1], fun i r hr' => by
    match i, hr' with
    | 0, hr' => cases hr'; exact ⟨p, x, rfl, rfl, hp.same s3⟩
    | i + 1, hr' => exact hps.2 i r hr'⟩
theorem et_var {i : Nat} {p : Addr} (h : σ[i]? = some (some (.ref p))) (hw : TAt K H p x) : EvT K (tVar i) σ H x := fun H1 s Q q => ⟨_, h, q p H1 (Same.refl _) (hw.same s)⟩
theorem et_op {f : List Int → List Int → List Int} {i j : Nat} {p r : Addr} (hi : σ[i]? = some (some (.ref p))) (hj : σ[j]? = some (some (.ref r))) (hx : TAt K H p x) (hy : TAt K H r y) (fx : Fit x) (fy : Fit y) : EvT K (tCall (spL2 K f) [] E (tCons (tVar i) (tCons (tVar j) tNil))) σ H (f x y) := fun H1 s1 Q q =>
  ⟨_, hi, _, hj, p, r, x, y, rfl, hx.same s1, hy.same s1, fx, fy, fun t H2 s2 ht => q t H2 s2 ht⟩
theorem et_flip {i : Nat} {p : Addr} (hi : σ[i]? = some (some (.ref p))) (hx : TAt K H p x) : EvT K (tTup (tCons (tOp (rIxT K) (tVar i) (tC (.int 1))) (tCons (tOp (rIxT K) (tVar i) (tC (.int 0))) tNil))) σ H (negE x) := fun H1 s1 Q q => by
  have h1 := hx.same s1
  refine ⟨_, hi, _, _, _, _, rfl, rfl, h1.ex, rfl, _, hi, _, _, _, _, rfl, rfl, h1.ex, rfl, (by show 2 ≤ sizeLine; decide), fun p hp => ?_⟩
  exact q p _ (Same.new hp) ⟨SqT.of (by rw [up_neg, dn_neg]; exact upd_same), by simpa [negE] using hx.len⟩
theorem eti_nil : EvTI K tNil σ H [] := fun H1 s Q q => q [] H1 (Same.refl _) ⟨rfl, fun i p h => by cases h⟩
theorem TasI.same {H' : Hp} {ps : List V} {es : List (List Int)} (h : TasI K H ps es) (s : Same H H') : TasI K H' ps es := ⟨h.1, fun i p hp => by
  obtain ⟨t, e, e1, e2, e3⟩ := h.2 i p hp
  exact ⟨t, e, e1, e2, e3.same s⟩⟩
theorem Ras.same {H' : Hp} {ps : List V} {es : List (List Int)} (h : Ras K C H ps es) (s : Same H H') : Ras K C H' ps es := ⟨h.1, fun i p hp => by
  obtain ⟨t, e, e1, e2, e3⟩ := h.2 i p hp
  exact ⟨t, e, e1, e2, e3.same s⟩⟩
theorem eti_cons {tr : TA} {es : List (List Int)} (h : EvT K te σ H x) (hr : EvTI K tr σ H es) : EvTI K (tCons te tr) σ H (x :: es) := fun H1 s1 Q q =>
  h H1 s1 _ fun p H2 s2 hp => hr H2 (s1.trans s2) _ fun ps H3 s3 hps => q (.ref p :: ps) H3 (s2.trans s3) ⟨by simp [hps.1], fun i r hr' => by
    match i, hr' with
    | 0, hr' => cases hr'; exact ⟨p, x, rfl, rfl, hp.same s3⟩
    | i + 1, hr' => exact hps.2 i r hr'⟩
theorem seen_set {rest : TS} {D : Ends} {i : Nat} {ts : TA} {es : List (List Int)} (h : EvRs K C ts σ H es) (hz : es.length ≤ 1000) (k : ∀ qs p H', Same H H' → Iss K H' qs es → H' p = some (.lst qs) → rest D (σ.set i (some (.ref p))) H') :
    tSeq (tAsg (tCall (spSeen1 K C) [] E (tCons (tLst ts) tNil)) (gName i)) rest D σ H :=
  h H (Same.refl _) _ fun ps H1 s1 hw => ⟨by rw [hw.1]; exact Nat.le_of_lt (Nat.lt_of_le_of_lt hz (by decide)), fun p hp =>
    have s2 := Same.new (o := .lst ps) hp
    ⟨p, ps, es, rfl, SqL.of upd_same, hw.same s2, hz, fun t qs H' s3 ht hi => k qs t H' ((s1.trans s2).trans s3) hi ht⟩⟩
theorem fr_set {rest : TS} {D : Ends} {i : Nat} {ts : TA} {es : List (List Int)} (h : EvTI K ts σ H es) (hz : es.length ≤ 1000) (k : ∀ qs p H', Same H H' → TasI K H' qs es → H' p = some (.lst qs) → rest D (σ.set i (some (.ref p))) H') :
    tSeq (tAsg (tLst ts) (gName i)) rest D σ H :=
  h H (Same.refl _) _ fun ps H1 s1 hw => ⟨by rw [hw.1]; exact Nat.le_of_lt (Nat.lt_of_le_of_lt hz (by decide)), fun p hp =>
    have s2 := Same.new (o := .lst ps) hp
    k ps p _ (s1.trans s2) (hw.same s2) upd_same⟩
theorem is_deq {t t' : Addr} {e : List Int} {n : Nat} (h : IsAt K H t e) (h' : IsAt K H t' e) : DEq K H (n + 1) (.ref t) (.ref t') := .tup h h' (by show 3 ≤ 100000; decide) rfl fun i u v hu hv => by
  match i, hu, hv with
  | 0, hu, hv => cases hu; cases hv; exact .str _
  | 1, hu, hv => cases hu; cases hv; exact .int _
  | 2, hu, hv => cases hu; cases hv; exact .int _
theorem iss_deq {a b : Addr} {ps qs : List V} {es : List (List Int)} {n : Nat} (ha : SqL K H a ps) (hb : SqL K H b qs) (h : Iss K H ps es) (h' : Iss K H qs es) (hz : es.length ≤ 1000) : DEq K H (n + 2) (.ref a) (.ref b) :=
  .lst ha hb (by rw [h.1]; omega) (by rw [h.1, h'.1]) fun i u v hu hv => by
    obtain ⟨t, e, rfl, e1, e2⟩ := h.2 i u hu
    obtain ⟨t', e', rfl, g1, g2⟩ := h'.2 i v hv
    obtain rfl : e = e' := Option.some.inj (e1.symm.trans g1)
    exact is_deq e2 g2
end
end
end TL
namespace TL
open PySem L2

/-! ### steps of a reading -/
local macro_rules | `(tactic| walk_at "hp") => `(tactic| first | assumption | exact upd_same | (refine (upd_ne (by first | assumption | (exact Ne.symm (by assumption)))).trans ?_; walk_at "hp"))
local macro_rules | `(tactic| walk_at "ok") => `(tactic| first | (exact Or.inr ⟨by decide, by decide⟩) | (exact ⟨by decide, by decide⟩) | (exact ⟨by decide, by decide, by decide⟩) | (show _ ≠ _; omega) | (show _ ≠ _; decide) | (exact Or.inl ⟨by omega, by omega⟩) | decide)
local macro_rules | `(tactic| walk_at "sq") => `(tactic| first | assumption | exact SqL.of (by walk_at "hp") | exact SqT.of (by walk_at "hp"))
local macro_rules | `(tactic| walk_at "ty") => `(tactic| first | refine ⟨_, _, Value.type "int", Value.type "list", false, rfl, ClsV.ty _, TyX.base (TyOf.int _), kt_int_list, ?_⟩ | refine ⟨_, _, Value.type "bool", Value.type "list", false, rfl, ClsV.ty _, TyX.base (TyOf.bl _), kt_bool_list, ?_⟩ | refine ⟨_, _, Value.type "str", Value.type "list", false, rfl, ClsV.ty _, TyX.base (TyOf.str _), kt_str_list, ?_⟩ | refine ⟨_, _, Value.type "NoneType", Value.type "list", false, rfl, ClsV.ty _, TyX.base TyOf.non, kt_NoneType_list, ?_⟩ | refine ⟨_, _, Value.type "list", Value.type "list", true, rfl, ClsV.ty _, tyx_L (by walk_at "sq"), kt_list_list, ?_⟩ | refine ⟨_, _, Value.type "tuple", Value.type "list", false, rfl, ClsV.ty _, tyx_T (by walk_at "sq"), kt_tuple_list, ?_⟩ | refine ⟨_, _, Value.type "int", Value.type "tuple", false, rfl, ClsV.ty _, TyX.base (TyOf.int _), kt_int_tuple, ?_⟩ | refine ⟨_, _, Value.type "bool", Value.type "tuple", false, rfl, ClsV.ty _, TyX.base (TyOf.bl _), kt_bool_tuple, ?_⟩ | refine ⟨_, _, Value.type "str", Value.type "tuple", false, rfl, ClsV.ty _, TyX.base (TyOf.str _), kt_str_tuple, ?_⟩ | refine ⟨_, _, Value.type "NoneType", Value.type "tuple", false, rfl, ClsV.ty _, TyX.base TyOf.non, kt_NoneType_tuple, ?_⟩ | refine ⟨_, _, Value.type "list", Value.type "tuple", false, rfl, ClsV.ty _, tyx_L (by walk_at "sq"), kt_list_tuple, ?_⟩ | refine ⟨_, _, Value.type "tuple", Value.type "tuple", true, rfl, ClsV.ty _, tyx_T (by walk_at "sq"), kt_tuple_tuple, ?_⟩ | refine ⟨_, _, Value.type "int", Value.type "bool", false, rfl, ClsV.ty _, TyX.base (TyOf.int _), kt_int_bool, ?_⟩ | refine ⟨_, _, Value.type "bool", Value.type "bool", true, rfl, ClsV.ty _, TyX.base (TyOf.bl _), kt_bool_bool, ?_⟩ | refine ⟨_, _, Value.type "str", Value.type "bool", false, rfl, ClsV.ty _, TyX.base (TyOf.str _), kt_str_bool, ?_⟩ | refine ⟨_, _, Value.type "NoneType", Value.type "bool", false, rfl, ClsV.ty _, TyX.base TyOf.non, kt_NoneType_bool, ?_⟩ | refine ⟨_, _, Value.type "list", Value.type "bool", false, rfl, ClsV.ty _, tyx_L (by walk_at "sq"), kt_list_bool, ?_⟩ | refine ⟨_, _, Value.type "tuple", Value.type "bool", false, rfl, ClsV.ty _, tyx_T (by walk_at "sq"), kt_tuple_bool, ?_⟩ | refine ⟨_, _, Value.type "int", Value.type "int", true, rfl, ClsV.ty _, TyX.base (TyOf.int _), kt_int_int, ?_⟩ | refine ⟨_, _, Value.type "bool", Value.type "int", true, rfl, ClsV.ty _, TyX.base (TyOf.bl _), kt_bool_int, ?_⟩ | refine ⟨_, _, Value.type "str", Value.type "int", false, rfl, ClsV.ty _, TyX.base (TyOf.str _), kt_str_int, ?_⟩ | refine ⟨_, _, Value.type "NoneType", Value.type "int", false, rfl, ClsV.ty _, TyX.base TyOf.non, kt_NoneType_int, ?_⟩ | refine ⟨_, _, Value.type "list", Value.type "int", false, rfl, ClsV.ty _, tyx_L (by walk_at "sq"), kt_list_int, ?_⟩ | refine ⟨_, _, Value.type "tuple", Value.type "int", false, rfl, ClsV.ty _, tyx_T (by walk_at "sq"), kt_tuple_int, ?_⟩ | refine ⟨_, _, Value.type "int", Value.type "str", false, rfl, ClsV.ty _, TyX.base (TyOf.int _), kt_int_str, ?_⟩ | refine ⟨_, _, Value.type "bool", Value.type "str", false, rfl, ClsV.ty _, TyX.base (TyOf.bl _), kt_bool_str, ?_⟩ | refine ⟨_, _, Value.type "str", Value.type "str", true, rfl, ClsV.ty _, TyX.base (TyOf.str _), kt_str_str, ?_⟩ | refine ⟨_, _, Value.type "NoneType", Value.type "str", false, rfl, ClsV.ty _, TyX.base TyOf.non, kt_NoneType_str, ?_⟩ | refine ⟨_, _, Value.type "list", Value.type "str", false, rfl, ClsV.ty _, tyx_L (by walk_at "sq"), kt_list_str, ?_⟩ | refine ⟨_, _, Value.type "tuple", Value.type "str", false, rfl, ClsV.ty _, tyx_T (by walk_at "sq"), kt_tuple_str, ?_⟩)
local macro_rules | `(tactic| walk_at "go1") => `(tactic| first
  | (refine ⟨_, rfl, ?_⟩)
  | (refine ⟨_, _, rfl, rfl, ?_⟩)
  | (refine ⟨_, _, _, _, rfl, rfl, SqL.of (by walk_at "hp"), rfl, ?_⟩)
  | (refine Or.inl ⟨_, rfl, ?_⟩)
  | (refine ⟨rfl, ?_⟩)
  | (refine ⟨_, _, rfl, .inl (SqL.of (by walk_at "hp")), ?_⟩)
  | (refine ⟨_, _, rfl, Or.inl (by assumption), ?_⟩)
  | (refine ⟨_, _, rfl, Or.inr (by assumption), ?_⟩)
  | (refine ⟨(by walk_at "ok"), ?_⟩)
  | (refine ⟨_, _, _, _, rfl, rfl, (by walk_at "hp"), rfl, ?_⟩))
local macro_rules | `(tactic| walk_at "go") => `(tactic| repeat (walk_at "go1"))
local macro_rules | `(tactic| walk_at "gt") => `(tactic| repeat (first | walk_at "go1" | walk_at "ty"))

section
variable {P : Program} {w : World} {K : PySem.W.Frag} {mg : Str → Option Value} {base : Heap}
/-! ### tones -/
def spToneOf (K : PySem.W.Frag) : Sp := fun vs H Q _ => ∃ (x : Fr), vs = [.int (x.1 : Int), .int (x.2 : Int)] ∧ Bn 8001 x ∧ ∀ t H', Same H H' → PT K H' t (lowP x) → Q (.ref t) H'
theorem ok_tone_of (T : Tx K mg) : FnOk P w K mg base CX0 1 T.f_tone_of T.d_tone_of ["over", "under"] (spToneOf K) := by
  refine T.F_tone_of.ok sc_tone_of (fun vs H Q E h => ?_) (fun cdv A outer s H vs Q E hr h => ?_)
  · obtain ⟨x, rfl, _⟩ := h
    rfl
  obtain ⟨⟨a, b⟩, rfl, ⟨ha, hb, pa, pb⟩, q⟩ := h
  dsimp only at ha hb pa pb
  have nd := sc_tone_of.nd
  refine ⟨_, (pss_cons (ps_set (i := 2) nd rfl (Or.inl rfl) (pe_callBfun cr_gcd (by rfl) T.m_gcd (pa_cons (pv 0) (pa_cons (pv 1) pa_nil))))
    (pss_one (ps_ret (pe_tup (pa_cons (pe_op op_fdivW (pv 0) (pv 2)) (pa_cons (pe_op op_fdivW (pv 1) (pv 2)) pa_nil)))))), ?_⟩
  have hg : 0 < Nat.gcd a b := Nat.gcd_pos_of_pos_left _ pa
  have hg2 : Nat.gcd a b < 2 ^ 8001 := Nat.lt_of_le_of_lt (Nat.gcd_le_left _ pa) ha
  have hm0 : (0 : Int) < ((Nat.gcd a b : Nat) : Int) := by omega
  have hW : ∀ i : Int, CDivW i ((Nat.gcd a b : Nat) : Int) := fun i => wide_div hm0 (by rw [Int.natAbs_natCast]; exact hg2) (by decide) (by decide)
  refine ⟨_, rfl, _, rfl, _, _, rfl, ?_⟩
  refine ⟨_, rfl, _, rfl, _, _, rfl, rfl, hW _, _, rfl, _, rfl, _, _, rfl, rfl, hW _, (by show 2 ≤ sizeLine; decide), fun t ht => q t _ (Same.new ht) (SqT.of ?_)⟩
  rw [upd_same, lowP]
  rfl
def spLed (K : PySem.W.Frag) (C : Addr) : Sp := fun vs H Q _ => ∃ (p r : Addr) (y : Fr) (x : List Int), vs = [.ref p, .ref r] ∧ PT K H p y ∧ RAt K C H r x ∧ Bn 4000 y ∧ Fit x ∧ ∀ t H', Same H H' → PT K H' t (lowP (y.1 * up x, y.2 * dn x)) → Q (.ref t) H'
theorem ok_led (T : Tx K mg) : FnOk P w K mg base CX0 2 T.f_led T.d_led ["tone", "ratio"] (spLed K T.C_Ratio) := by
  have G_tone_of := ok_tone_of (P := P) (w := w) (base := base) T
  refine T.F_led.ok sc_led (fun vs H Q E h => ?_) (fun cdv A outer s H vs Q E hr h => ?_)
  · obtain ⟨p, r, y, x, rfl, _⟩ := h
    rfl
  obtain ⟨p, r, y, x, rfl, hy, hx, by', fx, q⟩ := h
  obtain ⟨dx, t, e1, e2⟩ := hx.ex
  refine ⟨_, (pss_one (ps_ret (pe_call G_tone_of hr (by rfl) T.m_tone_of T.F_tone_of.kp T.b_tone_of .nil pass0 (pa_cons (pe_op op_mulW (pe_ix (show IxR _ (rIxT K) from ix_tup) (pv 0) pe_int (fun _ _ => rfl)) (show PE _ _ (tFld K _ _) from pe_fld (pv 1) rfl)) (pa_cons (pe_op op_mulW (pe_ix (show IxR _ (rIxT K) from ix_tup) (pv 0) pe_int (fun _ _ => rfl)) (show PE _ _ (tFld K _ _) from pe_fld (pv 1) rfl)) pa_nil))))), ?_⟩
  refine ⟨_, rfl, _, _, _, _, rfl, rfl, hy, rfl, _, rfl, r, _, _, _, _, rfl, e1, T.c_Ratio, T.n_Ratio_over, rf_o _ _ _, _, _, rfl, rfl, wide_mul (nb4 by'.a) (nb4 fx.1) (by decide) (by decide) (by decide), ?_⟩
  refine ⟨_, rfl, _, _, _, _, rfl, rfl, hy, rfl, _, rfl, r, _, _, _, _, rfl, e1, T.c_Ratio, T.n_Ratio_under, rf_u _ _ _, _, _, rfl, rfl, wide_mul (nb4 by'.b) (nb4 fx.2) (by decide) (by decide) (by decide), ?_⟩
  exact ⟨(y.1 * up x, y.2 * dn x), rfl, ⟨mul8 by'.a fx.1, mul8 by'.b fx.2, Nat.mul_pos by'.pa (up_pos x), Nat.mul_pos by'.pb (dn_pos x)⟩, q⟩
def cmpP (y x : Fr) : Int := if y.1 * x.2 < y.2 * x.1 then -1 else if y.1 * x.2 > y.2 * x.1 then 1 else 0
def spCompared (K : PySem.W.Frag) (C : Addr) : Sp := fun vs H Q _ => ∃ (p r : Addr) (y : Fr) (x : List Int), vs = [.ref p, .ref r] ∧ PT K H p y ∧ RAt K C H r x ∧ Bn 4000 y ∧ Fit x ∧ Q (.int (cmpP y (up x, dn x))) H
theorem ok_compared (T : Tx K mg) : FnOk P w K mg base CX0 1 T.f_compared T.d_compared ["tone", "ratio"] (spCompared K T.C_Ratio) := by
  refine T.F_compared.ok sc_compared (fun vs H Q E h => ?_) (fun cdv A outer s H vs Q E hr h => ?_)
  · obtain ⟨p, r, y, x, rfl, _⟩ := h
    rfl
  obtain ⟨p, r, y, x, rfl, hy, hx, by', fx, q⟩ := h
  obtain ⟨dx, t, e1, e2⟩ := hx.ex
  have nd := sc_compared.nd
  refine ⟨_, (pss_cons (ps_set (i := 2) nd rfl (Or.inl rfl) (pe_op op_mulW (pe_ix (show IxR _ (rIxT K) from ix_tup) (pv 0) pe_int (fun _ _ => rfl)) (show PE _ _ (tFld K _ _) from pe_fld (pv 1) rfl)))
    (pss_cons (ps_set (i := 3) nd rfl (Or.inl rfl) (pe_op op_mulW (pe_ix (show IxR _ (rIxT K) from ix_tup) (pv 0) pe_int (fun _ _ => rfl)) (show PE _ _ (tFld K _ _) from pe_fld (pv 1) rfl)))
    (pss_cons (ps_if (pt_cmpR op_lt (pv 2) (pv 3) (nomark _)) (pss_one (ps_ret (pe_un un_neg pe_int))) pss_nil)
    (pss_one (ps_ret (pe_ifExp (pt_cmpR op_gt (pv 2) (pv 3) (nomark _)) pe_int pe_int)))))), ?_⟩
  refine ⟨_, rfl, _, _, _, _, rfl, rfl, hy, rfl, _, rfl, r, _, _, _, _, rfl, e1, T.c_Ratio, T.n_Ratio_under, rf_u _ _ _, _, _, rfl, rfl, wide_mul (nb4 by'.a) (nb4 fx.2) (by decide) (by decide) (by decide), ?_⟩
  refine ⟨_, rfl, _, _, _, _, rfl, rfl, hy, rfl, _, rfl, r, _, _, _, _, rfl, e1, T.c_Ratio, T.n_Ratio_over, rf_o _ _ _, _, _, rfl, rfl, wide_mul (nb4 by'.b) (nb4 fx.1) (by decide) (by decide) (by decide), ?_⟩
  have c1 : ((((y.1 : Nat) : Int) * ((dn x : Nat) : Int) < ((y.2 : Nat) : Int) * ((up x : Nat) : Int)) ↔ y.1 * dn x < y.2 * up x) := by
    rw [← Int.natCast_mul, ← Int.natCast_mul]
    exact Int.ofNat_lt
  have c2 : ((((y.2 : Nat) : Int) * ((up x : Nat) : Int) < ((y.1 : Nat) : Int) * ((dn x : Nat) : Int)) ↔ y.2 * up x < y.1 * dn x) := by
    rw [← Int.natCast_mul, ← Int.natCast_mul]
    exact Int.ofNat_lt
  refine ⟨_, rfl, _, rfl, _, _, rfl, rfl, _, rfl, ?_⟩
  refine ite2 (fun c => ?_) (fun c => ?_)
  · have h : y.1 * dn x < y.2 * up x := c1.mp (of_decide_eq_true c)
    rw [cmpP, if_pos h] at q
    exact ⟨_, rfl, q⟩
  · have h : ¬ y.1 * dn x < y.2 * up x := fun z => c (decide_eq_true (c1.mpr z))
    rw [cmpP, if_neg h] at q
    refine ⟨_, rfl, _, rfl, _, _, rfl, rfl, _, rfl, ?_⟩
    refine ite2 (fun d => ?_) (fun d => ?_)
    · have h2 : y.1 * dn x > y.2 * up x := c2.mp (of_decide_eq_true d)
      rw [if_pos h2] at q
      exact q
    · have h2 : ¬ y.1 * dn x > y.2 * up x := fun z => d (decide_eq_true (c2.mpr z))
      rw [if_neg h2] at q
      exact q
def spWithin (K : PySem.W.Frag) (C : Addr) : Sp := fun vs H Q _ => ∃ (p r l : Addr) (y : Fr) (x z : List Int), vs = [.ref p, .ref r, .ref l] ∧ PT K H p y ∧ RAt K C H r x ∧ RAt K C H l z ∧ Bn 4000 y ∧ Fit x ∧ Fit (addE x z) ∧ ∀ H', Same H H' → Q (.bl (decide (0 ≤ cmpP y (up x, dn x)) && decide (cmpP y (up (addE x z), dn (addE x z)) < 0))) H'
theorem ok_within (T : Tx K mg) : FnOk P w K mg base CX0 8 T.f_within T.d_within ["tone", "start", "length"] (spWithin K T.C_Ratio) := by
  have G_compared := ok_compared (P := P) (w := w) (base := base) T
  have G_Ratio_mul := ok_rmul (P := P) (w := w) (base := base) T
  refine T.F_within.ok sc_within (fun vs H Q E h => ?_) (fun cdv A outer s H vs Q E hr h => ?_)
  · obtain ⟨p, r, l, y, x, z, rfl, _⟩ := h
    rfl
  obtain ⟨p, r, l, y, x, z, rfl, hy, hx, hz, by', fx, fz, q⟩ := h
  obtain ⟨dx, t, e1, e2⟩ := hx.ex
  obtain ⟨dz, tz, g1, g2⟩ := hz.ex
  have lt : ∀ {u : Nat}, u < 2 ^ 4000 → u < 2 ^ 100000 := fun h => Nat.lt_trans h (Nat.pow_lt_pow_right (by decide) (by decide))
  refine ⟨_, (pss_one (ps_ret (pe_and (pe_cmpR op_ge (pe_call G_compared (hr.mono (by decide)) (by rfl) T.m_compared T.F_compared.kp T.b_compared .nil pass0 (pa_cons (pv 0) (pa_cons (pv 1) pa_nil))) pe_int (nomark _)) (pe_one (pe_cmpR op_lt (pe_call G_compared (hr.mono (by decide)) (by rfl) T.m_compared T.F_compared.kp T.b_compared .nil pass0 (pa_cons (pv 0) (pa_cons (pe_op (op_ow (op := .Mult) (o_rmul T) G_Ratio_mul hr T.b_Ratio_mul pass0) (pv 1) (pv 2)) pa_nil))) pe_int (nomark _)))))), ?_⟩
  refine ⟨_, rfl, _, rfl, p, r, y, x, rfl, hy, hx, by', fx, _, _, rfl, rfl, _, rfl, ?_⟩
  refine ite2 (fun c => ?_) (fun c => ?_)
  · have c' : decide (0 ≤ cmpP y (up x, dn x)) = true := c
    rw [c', Bool.true_and] at q
    refine ⟨_, rfl, _, rfl, _, rfl, r, dx, _, l, dz, _, rfl, rfl, e1, g1, r, l, x, z, rfl, hx, hz, lt fz.1, lt fz.2, fun t2 H1 s1 ht2 => ?_⟩
    exact ⟨p, t2, y, addE x z, rfl, hy.same s1, ht2, by', fz, _, _, rfl, rfl, q H1 s1⟩
  · have c' : decide (0 ≤ cmpP y (up x, dn x)) = false := Bool.eq_false_iff.mpr c
    rw [c', Bool.false_and] at q
    exact q H (Same.refl H)
end
end TL
namespace TL
open PySem PySem.Spec PyProof.Rows L2 PySem.W
/-! ### zip of a tuple and a list -/
def ItzN (K : PySem.W.Frag) (a b : Addr) : It :=
  ⟨fun i H => ∃ xs ys x y, SqL K H a xs ∧ SqT K H b ys ∧ xs[i]? = some x ∧ ys[i]? = some y,
    fun i H v H' => ∃ T x y, v = .ref T ∧ H T = none ∧ H' = upd H T (.tup [x, y]) ∧ (∀ xs, SqL K H a xs → xs[i]? = some x) ∧ ∀ ys, SqT K H b ys → ys[i]? = some y,
    fun i H => ∃ xs ys, SqL K H a xs ∧ SqT K H b ys ∧ (xs.length ≤ i ∨ ys.length ≤ i)⟩
theorem turn_zipN {P : Program} {w : World} {K : PySem.W.Frag} {elts : List Expr} {kk : Nat} {tp : Pos} {a b z TI TO i1 i2 : Addr} (S : ZipSep2 z TI TO i1 i2 [i1, a] [i2, b]) :
    Turn P w K (.Tuple elts kk tp) (ItzN K a b) [z, TI, TO, i1, i2] z (fun i h => IsZip h z TI TO .none ∧ IsPair h TI (.ref i1) (.ref i2) ∧ (∃ x y, IsPair h TO x y) ∧ h.IsListIter i1 a i ∧ h.IsTupleIter i2 b i) where
  mem := List.mem_cons_self ..
  obj := fun i h st c hc => by
    obtain ⟨hz, hTI, ⟨x, y, hTO⟩, ⟨o1, e1, _, d1⟩, ⟨o2, e2, _, d2⟩⟩ := st
    simp only [List.mem_cons, List.not_mem_nil, or_false] at hc
    rcases hc with rfl | rfl | rfl | rfl | rfl
    · exact ⟨_, hz, fun v q => nomatch q⟩
    · exact ⟨_, hTI, fun v q => nomatch q⟩
    · exact ⟨_, hTO, fun v q => nomatch q⟩
    · exact ⟨o1, e1, fun v q => by rw [d1] at q; cases q⟩
    · exact ⟨o2, e2, fun v q => by rw [d2] at q; cases q⟩
  keep := fun i h h' st k => by
    obtain ⟨hz, hTI, ⟨x, y, hTO⟩, e1, e2⟩ := st
    exact ⟨k z (by simp) _ hz, k TI (by simp) _ hTI, ⟨x, y, k TO (by simp) _ hTO⟩, e1.at fun o q => k i1 (by simp) o q, e2.at fun o q => k i2 (by simp) o q⟩
  item := by
    intro X hP hw hK hc i pins s σ H E I hf st hg
    subst hP hw hK
    obtain ⟨hz, hTI, ⟨x0, y0, hTO⟩, e1, e2⟩ := st
    obtain ⟨xs, ys, x, y, qx, qy, hx, hy⟩ := hg
    obtain ⟨t1, r1, p1, _⟩ := I.list qx
    obtain ⟨t2, r2, p2, _⟩ := I.tuple qy
    obtain ⟨u1, hu1, ru1⟩ := r1.get hx
    obtain ⟨u2, hu2, ru2⟩ := r2.get hy
    have hT : s.heap.IsList a t1.toArray := p1.isList
    have hL : s.heap.IsTuple b t2.toArray := p2
    have n1 : a ≠ i1 := cls_ne (let ⟨o, q1, q2, _⟩ := hT; ⟨o, q1, q2⟩) (let ⟨o, q1, q2, _⟩ := e1; ⟨o, q1, q2⟩) (by decide)
    have n2 : b ≠ i2 := cls_ne (let ⟨o, q1, q2, _⟩ := hL; ⟨o, q1, q2⟩) (let ⟨o, q1, q2, _⟩ := e2; ⟨o, q1, q2⟩) (by decide)
    have hh : X.A.in1.handled = none := I.ok.hd hc
    have lz : z < s.heap.objs.size := Heap.lt_size hz
    have l1 : i < t1.toArray.size := by simpa using (List.getElem?_eq_some_iff.mp hu1).1
    have l2 : i < t2.toArray.size := by simpa using (List.getElem?_eq_some_iff.mp hu2).1
    refine wpAny_pyNext_zipD2_item S (Draws.list hh i1 a n1 t1.toArray) (Draws.tuple hh i2 b n2 t2.toArray) hz hTI hTO ⟨e1, hT⟩ ⟨e2, hL⟩ l1 l2 fun v1 v2 h' tk g1 g2 z' TO' s1 s2 hT2 hsz hk => ?_
    obtain rfl : u1 = v1 := Option.some.inj (hu1.symm.trans (by simpa using g1))
    obtain rfl : u2 = v2 := Option.some.inj (hu2.symm.trans (by simpa using g2))
    refine ⟨_, rfl, wpAny_letOwnedTupleGo_zip (s := { s with heap := h', toks := tk }) z' fun h2 z2 sb => ?_⟩
    have hT3 : h2.get? s.heap.objs.size = some { cls := .type "tuple", data := .seq #[u1, u2] } := (sb.2 _ (Nat.ne_of_gt lz)).trans hT2
    have new : ObjOk X.prog X.w (upd H s.heap.objs.size (.tup [x, y])) h2 s.heap.objs.size (.tup [x, y]) := ⟨(show 2 ≤ sizeLine by decide), [u1, u2], .cons ru1 (.cons ru2 .nil), ⟨_, hT3, rfl, _, rfl⟩⟩
    have I1 : Inv X pins σ (upd H s.heap.objs.size (.tup [x, y])) { s with heap := h2, toks := tk } :=
      I.turnedNew (ch := [z, TI, TO, i1, i2]) (fun c o hb q => (sb.2 c fun q' => hb (by simp [q'])).trans (hk c o (fun q' => hb (by simp [q'])) (fun q' => hb (by simp [q'])) (fun q' => hb (by simp [q'])) (fun q' => hb (by simp [q'])) q)) hf (Nat.le_refl _) new
    have z1 : z ≠ i1 := S.zi1
    have z3 : z ≠ i2 := S.zi2
    refine ⟨.ref s.heap.objs.size, _, I1, rfl, ⟨_, x, y, rfl, I.hok.fresh (Nat.le_refl _), rfl, fun l hl => by rw [I.list_inj hl qx]; exact hx, fun l hl => by rw [I.tuple_inj hl qy]; exact hy⟩, ⟨z2, ?_, ⟨u1, u2, ?_⟩, ?_, ?_⟩, fun c hcm => ?_⟩
    · exact (sb.2 _ S.TIz).trans (hk _ _ S.TIz S.TITO S.TIi1 S.TIi2 hTI)
    · exact (sb.2 _ S.TOz).trans TO'
    · exact s1.1.at fun o q => (sb.2 _ (Ne.symm z1)).trans q
    · exact s2.1.at fun o q => (sb.2 _ (Ne.symm z3)).trans q
    · have lc : c < s.heap.objs.size := by
        simp only [List.mem_cons, List.not_mem_nil, or_false] at hcm
        rcases hcm with rfl | rfl | rfl | rfl | rfl
        · exact lz
        · exact Heap.lt_size hTI
        · exact Heap.lt_size hTO
        · obtain ⟨_, q, _⟩ := e1
          exact Heap.lt_size q
        · obtain ⟨_, q, _⟩ := e2
          exact Heap.lt_size q
      rw [upd_ne (Nat.ne_of_lt lc)]
      exact (hf c hcm).1
  done := by
    intro X hP hw hK hc i pins s σ H E I hf st hg
    subst hP hw hK
    obtain ⟨hz, hTI, ⟨x0, y0, hTO⟩, e1, e2⟩ := st
    obtain ⟨xs, ys, qx, qy, hend⟩ := hg
    obtain ⟨t1, r1, p1, _⟩ := I.list qx
    obtain ⟨t2, r2, p2, _⟩ := I.tuple qy
    have hT : s.heap.IsList a t1.toArray := p1.isList
    have hL : s.heap.IsTuple b t2.toArray := p2
    have n1 : a ≠ i1 := cls_ne (let ⟨o, q1, q2, _⟩ := hT; ⟨o, q1, q2⟩) (let ⟨o, q1, q2, _⟩ := e1; ⟨o, q1, q2⟩) (by decide)
    have n2 : b ≠ i2 := cls_ne (let ⟨o, q1, q2, _⟩ := hL; ⟨o, q1, q2⟩) (let ⟨o, q1, q2, _⟩ := e2; ⟨o, q1, q2⟩) (by decide)
    have hh : X.A.in1.handled = none := I.ok.hd hc
    have l1 := r1.length
    have l2 := r2.length
    obtain ⟨m1, P1, S1, D1, g1, k1, f1⟩ := at_list (prog := X.prog) (w := X.w) hh e1 hT n1
    obtain ⟨m2, P2, S2, D2, g2, k2, f2⟩ := at_tuple (prog := X.prog) (w := X.w) hh e2 hL n2
    refine wpAny_pyNext_zipD2_end S D1 D2 hz hTI hTO g1 g2 k1 k2 ?_ fun h' tk hk => ⟨rfl, I.turnedL (t' := tk) (ch := [z, TI, TO, i1, i2]) (fun c o hb q => hk c o (fun q' => hb (by simp [q'])) (fun q' => hb (by simp [q'])) (fun q' => hb (by simp [q'])) (fun q' => hb (by simp [q'])) q) hf⟩
    rcases hend with q | q
    · exact .inl (f1 (by simp; omega)).symm
    · exact .inr (f2 (by simp; omega)).symm
  self := fun A i s Q E st h => wpAny_pyIter_zip st.1 h
/-- zip of a list and a tuple -/
def iZipLT (K : PySem.W.Frag) (ta : TA) : TI := fun σ H R => ta σ H fun vs H1 => ∃ a b xs ys, vs = [.ref a, .ref b] ∧ SqL K H1 a xs ∧ SqT K H1 b ys ∧ R (ItzN K a b) H1
theorem pi_zipLT {X : Cx} {e e2 : Expr} {ta : TA} {p pos tp : Pos} {elts : List Expr} {kk : Nat} (hg : Gl X "zip") (hm : X.mg "zip" = none) (ha : PA X [e, e2] ta)
    (hs : starEach [e, e2] X.env = (false, eval e X.env) :: starEach [e2] X.env := by rfl) (hpl : (backTo pos (starEach [e2] X.env)).any (·.1) = false := by rfl) :
    PI X (.Tuple elts kk tp) (.Call (.Name "zip" p) [e, e2] [] pos) (iZipLT X.K ta) := by
  refine ⟨fun pins s σ H R I h => Call_ (ld_blt I hg hm PyProof.Rows.boot_zip (PyProof.Rows.callWith_type1 (thn (ha.run pos pins s σ H _ I h) fun us s1 ⟨vs, H1, I1, r1, q1⟩ => ?_) hs hpl))⟩
  obtain ⟨a, b, xs, ys, ex, hqx, hqB, q1⟩ := q1
  subst ex
  cases r1 with
  | cons r rr =>
    cases rr with
    | cons r' rr =>
      cases rr
      cases r
      cases r'
      have fresh5 : ∀ c, c ∈ [s1.heap.objs.size + 4, s1.heap.objs.size + 2, s1.heap.objs.size + 3, s1.heap.objs.size, s1.heap.objs.size + 1] → FpOk X pins H1 c := fun c hcm => by
        simp only [List.mem_cons, List.not_mem_nil, or_false] at hcm
        have lc : s1.heap.objs.size ≤ c := by
          rcases hcm with z | z | z | z | z
          · exact z ▸ Nat.le_add_right _ _
          · exact z ▸ Nat.le_add_right _ _
          · exact z ▸ Nat.le_add_right _ _
          · exact z ▸ Nat.le_refl _
          · exact z ▸ Nat.le_add_right _ _
        exact I1.fpOk lc (I1.hok.fresh lc)
      obtain ⟨its, rv, p1, _⟩ := I1.list hqx
      have hT : s1.heap.IsList a its.toArray := p1.isList
      obtain ⟨o1, ho1, _⟩ := id hT
      obtain ⟨its2, rv2, p2, _⟩ := I1.tuple hqB
      have hL : s1.heap.IsTuple b its2.toArray := p2
      obtain ⟨o2, ho2, _⟩ := id hL
      refine zip_begins2 (begins_list a its.toArray) (begins_tuple b its2.toArray) hT hL fun h' hz hTI hTO h1 h2 hsz hk => wpAny_pyIter_zip hz ?_
      have I2 : Inv X pins σ H1 { s1 with heap := h' } := I1.kept (t' := s1.toks) hk
      exact ⟨s1.heap.objs.size + 4, [s1.heap.objs.size + 4, s1.heap.objs.size + 2, s1.heap.objs.size + 3, s1.heap.objs.size, s1.heap.objs.size + 1], _, _, H1, rfl, I2,
        turn_zipN (zip_sep2 (fp1 := [a]) (fp2 := [b]) (fun c hc => by rw [List.mem_singleton.mp hc]; exact Heap.lt_size ho1) (fun c hc => by rw [List.mem_singleton.mp hc]; exact Heap.lt_size ho2)), ⟨hz, hTI, ⟨_, _, hTO⟩, ⟨_, h1, rfl, rfl⟩, ⟨_, h2, rfl, rfl⟩⟩, fresh5, q1⟩
theorem walk_zipN {K : PySem.W.Frag} {a b : Addr} {xs ys : List V} (h : xs.length = ys.length) : Walk (ItzN K a b) xs.length (fun H => SqL K H a xs ∧ SqT K H b ys) (YPair (fun i => xs[i]?) (fun i => ys[i]?)) := by
  refine ⟨fun i _ hi q => ⟨xs, ys, xs[i], ys[i]'(h ▸ hi), q.1, q.2, List.getElem?_eq_getElem hi, List.getElem?_eq_getElem (h ▸ hi)⟩, fun _ q => ⟨xs, ys, q.1, q.2, .inl (Nat.le_refl _)⟩, fun i H v H' _ q y => ?_⟩
  obtain ⟨T, x, y, e1, e2, e3, e4, e5⟩ := y
  exact ⟨T, x, y, e1, e2, e3, e4 xs q.1, e5 ys q.2⟩
end TL
namespace TL
open PySem L2

/-! ### steps of a reading -/
local macro_rules | `(tactic| walk_at "hp") => `(tactic| first | assumption | exact upd_same | (refine (upd_ne (by first | assumption | (exact Ne.symm (by assumption)))).trans ?_; walk_at "hp"))
local macro_rules | `(tactic| walk_at "ok") => `(tactic| first | (exact Or.inr ⟨by decide, by decide⟩) | (exact ⟨by decide, by decide⟩) | (exact ⟨by decide, by decide, by decide⟩) | (show _ ≠ _; omega) | (show _ ≠ _; decide) | (exact Or.inl ⟨by omega, by omega⟩) | decide)
local macro_rules | `(tactic| walk_at "sq") => `(tactic| first | assumption | exact SqL.of (by walk_at "hp") | exact SqT.of (by walk_at "hp"))
local macro_rules | `(tactic| walk_at "ty") => `(tactic| first | refine ⟨_, _, Value.type "int", Value.type "list", false, rfl, ClsV.ty _, TyX.base (TyOf.int _), kt_int_list, ?_⟩ | refine ⟨_, _, Value.type "bool", Value.type "list", false, rfl, ClsV.ty _, TyX.base (TyOf.bl _), kt_bool_list, ?_⟩ | refine ⟨_, _, Value.type "str", Value.type "list", false, rfl, ClsV.ty _, TyX.base (TyOf.str _), kt_str_list, ?_⟩ | refine ⟨_, _, Value.type "NoneType", Value.type "list", false, rfl, ClsV.ty _, TyX.base TyOf.non, kt_NoneType_list, ?_⟩ | refine ⟨_, _, Value.type "list", Value.type "list", true, rfl, ClsV.ty _, tyx_L (by walk_at "sq"), kt_list_list, ?_⟩ | refine ⟨_, _, Value.type "tuple", Value.type "list", false, rfl, ClsV.ty _, tyx_T (by walk_at "sq"), kt_tuple_list, ?_⟩ | refine ⟨_, _, Value.type "int", Value.type "tuple", false, rfl, ClsV.ty _, TyX.base (TyOf.int _), kt_int_tuple, ?_⟩ | refine ⟨_, _, Value.type "bool", Value.type "tuple", false, rfl, ClsV.ty _, TyX.base (TyOf.bl _), kt_bool_tuple, ?_⟩ | refine ⟨_, _, Value.type "str", Value.type "tuple", false, rfl, ClsV.ty _, TyX.base (TyOf.str _), kt_str_tuple, ?_⟩ | refine ⟨_, _, Value.type "NoneType", Value.type "tuple", false, rfl, ClsV.ty _, TyX.base TyOf.non, kt_NoneType_tuple, ?_⟩ | refine ⟨_, _, Value.type "list", Value.type "tuple", false, rfl, ClsV.ty _, tyx_L (by walk_at "sq"), kt_list_tuple, ?_⟩ | refine ⟨_, _, Value.type "tuple", Value.type "tuple", true, rfl, ClsV.ty _, tyx_T (by walk_at "sq"), kt_tuple_tuple, ?_⟩ | refine ⟨_, _, Value.type "int", Value.type "bool", false, rfl, ClsV.ty _, TyX.base (TyOf.int _), kt_int_bool, ?_⟩ | refine ⟨_, _, Value.type "bool", Value.type "bool", true, rfl, ClsV.ty _, TyX.base (TyOf.bl _), kt_bool_bool, ?_⟩ | refine ⟨_, _, Value.type "str", Value.type "bool", false, rfl, ClsV.ty _, TyX.base (TyOf.str _), kt_str_bool, ?_⟩ | refine ⟨_, _, Value.type "NoneType", Value.type "bool", false, rfl, ClsV.ty _, TyX.base TyOf.non, kt_NoneType_bool, ?_⟩ | refine ⟨_, _, Value.type "list", Value.type "bool", false, rfl, ClsV.ty _, tyx_L (by walk_at "sq"), kt_list_bool, ?_⟩ | refine ⟨_, _, Value.type "tuple", Value.type "bool", false, rfl, ClsV.ty _, tyx_T (by walk_at "sq"), kt_tuple_bool, ?_⟩ | refine ⟨_, _, Value.type "int", Value.type "int", true, rfl, ClsV.ty _, TyX.base (TyOf.int _), kt_int_int, ?_⟩ | refine ⟨_, _, Value.type "bool", Value.type "int", true, rfl, ClsV.ty _, TyX.base (TyOf.bl _), kt_bool_int, ?_⟩ | refine ⟨_, _, Value.type "str", Value.type "int", false, rfl, ClsV.ty _, TyX.base (TyOf.str _), kt_str_int, ?_⟩ | refine ⟨_, _, Value.type "NoneType", Value.type "int", false, rfl, ClsV.ty _, TyX.base TyOf.non, kt_NoneType_int, ?_⟩ | refine ⟨_, _, Value.type "list", Value.type "int", false, rfl, ClsV.ty _, tyx_L (by walk_at "sq"), kt_list_int, ?_⟩ | refine ⟨_, _, Value.type "tuple", Value.type "int", false, rfl, ClsV.ty _, tyx_T (by walk_at "sq"), kt_tuple_int, ?_⟩ | refine ⟨_, _, Value.type "int", Value.type "str", false, rfl, ClsV.ty _, TyX.base (TyOf.int _), kt_int_str, ?_⟩ | refine ⟨_, _, Value.type "bool", Value.type "str", false, rfl, ClsV.ty _, TyX.base (TyOf.bl _), kt_bool_str, ?_⟩ | refine ⟨_, _, Value.type "str", Value.type "str", true, rfl, ClsV.ty _, TyX.base (TyOf.str _), kt_str_str, ?_⟩ | refine ⟨_, _, Value.type "NoneType", Value.type "str", false, rfl, ClsV.ty _, TyX.base TyOf.non, kt_NoneType_str, ?_⟩ | refine ⟨_, _, Value.type "list", Value.type "str", false, rfl, ClsV.ty _, tyx_L (by walk_at "sq"), kt_list_str, ?_⟩ | refine ⟨_, _, Value.type "tuple", Value.type "str", false, rfl, ClsV.ty _, tyx_T (by walk_at "sq"), kt_tuple_str, ?_⟩)
local macro_rules | `(tactic| walk_at "go1") => `(tactic| first
  | (refine ⟨_, rfl, ?_⟩)
  | (refine ⟨_, _, rfl, rfl, ?_⟩)
  | (refine ⟨_, _, _, _, rfl, rfl, SqL.of (by walk_at "hp"), rfl, ?_⟩)
  | (refine Or.inl ⟨_, rfl, ?_⟩)
  | (refine ⟨rfl, ?_⟩)
  | (refine ⟨_, _, rfl, .inl (SqL.of (by walk_at "hp")), ?_⟩)
  | (refine ⟨_, _, rfl, Or.inl (by assumption), ?_⟩)
  | (refine ⟨_, _, rfl, Or.inr (by assumption), ?_⟩)
  | (refine ⟨(by walk_at "ok"), ?_⟩)
  | (refine ⟨_, _, _, _, rfl, rfl, (by walk_at "hp"), rfl, ?_⟩))
local macro_rules | `(tactic| walk_at "go") => `(tactic| repeat (walk_at "go1"))
local macro_rules | `(tactic| walk_at "gt") => `(tactic| repeat (first | walk_at "go1" | walk_at "ty"))

section
variable {P : Program} {w : World} {K : PySem.W.Frag} {mg : Str → Option Value} {base : Heap}
-- [0=ratios, 1=powers, 2=ratio, 3=own, 4=power]
theorem lc_zipN {K : PySem.W.Frag} {a b D : Addr} {xs ys : List Int} {f : Int → Int → Int} {te : TE} {vs : List Nat} {σ : L2.St} {H0 : Hp} {Qd : Hp → Prop} {i j : Nat} (h1 : SqL K H0 a (xs.map V.int)) (h2 : SqT K H0 b (ys.map V.int)) (hl : xs.length = ys.length) (hz : xs.length ≤ 1000) (hD : H0 D = none)
    (hw : ∀ u v, wipe (((wipe σ vs).set i (some u)).set j (some v)) vs = wipe σ vs)
    (hs : ∀ (u v : Int) (H : Hp) (k : VK), Same H0 H → u ∈ xs → v ∈ ys → k (.int (f u v)) H → te (((wipe σ vs).set i (some (.int u))).set j (some (.int v))) H k)
    (hd : ∀ H, Same H0 H → H D = some (.lst ((List.zipWith f xs ys).map V.int)) → Qd H) : LcGoal (ItzN K a b) (gTup K 2 (gCons (gName i) (gCons (gName j) gNil))) te vs σ H0 D Qd := by
  refine lcm (walk_zipN (K := K) (a := a) (b := b) (xs := xs.map V.int) (ys := ys.map V.int) (by rw [List.length_map, List.length_map]; exact hl)) ((List.zipWith f xs ys).map V.int) (by rw [List.length_map, List.length_zipWith, List.length_map]; omega) (by rw [List.length_map]; omega) hD (fun H' s => ⟨s.seq h1, seqT s h2⟩) ?_ hd
  rintro t y x H1 H2 hi hy s1 ⟨Tp, u, z, rfl, hT, rfl, hu, hz'⟩ k hk
  replace hu : (xs.map V.int)[t]? = some u := hu
  replace hz' : (ys.map V.int)[t]? = some z := hz'
  rw [List.getElem?_map] at hy hu hz'
  obtain ⟨y', hy1, rfl⟩ := Option.map_eq_some_iff.mp hy
  obtain ⟨u', hu1, rfl⟩ := Option.map_eq_some_iff.mp hu
  obtain ⟨z', hz1, rfl⟩ := Option.map_eq_some_iff.mp hz'
  rw [List.getElem?_zipWith, hu1, hz1] at hy1
  obtain rfl : f u' z' = y' := Option.some.inj hy1
  refine ⟨Tp, [.int u', .int z'], rfl, SqT.of upd_same, rfl, .int u', [.int z'], rfl, .int z', [], rfl, rfl, hw _ _, ?_⟩
  exact hs u' z' _ k (s1.trans (Same.new hT)) (List.mem_of_getElem? hu1) (List.mem_of_getElem? hz1) (hk _ (Same.new hT))
theorem rf_pows4 {u d : Nat} {t : Addr} : (rf u d t).lookup ("powers" : Str) = none := rf_no (by decide +kernel) (by decide +kernel) (by decide +kernel)
def sumE (es : List (List Int)) : List Int := es.foldl addE (List.replicate 6 0)
def Wide (es : List (List Int)) : Prop := (∀ e ∈ es, e.length = 6) ∧ up (sumE es) < 2 ^ 100000 ∧ dn (sumE es) < 2 ^ 100000
theorem foldE_len : ∀ (es : List (List Int)) (z : List Int), z.length = 6 → (∀ e ∈ es, e.length = 6) → (es.foldl addE z).length = 6
  | [], z, h, _ => h
  | e :: es, z, h, hs => foldE_len es _ (by simp [addE, h, hs e (List.mem_cons_self ..)]) fun f hf => hs f (List.mem_cons_of_mem _ hf)
theorem sumE_len (es : List (List Int)) (h : Wide es) : (sumE es).length = 6 := foldE_len es _ rfl h.1
theorem sumE_take {es : List (List Int)} {i : Nat} {e : List Int} (h : es[i]? = some e) : sumE (es.take (i + 1)) = addE (sumE (es.take i)) e := by
  unfold sumE
  rw [List.take_succ, h, Option.toList_some, List.foldl_append]
  rfl
def spMultL (K : PySem.W.Frag) (C : Addr) : Sp := fun vs H Q _ => ∃ (a : Addr) (ps : List V) (es : List (List Int)), vs = [.ref a] ∧ SqL K H a ps ∧ Ras K C H ps es ∧ es.length ≤ 1000 ∧ Wide es ∧ ∀ t H', Same H H' → RAt K C H' t (sumE es) → Q (.ref t) H'
theorem ok_multL (T : Tx K mg) : FnOk P w K mg base CX0 7 T.f_multiplied T.d_multiplied ["ratios"] (spMultL K T.C_Ratio) := by
  have G_ratio_with := ok_with (P := P) (w := w) (base := base) T
  have G_Ratio_powers := ok_powers (P := P) (w := w) (base := base) T
  refine T.F_multiplied.ok sc_multiplied (fun vs H Q E h => ?_) (fun cdv A outer s H vs Q E hr h => ?_)
  · obtain ⟨a, ps, es, rfl, _⟩ := h
    rfl
  obtain ⟨a, ps, es, rfl, ha, hR, hz, hW, q⟩ := h
  have nd := sc_multiplied.nd
  refine ⟨_, (pss_cons (ps_set (i := 1) nd rfl (Or.inl rfl) (pe_op op_rep (pe_lst (pa_cons pe_int pa_nil)) (pe_callB (show CallR _ _ (rLenSq K) from call_len_seq) (by rfl) T.z_len (by decide +kernel) (pa_cons (pe_glob (v := .ref T.e_PRIMES) (by rfl) T.m_PRIMES rfl) pa_nil))))
    (pss_cons (ps_for PassesOwn.never rfl (show PI _ _ _ (iList K _) from pi_list (pv 0)) (pg_name (i := 2) nd rfl (Or.inl rfl)) (pss_one (ps_setLc (i := 1) (own := [("own", 3), ("power", 4)]) (g := (gTup K 2 (gCons (gName 3) (gCons (gName 4) gNil)))) rfl nd rfl rfl (sw_true rfl rfl rfl (by decide +kernel)) (show PI _ _ _ (iZipLT K _) from pi_zipLT (by rfl) T.z_zip (pa_cons (pv 1) (pa_cons (pe_meth0 (pv 2) T.c_Ratio T.a_Ratio_powers G_Ratio_powers (hr.mono (by decide)) T.b_Ratio_powers .nil pass0) pa_nil))) (blkOk_by (own := [("own", 3), ("power", 4)]) (N := N_multiplied) (sc := defScope s_multiplied) (by decide +kernel)) (fun _ _ _ _ _ => by exact (pg_tup rfl (pgs_cons (pg_name (i := 3) nd rfl (Or.inl rfl)) (pgs_cons (pg_name (i := 4) nd rfl (Or.inl rfl)) pgs_nil)))) (fun _ _ _ _ _ => by exact pts_nil) (fun _ _ _ _ _ => by exact (pe_op op_add (pv 3) (pv 4))))))
    (pss_one (ps_ret (pe_call G_ratio_with hr (by rfl) T.m_ratio_with T.F_ratio_with.kp T.b_ratio_with .nil pass0 (pa_cons (pv 1) pa_nil)))))), ?_⟩
  refine ⟨(by show 1 ≤ sizeLine; decide), fun p1 hp1 => ⟨T.e_PRIMES, _, rfl, .inr (T.q_PRIMES _), p1, _, _, rfl, rfl, upd_same, by decide, by decide, by decide, fun p hp => ?_⟩⟩
  have s0 := (Same.new (o := .lst [V.int 0]) hp1).trans (Same.new (o := .lst ((List.replicate 6 (0 : Int)).map V.int)) hp)
  refine ⟨_, rfl, a, rfl, ⟨_, s0.seq ha⟩, for_it (walk_list (K := K) (a := a) (xs := ps)) (fun i σ H' => Same H H' ∧ ∃ pl a2 a3 a4, σ = [some (.ref a), some (.ref pl), a2, a3, a4] ∧ H' pl = some (.lst ((sumE (es.take i)).map V.int))) ⟨s0, p, _, _, _, rfl, upd_same⟩ (fun _ _ _ _ h => h.1.seq ha) ?_ ?_⟩
  · rintro i v σ H1 H2 hi ⟨s1, pl, a2, a3, a4, rfl, hpl⟩ ⟨rfl, hv⟩
    obtain ⟨t, e, rfl, he, ht⟩ := hR.2 i v hv
    have ht1 := ht.same s1
    obtain ⟨dx, tp, h1, h2⟩ := ht1.ex
    have l1 : (sumE (es.take i)).length = 6 := foldE_len _ _ rfl fun f hf => hW.1 f (List.mem_of_mem_take hf)
    refine ⟨_, rfl, _, rfl, t, dx, _, rfl, h1, rf_pows4, t, e, rfl, ht1, fun tu htu => ⟨pl, tu, _, _, rfl, SqL.of hpl, htu, fun D hD => ?_⟩⟩
    refine lc_zipN (f := fun x y => x + y) (SqL.of hpl) htu (by rw [l1, ht.len]) (by rw [l1]; decide) hD (fun u v => rfl) (fun u v H5 kk s5 hu hv hkk => ⟨_, rfl, _, rfl, u, v, rfl, rfl, hkk⟩) fun H5 s5 hD5 => ?_
    refine ⟨s1.trans s5, D, _, _, _, rfl, ?_⟩
    rw [sumE_take he]
    exact hD5
  · rintro σ H1 ⟨s1, pl, a2, a3, a4, rfl, hpl⟩
    have e6 := sumE_len es hW
    have ew : es.take ps.length = es := by rw [hR.1, List.take_length]
    rw [ew] at hpl
    exact ⟨_, rfl, pl, sumE es, rfl, .inl (SqL.of hpl), e6, hW.2.1, hW.2.2, fun t H2 s2 ht => q t H2 (s1.trans s2) ht⟩
def spMultT (K : PySem.W.Frag) (C : Addr) : Sp := fun vs H Q _ => ∃ (a : Addr) (ps : List V) (es : List (List Int)), vs = [.ref a] ∧ SqT K H a ps ∧ Ras K C H ps es ∧ es.length ≤ 1000 ∧ Wide es ∧ ∀ t H', Same H H' → RAt K C H' t (sumE es) → Q (.ref t) H'
theorem ok_multT (T : Tx K mg) : FnOk P w K mg base CX0 7 T.f_multiplied T.d_multiplied ["ratios"] (spMultT K T.C_Ratio) := by
  have G_ratio_with := ok_with (P := P) (w := w) (base := base) T
  have G_Ratio_powers := ok_powers (P := P) (w := w) (base := base) T
  refine T.F_multiplied.ok sc_multiplied (fun vs H Q E h => ?_) (fun cdv A outer s H vs Q E hr h => ?_)
  · obtain ⟨a, ps, es, rfl, _⟩ := h
    rfl
  obtain ⟨a, ps, es, rfl, ha, hR, hz, hW, q⟩ := h
  have nd := sc_multiplied.nd
  refine ⟨_, (pss_cons (ps_set (i := 1) nd rfl (Or.inl rfl) (pe_op op_rep (pe_lst (pa_cons pe_int pa_nil)) (pe_callB (show CallR _ _ (rLenSq K) from call_len_seq) (by rfl) T.z_len (by decide +kernel) (pa_cons (pe_glob (v := .ref T.e_PRIMES) (by rfl) T.m_PRIMES rfl) pa_nil))))
    (pss_cons (ps_for PassesOwn.never rfl (show PI _ _ _ (iTup K _) from pi_tup (pv 0)) (pg_name (i := 2) nd rfl (Or.inl rfl)) (pss_one (ps_setLc (i := 1) (own := [("own", 3), ("power", 4)]) (g := (gTup K 2 (gCons (gName 3) (gCons (gName 4) gNil)))) rfl nd rfl rfl (sw_true rfl rfl rfl (by decide +kernel)) (show PI _ _ _ (iZipLT K _) from pi_zipLT (by rfl) T.z_zip (pa_cons (pv 1) (pa_cons (pe_meth0 (pv 2) T.c_Ratio T.a_Ratio_powers G_Ratio_powers (hr.mono (by decide)) T.b_Ratio_powers .nil pass0) pa_nil))) (blkOk_by (own := [("own", 3), ("power", 4)]) (N := N_multiplied) (sc := defScope s_multiplied) (by decide +kernel)) (fun _ _ _ _ _ => by exact (pg_tup rfl (pgs_cons (pg_name (i := 3) nd rfl (Or.inl rfl)) (pgs_cons (pg_name (i := 4) nd rfl (Or.inl rfl)) pgs_nil)))) (fun _ _ _ _ _ => by exact pts_nil) (fun _ _ _ _ _ => by exact (pe_op op_add (pv 3) (pv 4))))))
    (pss_one (ps_ret (pe_call G_ratio_with hr (by rfl) T.m_ratio_with T.F_ratio_with.kp T.b_ratio_with .nil pass0 (pa_cons (pv 1) pa_nil)))))), ?_⟩
  refine ⟨(by show 1 ≤ sizeLine; decide), fun p1 hp1 => ⟨T.e_PRIMES, _, rfl, .inr (T.q_PRIMES _), p1, _, _, rfl, rfl, upd_same, by decide, by decide, by decide, fun p hp => ?_⟩⟩
  have s0 := (Same.new (o := .lst [V.int 0]) hp1).trans (Same.new (o := .lst ((List.replicate 6 (0 : Int)).map V.int)) hp)
  refine ⟨_, rfl, a, rfl, ⟨_, seqT s0 ha⟩, for_it (walk_tup (K := K) (a := a) (xs := ps)) (fun i σ H' => Same H H' ∧ ∃ pl a2 a3 a4, σ = [some (.ref a), some (.ref pl), a2, a3, a4] ∧ H' pl = some (.lst ((sumE (es.take i)).map V.int))) ⟨s0, p, _, _, _, rfl, upd_same⟩ (fun _ _ _ _ h => seqT h.1 ha) ?_ ?_⟩
  · rintro i v σ H1 H2 hi ⟨s1, pl, a2, a3, a4, rfl, hpl⟩ ⟨rfl, hv⟩
    obtain ⟨t, e, rfl, he, ht⟩ := hR.2 i v hv
    have ht1 := ht.same s1
    obtain ⟨dx, tp, h1, h2⟩ := ht1.ex
    have l1 : (sumE (es.take i)).length = 6 := foldE_len _ _ rfl fun f hf => hW.1 f (List.mem_of_mem_take hf)
    refine ⟨_, rfl, _, rfl, t, dx, _, rfl, h1, rf_pows4, t, e, rfl, ht1, fun tu htu => ⟨pl, tu, _, _, rfl, SqL.of hpl, htu, fun D hD => ?_⟩⟩
    refine lc_zipN (f := fun x y => x + y) (SqL.of hpl) htu (by rw [l1, ht.len]) (by rw [l1]; decide) hD (fun u v => rfl) (fun u v H5 kk s5 hu hv hkk => ⟨_, rfl, _, rfl, u, v, rfl, rfl, hkk⟩) fun H5 s5 hD5 => ?_
    refine ⟨s1.trans s5, D, _, _, _, rfl, ?_⟩
    rw [sumE_take he]
    exact hD5
  · rintro σ H1 ⟨s1, pl, a2, a3, a4, rfl, hpl⟩
    have e6 := sumE_len es hW
    have ew : es.take ps.length = es := by rw [hR.1, List.take_length]
    rw [ew] at hpl
    exact ⟨_, rfl, pl, sumE es, rfl, .inl (SqL.of hpl), e6, hW.2.1, hW.2.2, fun t H2 s2 ht => q t H2 (s1.trans s2) ht⟩
end
end TL
namespace TL
open PySem L2

/-! ### steps of a reading -/
local macro_rules | `(tactic| walk_at "hp") => `(tactic| first | assumption | exact upd_same | (refine (upd_ne (by first | assumption | (exact Ne.symm (by assumption)))).trans ?_; walk_at "hp"))
local macro_rules | `(tactic| walk_at "ok") => `(tactic| first | (exact Or.inr ⟨by decide, by decide⟩) | (exact ⟨by decide, by decide⟩) | (exact ⟨by decide, by decide, by decide⟩) | (show _ ≠ _; omega) | (show _ ≠ _; decide) | (exact Or.inl ⟨by omega, by omega⟩) | decide)
local macro_rules | `(tactic| walk_at "sq") => `(tactic| first | assumption | exact SqL.of (by walk_at "hp") | exact SqT.of (by walk_at "hp"))
local macro_rules | `(tactic| walk_at "ty") => `(tactic| first | refine ⟨_, _, Value.type "int", Value.type "list", false, rfl, ClsV.ty _, TyX.base (TyOf.int _), kt_int_list, ?_⟩ | refine ⟨_, _, Value.type "bool", Value.type "list", false, rfl, ClsV.ty _, TyX.base (TyOf.bl _), kt_bool_list, ?_⟩ | refine ⟨_, _, Value.type "str", Value.type "list", false, rfl, ClsV.ty _, TyX.base (TyOf.str _), kt_str_list, ?_⟩ | refine ⟨_, _, Value.type "NoneType", Value.type "list", false, rfl, ClsV.ty _, TyX.base TyOf.non, kt_NoneType_list, ?_⟩ | refine ⟨_, _, Value.type "list", Value.type "list", true, rfl, ClsV.ty _, tyx_L (by walk_at "sq"), kt_list_list, ?_⟩ | refine ⟨_, _, Value.type "tuple", Value.type "list", false, rfl, ClsV.ty _, tyx_T (by walk_at "sq"), kt_tuple_list, ?_⟩ | refine ⟨_, _, Value.type "int", Value.type "tuple", false, rfl, ClsV.ty _, TyX.base (TyOf.int _), kt_int_tuple, ?_⟩ | refine ⟨_, _, Value.type "bool", Value.type "tuple", false, rfl, ClsV.ty _, TyX.base (TyOf.bl _), kt_bool_tuple, ?_⟩ | refine ⟨_, _, Value.type "str", Value.type "tuple", false, rfl, ClsV.ty _, TyX.base (TyOf.str _), kt_str_tuple, ?_⟩ | refine ⟨_, _, Value.type "NoneType", Value.type "tuple", false, rfl, ClsV.ty _, TyX.base TyOf.non, kt_NoneType_tuple, ?_⟩ | refine ⟨_, _, Value.type "list", Value.type "tuple", false, rfl, ClsV.ty _, tyx_L (by walk_at "sq"), kt_list_tuple, ?_⟩ | refine ⟨_, _, Value.type "tuple", Value.type "tuple", true, rfl, ClsV.ty _, tyx_T (by walk_at "sq"), kt_tuple_tuple, ?_⟩ | refine ⟨_, _, Value.type "int", Value.type "bool", false, rfl, ClsV.ty _, TyX.base (TyOf.int _), kt_int_bool, ?_⟩ | refine ⟨_, _, Value.type "bool", Value.type "bool", true, rfl, ClsV.ty _, TyX.base (TyOf.bl _), kt_bool_bool, ?_⟩ | refine ⟨_, _, Value.type "str", Value.type "bool", false, rfl, ClsV.ty _, TyX.base (TyOf.str _), kt_str_bool, ?_⟩ | refine ⟨_, _, Value.type "NoneType", Value.type "bool", false, rfl, ClsV.ty _, TyX.base TyOf.non, kt_NoneType_bool, ?_⟩ | refine ⟨_, _, Value.type "list", Value.type "bool", false, rfl, ClsV.ty _, tyx_L (by walk_at "sq"), kt_list_bool, ?_⟩ | refine ⟨_, _, Value.type "tuple", Value.type "bool", false, rfl, ClsV.ty _, tyx_T (by walk_at "sq"), kt_tuple_bool, ?_⟩ | refine ⟨_, _, Value.type "int", Value.type "int", true, rfl, ClsV.ty _, TyX.base (TyOf.int _), kt_int_int, ?_⟩ | refine ⟨_, _, Value.type "bool", Value.type "int", true, rfl, ClsV.ty _, TyX.base (TyOf.bl _), kt_bool_int, ?_⟩ | refine ⟨_, _, Value.type "str", Value.type "int", false, rfl, ClsV.ty _, TyX.base (TyOf.str _), kt_str_int, ?_⟩ | refine ⟨_, _, Value.type "NoneType", Value.type "int", false, rfl, ClsV.ty _, TyX.base TyOf.non, kt_NoneType_int, ?_⟩ | refine ⟨_, _, Value.type "list", Value.type "int", false, rfl, ClsV.ty _, tyx_L (by walk_at "sq"), kt_list_int, ?_⟩ | refine ⟨_, _, Value.type "tuple", Value.type "int", false, rfl, ClsV.ty _, tyx_T (by walk_at "sq"), kt_tuple_int, ?_⟩ | refine ⟨_, _, Value.type "int", Value.type "str", false, rfl, ClsV.ty _, TyX.base (TyOf.int _), kt_int_str, ?_⟩ | refine ⟨_, _, Value.type "bool", Value.type "str", false, rfl, ClsV.ty _, TyX.base (TyOf.bl _), kt_bool_str, ?_⟩ | refine ⟨_, _, Value.type "str", Value.type "str", true, rfl, ClsV.ty _, TyX.base (TyOf.str _), kt_str_str, ?_⟩ | refine ⟨_, _, Value.type "NoneType", Value.type "str", false, rfl, ClsV.ty _, TyX.base TyOf.non, kt_NoneType_str, ?_⟩ | refine ⟨_, _, Value.type "list", Value.type "str", false, rfl, ClsV.ty _, tyx_L (by walk_at "sq"), kt_list_str, ?_⟩ | refine ⟨_, _, Value.type "tuple", Value.type "str", false, rfl, ClsV.ty _, tyx_T (by walk_at "sq"), kt_tuple_str, ?_⟩)
local macro_rules | `(tactic| walk_at "go1") => `(tactic| first
  | (refine ⟨_, rfl, ?_⟩)
  | (refine ⟨_, _, rfl, rfl, ?_⟩)
  | (refine ⟨_, _, _, _, rfl, rfl, SqL.of (by walk_at "hp"), rfl, ?_⟩)
  | (refine Or.inl ⟨_, rfl, ?_⟩)
  | (refine ⟨rfl, ?_⟩)
  | (refine ⟨_, _, rfl, .inl (SqL.of (by walk_at "hp")), ?_⟩)
  | (refine ⟨_, _, rfl, Or.inl (by assumption), ?_⟩)
  | (refine ⟨_, _, rfl, Or.inr (by assumption), ?_⟩)
  | (refine ⟨(by walk_at "ok"), ?_⟩)
  | (refine ⟨_, _, _, _, rfl, rfl, (by walk_at "hp"), rfl, ?_⟩))
local macro_rules | `(tactic| walk_at "go") => `(tactic| repeat (walk_at "go1"))
local macro_rules | `(tactic| walk_at "gt") => `(tactic| repeat (first | walk_at "go1" | walk_at "ty"))

section
variable {P : Program} {w : World} {K : PySem.W.Frag} {mg : Str → Option Value} {base : Heap}
-- [0=ratios, 1=logs, 2=keyed, 3=order, 4=at, 5=above, 6=ratio, 7=_, 8=log]
/-- different ratios whose logarithms are far from one another -/
def Far (es : List (List Int)) : Prop := (∀ e ∈ es, Ex (10 ^ 7) e) ∧ ∀ e ∈ es, ∀ f ∈ es, e ≠ f → 10 ^ 12 < (logE e - logE f).natAbs
structure OrdOf (es : List (List Int)) (ord : List Nat) : Prop where
  perm : ord.Perm (List.range es.length)
  asc : ord.Pairwise fun i j => logE (es.getD i []) ≤ logE (es.getD j [])
theorem cut_drop (xs : List V) : cutV xs (some 1) none = xs.drop 1 := by
  cases xs with
  | nil => rfl
  | cons x xs => exact cut1 x xs
/-- the pair of ints that a ref's tuple holds -/
def kV (H : Hp) (v : V) : Int × Int := match v with
  | .ref t => match H t with
    | some (.tup [.int a, .int b]) => (a, b)
    | _ => (0, 0)
  | _ => (0, 0)
theorem kV_of {H : Hp} {t : Addr} {a b : Int} (h : H t = some (.tup [.int a, .int b])) : kV H (.ref t) = (a, b) := by
  unfold kV
  dsimp only
  rw [h]
theorem ord_of {es : List (List Int)} {H2 : Hp} {ys zs : List V} (hl : ys.length = es.length) (hys : ∀ (i : Nat) y, ys[i]? = some y → ∃ e, es[i]? = some e ∧ kV H2 y = (logE e, (i : Int)))
    (hs : SrtO.Srtd (ltP (kV H2)) zs) (hst : SrtO.Stb (ltP (kV H2)) zs ys) : OrdOf es (zs.map fun v => (kV H2 v).2.toNat) := by
  have mem : ∀ y ∈ zs, ∃ (i : Nat) (e : List Int), es[i]? = some e ∧ kV H2 y = (logE e, (i : Int)) := fun y hy => by
    obtain ⟨i, hi⟩ := List.mem_iff_getElem?.mp (hst.perm.mem_iff.mp hy)
    exact ⟨i, hys i y hi⟩
  refine ⟨?_, ?_⟩
  · refine (hst.perm.map _).trans (List.Perm.of_eq ?_)
    apply List.ext_getElem
    · rw [List.length_map, List.length_range, hl]
    · intro i h1 h2
      rw [List.length_map] at h1
      obtain ⟨e, _, e2⟩ := hys i ys[i] (List.getElem?_eq_getElem h1)
      rw [List.getElem_map, List.getElem_range, e2]
      rfl
  · rw [List.pairwise_map]
    refine List.Pairwise.imp_of_mem (fun {x y} hx hy h => ?_) hs
    obtain ⟨i, e, e1, e2⟩ := mem x hx
    obtain ⟨j, f, f1, f2⟩ := mem y hy
    have h' : SrtO.lexB (kV H2 y) (kV H2 x) = false := h
    have := SrtO.lexB_no.mp h'
    rw [e2, f2] at this ⊢
    dsimp only at this ⊢
    rw [Int.toNat_natCast, Int.toNat_natCast, List.getD_eq_getElem?_getD, e1, List.getD_eq_getElem?_getD, f1]
    show logE e ≤ logE f
    omega
theorem never_exact {T : Tx K mg} : FnOk P w K mg base CX0 1 T.f__exact_order T.d__exact_order ["ratios"] (fun _ _ _ _ => False) :=
  ⟨fun vs H Q E h => h.elim, fun A outer s H args us vs Q E _ _ _ _ h => h.elim⟩
def spOrderL (K : PySem.W.Frag) (C : Addr) : Sp := fun vs H Q _ => ∃ (a : Addr) (ps : List V) (es : List (List Int)), vs = [.ref a] ∧ SqL K H a ps ∧ Ras K C H ps es ∧ es.length ≤ 1000 ∧ Far es ∧ ∀ t ord H', Same H H' → H' t = some (.lst (ord.map fun i : Nat => V.int (i : Int))) → OrdOf es ord → Q (.ref t) H'
theorem ok_orderL (T : Tx K mg) : FnOk P w K mg base CX0 3 T.f_order_of T.d_order_of ["ratios"] (spOrderL K T.C_Ratio) := by
  have G_log_of := ok_log_of (P := P) (w := w) (base := base) T
  have G_Ratio_powers := ok_powers (P := P) (w := w) (base := base) T
  have G_Ratio_eq := ok_req (P := P) (w := w) (base := base) T
  have G__exact_order := never_exact (P := P) (w := w) (base := base) (T := T)
  refine T.F_order_of.ok sc_order_of (fun vs H Q E h => ?_) (fun cdv A outer s H vs Q E hr h => ?_)
  · obtain ⟨a, ps, es, rfl, _⟩ := h
    rfl
  obtain ⟨a, ps, es, rfl, ha, hR, hz, hF, q⟩ := h
  have nd := sc_order_of.nd
  refine ⟨_, (pss_cons (ps_setLc (i := 1) (own := [("ratio", 6)]) (g := (gName 6)) rfl nd rfl rfl (sw_true rfl rfl rfl (by decide +kernel)) (show PI _ _ _ (iList K _) from pi_list (pv 0)) (blkOk_by (own := [("ratio", 6)]) (N := N_order_of) (sc := defScope s_order_of) (by decide +kernel)) (fun _ _ _ _ _ => by exact (pg_name (i := 6) nd rfl (Or.inl rfl))) (fun _ _ _ _ _ => by exact pts_nil) (fun _ _ _ _ _ => by exact (pe_call G_log_of (hr.mono (by decide)) (by rfl) T.m_log_of T.F_log_of.kp T.b_log_of .nil pass0 (pa_cons (pe_meth0 (pv 6) T.c_Ratio T.a_Ratio_powers G_Ratio_powers (hr.mono (by decide)) T.b_Ratio_powers .nil pass0) pa_nil))))
    (pss_cons (ps_set (i := 2) nd rfl (Or.inl rfl) (pe_callB (show CallR _ _ (rSortedPO K) from cr_sortedPO) (by rfl) T.z_sorted (by decide +kernel) (pa_cons (pe_lc (own := [("at", 4), ("log", 8)]) (g := (gTup K 2 (gCons (gName 4) (gCons (gName 8) gNil)))) rfl nd (pi_enum (by rfl) T.z_enumerate (pa_cons (pv 1) pa_nil)) (blkOk_by (own := [("at", 4), ("log", 8)]) (N := N_order_of) (sc := defScope s_order_of) (by decide +kernel)) (fun _ _ _ _ _ => by exact (pg_tup rfl (pgs_cons (pg_name (i := 4) nd rfl (Or.inl rfl)) (pgs_cons (pg_name (i := 8) nd rfl (Or.inl rfl)) pgs_nil)))) (fun _ _ _ _ _ => by exact pts_nil) (fun _ _ _ _ _ => by exact (pe_tup (pa_cons (pv 8) (pa_cons (pv 4) pa_nil))))) pa_nil)))
    (pss_cons (ps_setLc (i := 3) (own := [("_", 7), ("at", 4)]) (g := (gTup K 2 (gCons (gName 7) (gCons (gName 4) gNil)))) rfl nd rfl rfl (sw_true rfl rfl rfl (by decide +kernel)) (show PI _ _ _ (iList K _) from pi_list (pv 2)) (blkOk_by (own := [("_", 7), ("at", 4)]) (N := N_order_of) (sc := defScope s_order_of) (by decide +kernel)) (fun _ _ _ _ _ => by exact (pg_tup rfl (pgs_cons (pg_name (i := 7) nd rfl (Or.inl rfl)) (pgs_cons (pg_name (i := 4) nd rfl (Or.inl rfl)) pgs_nil)))) (fun _ _ _ _ _ => by exact pts_nil) (fun _ _ _ _ _ => by exact (pv 4)))
    (pss_cons (ps_for PassesOwn.never rfl (show PI _ _ _ (RZ.iZipA K _) from RZ.pi_zipA (by rfl) T.z_zip (pa_cons (pv 3) (pa_cons (pe_slice (show SlR _ (rSlL K) from sl_list) (pv 3) (po_some pe_int) po_none) pa_nil))) (pg_tup rfl (pgs_cons (pg_name (i := 4) nd rfl (Or.inl rfl)) (pgs_cons (pg_name (i := 5) nd rfl (Or.inl rfl)) pgs_nil))) (pss_one (ps_if (PW.pt (pw_and (pt_cmpR op_le (pe_op op_sub (pe_ix (show IxR _ (rIxL K) from ix_list) (pv 1) (pv 5) (fun _ _ => rfl)) (pe_ix (show IxR _ (rIxL K) from ix_list) (pv 1) (pv 4) (fun _ _ => rfl))) (pe_glob (v := .int 1000000000000) (by rfl) T.m_SLACK ⟨_, rfl⟩) (nomark _)) (pw_and1 (pt_cmpR (op_owNe T.a_Ratio_eq.at_ T.a_Ratio_eq.fn T.ne_Ratio T.i_Ratio.cm G_Ratio_eq hr T.b_Ratio_eq pass0) (pe_ix (show IxR _ (rIxL K) from ix_list) (pv 0) (pv 4) (fun _ _ => rfl)) (pe_ix (show IxR _ (rIxL K) from ix_list) (pv 0) (pv 5) (fun _ _ => rfl)) (nomark _))))) (pss_one (ps_ret (pe_call G__exact_order (hr.mono (by decide)) (by rfl) T.m__exact_order T.F__exact_order.kp T.b__exact_order .nil pass0 (pa_cons (pv 0) pa_nil)))) pss_nil)))
    (pss_one (ps_ret (pv 3))))))), ?_⟩
  refine ⟨_, rfl, a, rfl, ⟨_, ha⟩, fun D hD => ?_⟩
  refine lcm (walk_list (K := K) (a := a) (xs := ps)) ((es.map logE).map V.int) (by rw [List.length_map, List.length_map, hR.1]) (by rw [hR.1]; omega) hD (fun H' s' => s'.seq ha) ?_ ?_
  · rintro i y x H1 H2 hi hy s1 ⟨rfl, hx⟩ k hk
    obtain ⟨t, e, rfl, he, ht⟩ := hR.2 i x hx
    rw [List.getElem?_map, List.getElem?_map, he] at hy
    obtain rfl := Option.some.inj hy
    obtain ⟨dx, tp, h1, h2⟩ := (ht.same s1).ex
    exact ⟨rfl, _, rfl, t, dx, _, rfl, h1, rf_pows4, t, e, rfl, ht.same s1, fun tu htu => ⟨tu, e, rfl, htu, ht.len, hF.1 e (List.mem_of_getElem? he), fun H3 s3 => hk H3 s3⟩⟩
  intro H1 s1 hD1
  refine ⟨_, rfl, D, _, rfl, SqL.of hD1, fun D2 hD2 => ?_⟩
  refine lcs (walk_enum (K := K) (a := D) (xs := (es.map logE).map V.int)) (fun i y H => ∃ t e, y = V.ref t ∧ es[i]? = some e ∧ H t = some (.tup [.int (logE e), .int (i : Int)])) (fun i y H1 H2 s1 ⟨t, e, a1, a2, a3⟩ => ⟨t, e, a1, a2, s1 _ _ a3⟩)
    (fun i y H1 zs zs' hz' ⟨t, e, a1, a2, a3⟩ => ⟨t, e, a1, a2, by rw [upd_ne (ne_of a3 hz' (by intro z; cases z))]; exact a3⟩) (by rw [List.length_map, List.length_map]; omega) hD2 (fun H1 s1 => SqL.of (s1 _ _ hD1)) ?_ fun ys H2 hl hys s2 hD2' => ?_
  · rintro i x H2 H3 hi s2 ⟨T2, u, z, rfl, hT, rfl, hu, hz'⟩ k hk
    obtain rfl : V.int (i : Nat) = u := Option.some.inj hu
    replace hz' : ((es.map logE).map V.int)[i]? = some z := hz'
    rw [List.getElem?_map, List.getElem?_map] at hz'
    obtain ⟨l, hl1, rfl⟩ := Option.map_eq_some_iff.mp hz'
    obtain ⟨e, he, rfl⟩ := Option.map_eq_some_iff.mp hl1
    exact ⟨T2, _, rfl, SqT.of upd_same, rfl, _, _, rfl, _, _, rfl, rfl, rfl, _, rfl, _, rfl, (by show 2 ≤ sizeLine; decide), fun tp htp => hk _ _ ((Same.new hT).trans (Same.new htp)) ⟨tp, e, rfl, he, upd_same⟩⟩
  have hlen : ys.length = es.length := by rw [hl, List.length_map, List.length_map]
  refine ⟨D2, ys, kV H2, rfl, SqL.of hD2', fun x hx => ?_, fun zs p hsr hst hp => ?_⟩
  · obtain ⟨i, hi⟩ := List.mem_iff_getElem?.mp hx
    obtain ⟨t, e, rfl, a2, a3⟩ := hys i x hi
    rw [kV_of a3]
    exact ⟨t, rfl, a3⟩
  have hOrd := ord_of hlen (fun i y hy => by
    obtain ⟨t, e, rfl, a2, a3⟩ := hys i y hy
    exact ⟨e, a2, kV_of a3⟩) hsr hst
  have sp := Same.new (o := .lst zs) hp
  have hp3 : upd H2 p (.lst zs) p = some (.lst zs) := upd_same
  generalize hH3 : upd H2 p (.lst zs) = H3 at *
  have memz : ∀ x ∈ zs, ∃ (j : Nat) (t : Addr) (e : List Int), x = V.ref t ∧ es[j]? = some e ∧ H2 t = some (.tup [.int (logE e), .int (j : Int)]) := fun x hx => by
    obtain ⟨i, hi⟩ := List.mem_iff_getElem?.mp (hst.perm.mem_iff.mp hx)
    obtain ⟨t, e, a1, a2, a3⟩ := hys i x hi
    exact ⟨i, t, e, a1, a2, a3⟩
  have hord : ∀ x ∈ zs, ∀ (j : Nat) (e : List Int) (t : Addr), x = V.ref t → H2 t = some (.tup [.int (logE e), .int (j : Int)]) → (kV H2 x).2.toNat = j := fun x _ j e t a1 a3 => by
    rw [a1, kV_of a3]
    rfl
  refine ⟨_, rfl, p, rfl, ⟨_, SqL.of hp3⟩, fun D3 hD3 => ?_⟩
  have hzl : zs.length ≤ 100000 := by have := hst.len; omega
  refine lcm (walk_list (K := K) (a := p) (xs := zs)) ((zs.map fun v => (kV H2 v).2.toNat).map fun i : Nat => V.int (i : Int)) (by rw [List.length_map, List.length_map]) hzl hD3 (fun H' s' => SqL.of (s' _ _ hp3)) ?_ ?_
  · rintro i y x H4 H5 hi hy s4 ⟨rfl, hx⟩ k hk
    have hx' : zs[i]? = some x := hx
    obtain ⟨j, t, e, rfl, he, ht⟩ := memz x (List.mem_of_getElem? hx')
    rw [List.getElem?_map, List.getElem?_map, hx'] at hy
    obtain rfl := Option.some.inj hy
    refine ⟨t, _, rfl, SqT.of (s4 _ _ (sp _ _ ht)), rfl, _, _, rfl, _, _, rfl, rfl, rfl, _, rfl, ?_⟩
    have := hk _ (Same.refl _)
    dsimp only at this
    rw [hord _ (List.mem_of_getElem? hx') j e t rfl ht] at this
    exact this
  intro H4 s4 hD4
  generalize (zs.map fun v => (kV H2 v).2.toNat) = ord at *
  have hle := hOrd.perm.length_eq
  rw [List.length_range] at hle
  have sall : Same H H4 := ((s1.trans s2).trans sp).trans s4
  have hDl := s4 _ _ (sp _ _ (s2 _ _ hD1))
  clear hst hsr memz hord hzl hys hD2 hD2' hlen hl hp hp3 hH3 sp s2 s1 hD1 hD3 hD s4
  refine ⟨_, rfl, _, rfl, _, rfl, D3, _, rfl, SqL.of hD4, fun p5 hp5 => ?_⟩
  rw [cut_drop]
  have s5 := Same.new (o := .lst ((ord.map fun i : Nat => V.int (i : Int)).drop 1)) hp5
  refine ⟨D3, p5, _, _, rfl, .inl ⟨SqL.of (s5 _ _ hD4), SqL.of upd_same, for_it (walk_zip (n := ord.length - 1) (by rw [List.length_drop, List.length_map]; omega)) (fun i σ H' => Same (upd H4 p5 (.lst ((ord.map fun i : Nat => V.int (i : Int)).drop 1))) H' ∧ ∃ a4 a5, σ = [some (.ref a), some (.ref D), some (.ref p), some (.ref D3), a4, a5, none, none, none]) ⟨Same.refl _, _, _, rfl⟩ (fun _ _ _ _ h => ⟨SqL.of (h.1 _ _ (s5 _ _ hD4)), SqL.of (h.1 _ _ upd_same)⟩) ?_ ?_⟩⟩
  · rintro i v σ H5 H6 hi ⟨s6, a4, a5, rfl⟩ ⟨T6, u, z, rfl, hT, rfl, hu, hz'⟩
    have hi' : i + 1 < ord.length := by omega
    have hi0 : i < ord.length := by omega
    replace hu : (ord.map fun i : Nat => V.int (i : Int))[i]? = some u := hu
    replace hz' : ((ord.map fun i : Nat => V.int (i : Int)).drop 1)[i]? = some z := hz'
    rw [List.getElem?_map, List.getElem?_eq_getElem hi0] at hu
    rw [List.getElem?_drop, Nat.add_comm 1 i, List.getElem?_map, List.getElem?_eq_getElem hi'] at hz'
    obtain rfl := Option.some.inj hu
    obtain rfl := Option.some.inj hz'
    have m1 := List.mem_range.mp (hOrd.perm.mem_iff.mp (List.getElem_mem hi0))
    have m2 := List.mem_range.mp (hOrd.perm.mem_iff.mp (List.getElem_mem hi'))
    have asc := (List.pairwise_iff_getElem.mp hOrd.asc) i (i + 1) hi0 hi' (Nat.lt_succ_self i)
    generalize ord[i] = at0 at *
    generalize ord[i + 1] = ab at *
    have st := Same.new (o := .tup [V.int (at0 : Int), V.int (ab : Int)]) hT
    refine ⟨T6, _, rfl, SqT.of upd_same, rfl, _, _, rfl, _, _, rfl, rfl, ?_⟩
    have s7 := s6.trans st
    have hDl7 := s7 _ _ (s5 _ _ hDl)
    have sH := (sall.trans s5).trans s7
    generalize upd H5 T6 (.tup [V.int (at0 : Int), V.int (ab : Int)]) = H7 at *
    have lg : ∀ {j : Nat}, j < es.length → ((es.map logE).map V.int)[j]? = some (V.int (logE (es.getD j []))) := fun {j} hj => by
      rw [List.getElem?_map, List.getElem?_map, List.getD_eq_getElem?_getD, List.getElem?_eq_getElem hj]
      rfl
    have rt : ∀ {j : Nat}, j < es.length → ∃ t, ps[j]? = some (V.ref t) ∧ RAt K T.C_Ratio H7 t (es.getD j []) := fun {j} hj => by
      have hj' : j < ps.length := by rw [hR.1]; exact hj
      obtain ⟨t, e, a1, a2, a3⟩ := hR.2 j ps[j] (List.getElem?_eq_getElem hj')
      refine ⟨t, by rw [List.getElem?_eq_getElem hj', a1], ?_⟩
      rw [List.getD_eq_getElem?_getD, a2]
      exact a3.same sH
    have em : ∀ {j : Nat}, j < es.length → es.getD j [] ∈ es := fun {j} hj => by
      rw [List.getD_eq_getElem?_getD, List.getElem?_eq_getElem hj]
      exact List.getElem_mem hj
    obtain ⟨t1, b1, r1⟩ := rt m1
    obtain ⟨t2, b2, r2⟩ := rt m2
    obtain ⟨d1, x1, z1, _⟩ := r1.ex
    obtain ⟨d2, x2, z2, _⟩ := r2.ex
    have ha7 := sH.seq ha
    refine ⟨_, rfl, _, rfl, _, _, _, _, rfl, rfl, SqL.of hDl7, at_of (j := ab) rfl (lg m2), _, rfl, _, rfl, _, _, _, _, rfl, rfl, SqL.of hDl7, at_of (j := at0) rfl (lg m1), _, _, rfl, rfl, _, _, rfl, rfl, _, rfl, ?_⟩
    refine ite2 (fun c => ?_) (fun c => ?_)
    · have c' : logE (es.getD ab []) - logE (es.getD at0 []) ≤ 1000000000000 := of_decide_eq_true c
      have hef : es.getD at0 [] = es.getD ab [] := Decidable.byContradiction fun n => by
        have := hF.2 _ (em m1) _ (em m2) n
        omega
      refine ⟨_, rfl, _, rfl, _, _, _, _, rfl, rfl, ha7, at_of (j := at0) rfl b1, _, rfl, _, rfl, _, _, _, _, rfl, rfl, ha7, at_of (j := ab) rfl b2, t1, d1, _, t2, d2, _, rfl, rfl, z1, z2, t1, t2, _, _, rfl, r1, r2, _, rfl, _, rfl, ?_⟩
      refine iteF' (by rw [decide_eq_true hef]; rfl) ?_
      exact ⟨s7, _, _, rfl⟩
    · refine iteF ?_
      exact ⟨s7, _, _, rfl⟩
  · rintro σ H5 ⟨s6, a4, a5, rfl⟩
    exact ⟨_, rfl, q D3 ord H5 ((sall.trans s5).trans s6) (s6 _ _ (s5 _ _ hD4)) hOrd⟩
end
end TL
namespace TL
open PySem L2

/-! ### steps of a reading -/
local macro_rules | `(tactic| walk_at "hp") => `(tactic| first | assumption | exact upd_same | (refine (upd_ne (by first | assumption | (exact Ne.symm (by assumption)))).trans ?_; walk_at "hp"))
local macro_rules | `(tactic| walk_at "ok") => `(tactic| first | (exact Or.inr ⟨by decide, by decide⟩) | (exact ⟨by decide, by decide⟩) | (exact ⟨by decide, by decide, by decide⟩) | (show _ ≠ _; omega) | (show _ ≠ _; decide) | (exact Or.inl ⟨by omega, by omega⟩) | decide)
local macro_rules | `(tactic| walk_at "sq") => `(tactic| first | assumption | exact SqL.of (by walk_at "hp") | exact SqT.of (by walk_at "hp"))
local macro_rules | `(tactic| walk_at "ty") => `(tactic| first | refine ⟨_, _, Value.type "int", Value.type "list", false, rfl, ClsV.ty _, TyX.base (TyOf.int _), kt_int_list, ?_⟩ | refine ⟨_, _, Value.type "bool", Value.type "list", false, rfl, ClsV.ty _, TyX.base (TyOf.bl _), kt_bool_list, ?_⟩ | refine ⟨_, _, Value.type "str", Value.type "list", false, rfl, ClsV.ty _, TyX.base (TyOf.str _), kt_str_list, ?_⟩ | refine ⟨_, _, Value.type "NoneType", Value.type "list", false, rfl, ClsV.ty _, TyX.base TyOf.non, kt_NoneType_list, ?_⟩ | refine ⟨_, _, Value.type "list", Value.type "list", true, rfl, ClsV.ty _, tyx_L (by walk_at "sq"), kt_list_list, ?_⟩ | refine ⟨_, _, Value.type "tuple", Value.type "list", false, rfl, ClsV.ty _, tyx_T (by walk_at "sq"), kt_tuple_list, ?_⟩ | refine ⟨_, _, Value.type "int", Value.type "tuple", false, rfl, ClsV.ty _, TyX.base (TyOf.int _), kt_int_tuple, ?_⟩ | refine ⟨_, _, Value.type "bool", Value.type "tuple", false, rfl, ClsV.ty _, TyX.base (TyOf.bl _), kt_bool_tuple, ?_⟩ | refine ⟨_, _, Value.type "str", Value.type "tuple", false, rfl, ClsV.ty _, TyX.base (TyOf.str _), kt_str_tuple, ?_⟩ | refine ⟨_, _, Value.type "NoneType", Value.type "tuple", false, rfl, ClsV.ty _, TyX.base TyOf.non, kt_NoneType_tuple, ?_⟩ | refine ⟨_, _, Value.type "list", Value.type "tuple", false, rfl, ClsV.ty _, tyx_L (by walk_at "sq"), kt_list_tuple, ?_⟩ | refine ⟨_, _, Value.type "tuple", Value.type "tuple", true, rfl, ClsV.ty _, tyx_T (by walk_at "sq"), kt_tuple_tuple, ?_⟩ | refine ⟨_, _, Value.type "int", Value.type "bool", false, rfl, ClsV.ty _, TyX.base (TyOf.int _), kt_int_bool, ?_⟩ | refine ⟨_, _, Value.type "bool", Value.type "bool", true, rfl, ClsV.ty _, TyX.base (TyOf.bl _), kt_bool_bool, ?_⟩ | refine ⟨_, _, Value.type "str", Value.type "bool", false, rfl, ClsV.ty _, TyX.base (TyOf.str _), kt_str_bool, ?_⟩ | refine ⟨_, _, Value.type "NoneType", Value.type "bool", false, rfl, ClsV.ty _, TyX.base TyOf.non, kt_NoneType_bool, ?_⟩ | refine ⟨_, _, Value.type "list", Value.type "bool", false, rfl, ClsV.ty _, tyx_L (by walk_at "sq"), kt_list_bool, ?_⟩ | refine ⟨_, _, Value.type "tuple", Value.type "bool", false, rfl, ClsV.ty _, tyx_T (by walk_at "sq"), kt_tuple_bool, ?_⟩ | refine ⟨_, _, Value.type "int", Value.type "int", true, rfl, ClsV.ty _, TyX.base (TyOf.int _), kt_int_int, ?_⟩ | refine ⟨_, _, Value.type "bool", Value.type "int", true, rfl, ClsV.ty _, TyX.base (TyOf.bl _), kt_bool_int, ?_⟩ | refine ⟨_, _, Value.type "str", Value.type "int", false, rfl, ClsV.ty _, TyX.base (TyOf.str _), kt_str_int, ?_⟩ | refine ⟨_, _, Value.type "NoneType", Value.type "int", false, rfl, ClsV.ty _, TyX.base TyOf.non, kt_NoneType_int, ?_⟩ | refine ⟨_, _, Value.type "list", Value.type "int", false, rfl, ClsV.ty _, tyx_L (by walk_at "sq"), kt_list_int, ?_⟩ | refine ⟨_, _, Value.type "tuple", Value.type "int", false, rfl, ClsV.ty _, tyx_T (by walk_at "sq"), kt_tuple_int, ?_⟩ | refine ⟨_, _, Value.type "int", Value.type "str", false, rfl, ClsV.ty _, TyX.base (TyOf.int _), kt_int_str, ?_⟩ | refine ⟨_, _, Value.type "bool", Value.type "str", false, rfl, ClsV.ty _, TyX.base (TyOf.bl _), kt_bool_str, ?_⟩ | refine ⟨_, _, Value.type "str", Value.type "str", true, rfl, ClsV.ty _, TyX.base (TyOf.str _), kt_str_str, ?_⟩ | refine ⟨_, _, Value.type "NoneType", Value.type "str", false, rfl, ClsV.ty _, TyX.base TyOf.non, kt_NoneType_str, ?_⟩ | refine ⟨_, _, Value.type "list", Value.type "str", false, rfl, ClsV.ty _, tyx_L (by walk_at "sq"), kt_list_str, ?_⟩ | refine ⟨_, _, Value.type "tuple", Value.type "str", false, rfl, ClsV.ty _, tyx_T (by walk_at "sq"), kt_tuple_str, ?_⟩)
local macro_rules | `(tactic| walk_at "go1") => `(tactic| first
  | (refine ⟨_, rfl, ?_⟩)
  | (refine ⟨_, _, rfl, rfl, ?_⟩)
  | (refine ⟨_, _, _, _, rfl, rfl, SqL.of (by walk_at "hp"), rfl, ?_⟩)
  | (refine Or.inl ⟨_, rfl, ?_⟩)
  | (refine ⟨rfl, ?_⟩)
  | (refine ⟨_, _, rfl, .inl (SqL.of (by walk_at "hp")), ?_⟩)
  | (refine ⟨_, _, rfl, Or.inl (by assumption), ?_⟩)
  | (refine ⟨_, _, rfl, Or.inr (by assumption), ?_⟩)
  | (refine ⟨(by walk_at "ok"), ?_⟩)
  | (refine ⟨_, _, _, _, rfl, rfl, (by walk_at "hp"), rfl, ?_⟩))
local macro_rules | `(tactic| walk_at "go") => `(tactic| repeat (walk_at "go1"))
local macro_rules | `(tactic| walk_at "gt") => `(tactic| repeat (first | walk_at "go1" | walk_at "ty"))

section
variable {P : Program} {w : World} {K : PySem.W.Frag} {mg : Str → Option Value} {base : Heap}
def spOrderT (K : PySem.W.Frag) (C : Addr) : Sp := fun vs H Q _ => ∃ (a : Addr) (ps : List V) (es : List (List Int)), vs = [.ref a] ∧ SqT K H a ps ∧ Ras K C H ps es ∧ es.length ≤ 1000 ∧ Far es ∧ ∀ t ord H', Same H H' → H' t = some (.lst (ord.map fun i : Nat => V.int (i : Int))) → OrdOf es ord → Q (.ref t) H'
theorem ok_orderT (T : Tx K mg) : FnOk P w K mg base CX0 3 T.f_order_of T.d_order_of ["ratios"] (spOrderT K T.C_Ratio) := by
  have G_log_of := ok_log_of (P := P) (w := w) (base := base) T
  have G_Ratio_powers := ok_powers (P := P) (w := w) (base := base) T
  have G_Ratio_eq := ok_req (P := P) (w := w) (base := base) T
  have G__exact_order := never_exact (P := P) (w := w) (base := base) (T := T)
  refine T.F_order_of.ok sc_order_of (fun vs H Q E h => ?_) (fun cdv A outer s H vs Q E hr h => ?_)
  · obtain ⟨a, ps, es, rfl, _⟩ := h
    rfl
  obtain ⟨a, ps, es, rfl, ha, hR, hz, hF, q⟩ := h
  have nd := sc_order_of.nd
  refine ⟨_, (pss_cons (ps_setLc (i := 1) (own := [("ratio", 6)]) (g := (gName 6)) rfl nd rfl rfl (sw_true rfl rfl rfl (by decide +kernel)) (show PI _ _ _ (iTup K _) from pi_tup (pv 0)) (blkOk_by (own := [("ratio", 6)]) (N := N_order_of) (sc := defScope s_order_of) (by decide +kernel)) (fun _ _ _ _ _ => by exact (pg_name (i := 6) nd rfl (Or.inl rfl))) (fun _ _ _ _ _ => by exact pts_nil) (fun _ _ _ _ _ => by exact (pe_call G_log_of (hr.mono (by decide)) (by rfl) T.m_log_of T.F_log_of.kp T.b_log_of .nil pass0 (pa_cons (pe_meth0 (pv 6) T.c_Ratio T.a_Ratio_powers G_Ratio_powers (hr.mono (by decide)) T.b_Ratio_powers .nil pass0) pa_nil))))
    (pss_cons (ps_set (i := 2) nd rfl (Or.inl rfl) (pe_callB (show CallR _ _ (rSortedPO K) from cr_sortedPO) (by rfl) T.z_sorted (by decide +kernel) (pa_cons (pe_lc (own := [("at", 4), ("log", 8)]) (g := (gTup K 2 (gCons (gName 4) (gCons (gName 8) gNil)))) rfl nd (pi_enum (by rfl) T.z_enumerate (pa_cons (pv 1) pa_nil)) (blkOk_by (own := [("at", 4), ("log", 8)]) (N := N_order_of) (sc := defScope s_order_of) (by decide +kernel)) (fun _ _ _ _ _ => by exact (pg_tup rfl (pgs_cons (pg_name (i := 4) nd rfl (Or.inl rfl)) (pgs_cons (pg_name (i := 8) nd rfl (Or.inl rfl)) pgs_nil)))) (fun _ _ _ _ _ => by exact pts_nil) (fun _ _ _ _ _ => by exact (pe_tup (pa_cons (pv 8) (pa_cons (pv 4) pa_nil))))) pa_nil)))
    (pss_cons (ps_setLc (i := 3) (own := [("_", 7), ("at", 4)]) (g := (gTup K 2 (gCons (gName 7) (gCons (gName 4) gNil)))) rfl nd rfl rfl (sw_true rfl rfl rfl (by decide +kernel)) (show PI _ _ _ (iList K _) from pi_list (pv 2)) (blkOk_by (own := [("_", 7), ("at", 4)]) (N := N_order_of) (sc := defScope s_order_of) (by decide +kernel)) (fun _ _ _ _ _ => by exact (pg_tup rfl (pgs_cons (pg_name (i := 7) nd rfl (Or.inl rfl)) (pgs_cons (pg_name (i := 4) nd rfl (Or.inl rfl)) pgs_nil)))) (fun _ _ _ _ _ => by exact pts_nil) (fun _ _ _ _ _ => by exact (pv 4)))
    (pss_cons (ps_for PassesOwn.never rfl (show PI _ _ _ (RZ.iZipA K _) from RZ.pi_zipA (by rfl) T.z_zip (pa_cons (pv 3) (pa_cons (pe_slice (show SlR _ (rSlL K) from sl_list) (pv 3) (po_some pe_int) po_none) pa_nil))) (pg_tup rfl (pgs_cons (pg_name (i := 4) nd rfl (Or.inl rfl)) (pgs_cons (pg_name (i := 5) nd rfl (Or.inl rfl)) pgs_nil))) (pss_one (ps_if (PW.pt (pw_and (pt_cmpR op_le (pe_op op_sub (pe_ix (show IxR _ (rIxL K) from ix_list) (pv 1) (pv 5) (fun _ _ => rfl)) (pe_ix (show IxR _ (rIxL K) from ix_list) (pv 1) (pv 4) (fun _ _ => rfl))) (pe_glob (v := .int 1000000000000) (by rfl) T.m_SLACK ⟨_, rfl⟩) (nomark _)) (pw_and1 (pt_cmpR (op_owNe T.a_Ratio_eq.at_ T.a_Ratio_eq.fn T.ne_Ratio T.i_Ratio.cm G_Ratio_eq hr T.b_Ratio_eq pass0) (pe_ix (show IxR _ (rIxT K) from ix_tup) (pv 0) (pv 4) (fun _ _ => rfl)) (pe_ix (show IxR _ (rIxT K) from ix_tup) (pv 0) (pv 5) (fun _ _ => rfl)) (nomark _))))) (pss_one (ps_ret (pe_call G__exact_order (hr.mono (by decide)) (by rfl) T.m__exact_order T.F__exact_order.kp T.b__exact_order .nil pass0 (pa_cons (pv 0) pa_nil)))) pss_nil)))
    (pss_one (ps_ret (pv 3))))))), ?_⟩
  refine ⟨_, rfl, a, rfl, ⟨_, ha⟩, fun D hD => ?_⟩
  refine lcm (walk_tup (K := K) (a := a) (xs := ps)) ((es.map logE).map V.int) (by rw [List.length_map, List.length_map, hR.1]) (by rw [hR.1]; omega) hD (fun H' s' => seqT s' ha) ?_ ?_
  · rintro i y x H1 H2 hi hy s1 ⟨rfl, hx⟩ k hk
    obtain ⟨t, e, rfl, he, ht⟩ := hR.2 i x hx
    rw [List.getElem?_map, List.getElem?_map, he] at hy
    obtain rfl := Option.some.inj hy
    obtain ⟨dx, tp, h1, h2⟩ := (ht.same s1).ex
    exact ⟨rfl, _, rfl, t, dx, _, rfl, h1, rf_pows4, t, e, rfl, ht.same s1, fun tu htu => ⟨tu, e, rfl, htu, ht.len, hF.1 e (List.mem_of_getElem? he), fun H3 s3 => hk H3 s3⟩⟩
  intro H1 s1 hD1
  refine ⟨_, rfl, D, _, rfl, SqL.of hD1, fun D2 hD2 => ?_⟩
  refine lcs (walk_enum (K := K) (a := D) (xs := (es.map logE).map V.int)) (fun i y H => ∃ t e, y = V.ref t ∧ es[i]? = some e ∧ H t = some (.tup [.int (logE e), .int (i : Int)])) (fun i y H1 H2 s1 ⟨t, e, a1, a2, a3⟩ => ⟨t, e, a1, a2, s1 _ _ a3⟩)
    (fun i y H1 zs zs' hz' ⟨t, e, a1, a2, a3⟩ => ⟨t, e, a1, a2, by rw [upd_ne (ne_of a3 hz' (by intro z; cases z))]; exact a3⟩) (by rw [List.length_map, List.length_map]; omega) hD2 (fun H1 s1 => SqL.of (s1 _ _ hD1)) ?_ fun ys H2 hl hys s2 hD2' => ?_
  · rintro i x H2 H3 hi s2 ⟨T2, u, z, rfl, hT, rfl, hu, hz'⟩ k hk
    obtain rfl : V.int (i : Nat) = u := Option.some.inj hu
    replace hz' : ((es.map logE).map V.int)[i]? = some z := hz'
    rw [List.getElem?_map, List.getElem?_map] at hz'
    obtain ⟨l, hl1, rfl⟩ := Option.map_eq_some_iff.mp hz'
    obtain ⟨e, he, rfl⟩ := Option.map_eq_some_iff.mp hl1
    exact ⟨T2, _, rfl, SqT.of upd_same, rfl, _, _, rfl, _, _, rfl, rfl, rfl, _, rfl, _, rfl, (by show 2 ≤ sizeLine; decide), fun tp htp => hk _ _ ((Same.new hT).trans (Same.new htp)) ⟨tp, e, rfl, he, upd_same⟩⟩
  have hlen : ys.length = es.length := by rw [hl, List.length_map, List.length_map]
  refine ⟨D2, ys, kV H2, rfl, SqL.of hD2', fun x hx => ?_, fun zs p hsr hst hp => ?_⟩
  · obtain ⟨i, hi⟩ := List.mem_iff_getElem?.mp hx
    obtain ⟨t, e, rfl, a2, a3⟩ := hys i x hi
    rw [kV_of a3]
    exact ⟨t, rfl, a3⟩
  have hOrd := ord_of hlen (fun i y hy => by
    obtain ⟨t, e, rfl, a2, a3⟩ := hys i y hy
    exact ⟨e, a2, kV_of a3⟩) hsr hst
  have sp := Same.new (o := .lst zs) hp
  have hp3 : upd H2 p (.lst zs) p = some (.lst zs) := upd_same
  generalize hH3 : upd H2 p (.lst zs) = H3 at *
  have memz : ∀ x ∈ zs, ∃ (j : Nat) (t : Addr) (e : List Int), x = V.ref t ∧ es[j]? = some e ∧ H2 t = some (.tup [.int (logE e), .int (j : Int)]) := fun x hx => by
    obtain ⟨i, hi⟩ := List.mem_iff_getElem?.mp (hst.perm.mem_iff.mp hx)
    obtain ⟨t, e, a1, a2, a3⟩ := hys i x hi
    exact ⟨i, t, e, a1, a2, a3⟩
  have hord : ∀ x ∈ zs, ∀ (j : Nat) (e : List Int) (t : Addr), x = V.ref t → H2 t = some (.tup [.int (logE e), .int (j : Int)]) → (kV H2 x).2.toNat = j := fun x _ j e t a1 a3 => by
    rw [a1, kV_of a3]
    rfl
  refine ⟨_, rfl, p, rfl, ⟨_, SqL.of hp3⟩, fun D3 hD3 => ?_⟩
  have hzl : zs.length ≤ 100000 := by have := hst.len; omega
  refine lcm (walk_list (K := K) (a := p) (xs := zs)) ((zs.map fun v => (kV H2 v).2.toNat).map fun i : Nat => V.int (i : Int)) (by rw [List.length_map, List.length_map]) hzl hD3 (fun H' s' => SqL.of (s' _ _ hp3)) ?_ ?_
  · rintro i y x H4 H5 hi hy s4 ⟨rfl, hx⟩ k hk
    have hx' : zs[i]? = some x := hx
    obtain ⟨j, t, e, rfl, he, ht⟩ := memz x (List.mem_of_getElem? hx')
    rw [List.getElem?_map, List.getElem?_map, hx'] at hy
    obtain rfl := Option.some.inj hy
    refine ⟨t, _, rfl, SqT.of (s4 _ _ (sp _ _ ht)), rfl, _, _, rfl, _, _, rfl, rfl, rfl, _, rfl, ?_⟩
    have := hk _ (Same.refl _)
    dsimp only at this
    rw [hord _ (List.mem_of_getElem? hx') j e t rfl ht] at this
    exact this
  intro H4 s4 hD4
  generalize (zs.map fun v => (kV H2 v).2.toNat) = ord at *
  have hle := hOrd.perm.length_eq
  rw [List.length_range] at hle
  have sall : Same H H4 := ((s1.trans s2).trans sp).trans s4
  have hDl := s4 _ _ (sp _ _ (s2 _ _ hD1))
  clear hst hsr memz hord hzl hys hD2 hD2' hlen hl hp hp3 hH3 sp s2 s1 hD1 hD3 hD s4
  refine ⟨_, rfl, _, rfl, _, rfl, D3, _, rfl, SqL.of hD4, fun p5 hp5 => ?_⟩
  rw [cut_drop]
  have s5 := Same.new (o := .lst ((ord.map fun i : Nat => V.int (i : Int)).drop 1)) hp5
  refine ⟨D3, p5, _, _, rfl, .inl ⟨SqL.of (s5 _ _ hD4), SqL.of upd_same, for_it (walk_zip (n := ord.length - 1) (by rw [List.length_drop, List.length_map]; omega)) (fun i σ H' => Same (upd H4 p5 (.lst ((ord.map fun i : Nat => V.int (i : Int)).drop 1))) H' ∧ ∃ a4 a5, σ = [some (.ref a), some (.ref D), some (.ref p), some (.ref D3), a4, a5, none, none, none]) ⟨Same.refl _, _, _, rfl⟩ (fun _ _ _ _ h => ⟨SqL.of (h.1 _ _ (s5 _ _ hD4)), SqL.of (h.1 _ _ upd_same)⟩) ?_ ?_⟩⟩
  · rintro i v σ H5 H6 hi ⟨s6, a4, a5, rfl⟩ ⟨T6, u, z, rfl, hT, rfl, hu, hz'⟩
    have hi' : i + 1 < ord.length := by omega
    have hi0 : i < ord.length := by omega
    replace hu : (ord.map fun i : Nat => V.int (i : Int))[i]? = some u := hu
    replace hz' : ((ord.map fun i : Nat => V.int (i : Int)).drop 1)[i]? = some z := hz'
    rw [List.getElem?_map, List.getElem?_eq_getElem hi0] at hu
    rw [List.getElem?_drop, Nat.add_comm 1 i, List.getElem?_map, List.getElem?_eq_getElem hi'] at hz'
    obtain rfl := Option.some.inj hu
    obtain rfl := Option.some.inj hz'
    have m1 := List.mem_range.mp (hOrd.perm.mem_iff.mp (List.getElem_mem hi0))
    have m2 := List.mem_range.mp (hOrd.perm.mem_iff.mp (List.getElem_mem hi'))
    have asc := (List.pairwise_iff_getElem.mp hOrd.asc) i (i + 1) hi0 hi' (Nat.lt_succ_self i)
    generalize ord[i] = at0 at *
    generalize ord[i + 1] = ab at *
    have st := Same.new (o := .tup [V.int (at0 : Int), V.int (ab : Int)]) hT
    refine ⟨T6, _, rfl, SqT.of upd_same, rfl, _, _, rfl, _, _, rfl, rfl, ?_⟩
    have s7 := s6.trans st
    have hDl7 := s7 _ _ (s5 _ _ hDl)
    have sH := (sall.trans s5).trans s7
    generalize upd H5 T6 (.tup [V.int (at0 : Int), V.int (ab : Int)]) = H7 at *
    have lg : ∀ {j : Nat}, j < es.length → ((es.map logE).map V.int)[j]? = some (V.int (logE (es.getD j []))) := fun {j} hj => by
      rw [List.getElem?_map, List.getElem?_map, List.getD_eq_getElem?_getD, List.getElem?_eq_getElem hj]
      rfl
    have rt : ∀ {j : Nat}, j < es.length → ∃ t, ps[j]? = some (V.ref t) ∧ RAt K T.C_Ratio H7 t (es.getD j []) := fun {j} hj => by
      have hj' : j < ps.length := by rw [hR.1]; exact hj
      obtain ⟨t, e, a1, a2, a3⟩ := hR.2 j ps[j] (List.getElem?_eq_getElem hj')
      refine ⟨t, by rw [List.getElem?_eq_getElem hj', a1], ?_⟩
      rw [List.getD_eq_getElem?_getD, a2]
      exact a3.same sH
    have em : ∀ {j : Nat}, j < es.length → es.getD j [] ∈ es := fun {j} hj => by
      rw [List.getD_eq_getElem?_getD, List.getElem?_eq_getElem hj]
      exact List.getElem_mem hj
    obtain ⟨t1, b1, r1⟩ := rt m1
    obtain ⟨t2, b2, r2⟩ := rt m2
    obtain ⟨d1, x1, z1, _⟩ := r1.ex
    obtain ⟨d2, x2, z2, _⟩ := r2.ex
    have ha7 := seqT sH ha
    refine ⟨_, rfl, _, rfl, _, _, _, _, rfl, rfl, SqL.of hDl7, at_of (j := ab) rfl (lg m2), _, rfl, _, rfl, _, _, _, _, rfl, rfl, SqL.of hDl7, at_of (j := at0) rfl (lg m1), _, _, rfl, rfl, _, _, rfl, rfl, _, rfl, ?_⟩
    refine ite2 (fun c => ?_) (fun c => ?_)
    · have c' : logE (es.getD ab []) - logE (es.getD at0 []) ≤ 1000000000000 := of_decide_eq_true c
      have hef : es.getD at0 [] = es.getD ab [] := Decidable.byContradiction fun n => by
        have := hF.2 _ (em m1) _ (em m2) n
        omega
      refine ⟨_, rfl, _, rfl, _, _, _, _, rfl, rfl, ha7, at_of (j := at0) rfl b1, _, rfl, _, rfl, _, _, _, _, rfl, rfl, ha7, at_of (j := ab) rfl b2, t1, d1, _, t2, d2, _, rfl, rfl, z1, z2, t1, t2, _, _, rfl, r1, r2, _, rfl, _, rfl, ?_⟩
      refine iteF' (by rw [decide_eq_true hef]; rfl) ?_
      exact ⟨s7, _, _, rfl⟩
    · refine iteF ?_
      exact ⟨s7, _, _, rfl⟩
  · rintro σ H5 ⟨s6, a4, a5, rfl⟩
    exact ⟨_, rfl, q D3 ord H5 ((sall.trans s5).trans s6) (s6 _ _ (s5 _ _ hD4)) hOrd⟩
end
end TL
namespace TL
open PySem L2

/-! ### steps of a reading -/
local macro_rules | `(tactic| walk_at "hp") => `(tactic| first | assumption | exact upd_same | (refine (upd_ne (by first | assumption | (exact Ne.symm (by assumption)))).trans ?_; walk_at "hp"))
local macro_rules | `(tactic| walk_at "ok") => `(tactic| first | (exact Or.inr ⟨by decide, by decide⟩) | (exact ⟨by decide, by decide⟩) | (exact ⟨by decide, by decide, by decide⟩) | (show _ ≠ _; omega) | (show _ ≠ _; decide) | (exact Or.inl ⟨by omega, by omega⟩) | decide)
local macro_rules | `(tactic| walk_at "sq") => `(tactic| first | assumption | exact SqL.of (by walk_at "hp") | exact SqT.of (by walk_at "hp"))
local macro_rules | `(tactic| walk_at "ty") => `(tactic| first | refine ⟨_, _, Value.type "int", Value.type "list", false, rfl, ClsV.ty _, TyX.base (TyOf.int _), kt_int_list, ?_⟩ | refine ⟨_, _, Value.type "bool", Value.type "list", false, rfl, ClsV.ty _, TyX.base (TyOf.bl _), kt_bool_list, ?_⟩ | refine ⟨_, _, Value.type "str", Value.type "list", false, rfl, ClsV.ty _, TyX.base (TyOf.str _), kt_str_list, ?_⟩ | refine ⟨_, _, Value.type "NoneType", Value.type "list", false, rfl, ClsV.ty _, TyX.base TyOf.non, kt_NoneType_list, ?_⟩ | refine ⟨_, _, Value.type "list", Value.type "list", true, rfl, ClsV.ty _, tyx_L (by walk_at "sq"), kt_list_list, ?_⟩ | refine ⟨_, _, Value.type "tuple", Value.type "list", false, rfl, ClsV.ty _, tyx_T (by walk_at "sq"), kt_tuple_list, ?_⟩ | refine ⟨_, _, Value.type "int", Value.type "tuple", false, rfl, ClsV.ty _, TyX.base (TyOf.int _), kt_int_tuple, ?_⟩ | refine ⟨_, _, Value.type "bool", Value.type "tuple", false, rfl, ClsV.ty _, TyX.base (TyOf.bl _), kt_bool_tuple, ?_⟩ | refine ⟨_, _, Value.type "str", Value.type "tuple", false, rfl, ClsV.ty _, TyX.base (TyOf.str _), kt_str_tuple, ?_⟩ | refine ⟨_, _, Value.type "NoneType", Value.type "tuple", false, rfl, ClsV.ty _, TyX.base TyOf.non, kt_NoneType_tuple, ?_⟩ | refine ⟨_, _, Value.type "list", Value.type "tuple", false, rfl, ClsV.ty _, tyx_L (by walk_at "sq"), kt_list_tuple, ?_⟩ | refine ⟨_, _, Value.type "tuple", Value.type "tuple", true, rfl, ClsV.ty _, tyx_T (by walk_at "sq"), kt_tuple_tuple, ?_⟩ | refine ⟨_, _, Value.type "int", Value.type "bool", false, rfl, ClsV.ty _, TyX.base (TyOf.int _), kt_int_bool, ?_⟩ | refine ⟨_, _, Value.type "bool", Value.type "bool", true, rfl, ClsV.ty _, TyX.base (TyOf.bl _), kt_bool_bool, ?_⟩ | refine ⟨_, _, Value.type "str", Value.type "bool", false, rfl, ClsV.ty _, TyX.base (TyOf.str _), kt_str_bool, ?_⟩ | refine ⟨_, _, Value.type "NoneType", Value.type "bool", false, rfl, ClsV.ty _, TyX.base TyOf.non, kt_NoneType_bool, ?_⟩ | refine ⟨_, _, Value.type "list", Value.type "bool", false, rfl, ClsV.ty _, tyx_L (by walk_at "sq"), kt_list_bool, ?_⟩ | refine ⟨_, _, Value.type "tuple", Value.type "bool", false, rfl, ClsV.ty _, tyx_T (by walk_at "sq"), kt_tuple_bool, ?_⟩ | refine ⟨_, _, Value.type "int", Value.type "int", true, rfl, ClsV.ty _, TyX.base (TyOf.int _), kt_int_int, ?_⟩ | refine ⟨_, _, Value.type "bool", Value.type "int", true, rfl, ClsV.ty _, TyX.base (TyOf.bl _), kt_bool_int, ?_⟩ | refine ⟨_, _, Value.type "str", Value.type "int", false, rfl, ClsV.ty _, TyX.base (TyOf.str _), kt_str_int, ?_⟩ | refine ⟨_, _, Value.type "NoneType", Value.type "int", false, rfl, ClsV.ty _, TyX.base TyOf.non, kt_NoneType_int, ?_⟩ | refine ⟨_, _, Value.type "list", Value.type "int", false, rfl, ClsV.ty _, tyx_L (by walk_at "sq"), kt_list_int, ?_⟩ | refine ⟨_, _, Value.type "tuple", Value.type "int", false, rfl, ClsV.ty _, tyx_T (by walk_at "sq"), kt_tuple_int, ?_⟩ | refine ⟨_, _, Value.type "int", Value.type "str", false, rfl, ClsV.ty _, TyX.base (TyOf.int _), kt_int_str, ?_⟩ | refine ⟨_, _, Value.type "bool", Value.type "str", false, rfl, ClsV.ty _, TyX.base (TyOf.bl _), kt_bool_str, ?_⟩ | refine ⟨_, _, Value.type "str", Value.type "str", true, rfl, ClsV.ty _, TyX.base (TyOf.str _), kt_str_str, ?_⟩ | refine ⟨_, _, Value.type "NoneType", Value.type "str", false, rfl, ClsV.ty _, TyX.base TyOf.non, kt_NoneType_str, ?_⟩ | refine ⟨_, _, Value.type "list", Value.type "str", false, rfl, ClsV.ty _, tyx_L (by walk_at "sq"), kt_list_str, ?_⟩ | refine ⟨_, _, Value.type "tuple", Value.type "str", false, rfl, ClsV.ty _, tyx_T (by walk_at "sq"), kt_tuple_str, ?_⟩)
local macro_rules | `(tactic| walk_at "go1") => `(tactic| first
  | (refine ⟨_, rfl, ?_⟩)
  | (refine ⟨_, _, rfl, rfl, ?_⟩)
  | (refine ⟨_, _, _, _, rfl, rfl, SqL.of (by walk_at "hp"), rfl, ?_⟩)
  | (refine Or.inl ⟨_, rfl, ?_⟩)
  | (refine ⟨rfl, ?_⟩)
  | (refine ⟨_, _, rfl, .inl (SqL.of (by walk_at "hp")), ?_⟩)
  | (refine ⟨_, _, rfl, Or.inl (by assumption), ?_⟩)
  | (refine ⟨_, _, rfl, Or.inr (by assumption), ?_⟩)
  | (refine ⟨(by walk_at "ok"), ?_⟩)
  | (refine ⟨_, _, _, _, rfl, rfl, (by walk_at "hp"), rfl, ?_⟩))
local macro_rules | `(tactic| walk_at "go") => `(tactic| repeat (walk_at "go1"))
local macro_rules | `(tactic| walk_at "gt") => `(tactic| repeat (first | walk_at "go1" | walk_at "ty"))

section
variable {P : Program} {w : World} {K : PySem.W.Frag} {mg : Str → Option Value} {base : Heap}
-- [0=ratios, 1=found, 2=at]
/-- the ascending list of the different ones -/
structure Asc (es gs : List (List Int)) : Prop where
  asc : gs.Pairwise fun x y => logE x < logE y
  mem : ∀ e, e ∈ gs ↔ e ∈ es
/-- what the first so many of an ascending list leave -/
structure Gs (ks : List (List Int)) (i : Nat) (gs : List (List Int)) : Prop where
  asc : gs.Pairwise fun x y => logE x < logE y
  mem : ∀ e, e ∈ gs ↔ e ∈ ks.take i
  lst : gs.getLast? = (ks.take i).getLast?
theorem Gs.zero (ks : List (List Int)) : Gs ks 0 [] := ⟨List.Pairwise.nil, fun e => by rw [List.take_zero], by rw [List.take_zero]⟩
theorem take_snoc {α : Type} {ks : List α} {i : Nat} {e : α} (he : ks[i]? = some e) : ks.take (i + 1) = ks.take i ++ [e] := by
  rw [List.take_succ, he]
  rfl
theorem Gs.stay {ks gs : List (List Int)} {i : Nat} {e : List Int} (g : Gs ks i gs) (he : ks[i]? = some e) (hl : gs.getLast? = some e) : Gs ks (i + 1) gs := by
  have m : e ∈ gs := List.mem_of_getLast? hl
  refine ⟨g.asc, fun f => ?_, ?_⟩
  · rw [take_snoc he, List.mem_append, ← g.mem, List.mem_singleton]
    exact ⟨.inl, fun h => h.elim id fun h => h ▸ m⟩
  · rw [take_snoc he, List.getLast?_append, hl]
    rfl
theorem Gs.more {ks gs : List (List Int)} {i : Nat} {e : List Int} (g : Gs ks i gs) (he : ks[i]? = some e) (hp : ks.Pairwise fun x y => logE x ≤ logE y) (hF : ∀ x ∈ ks, ∀ y ∈ ks, x ≠ y → 10 ^ 12 < (logE x - logE y).natAbs) (hl : gs.getLast? ≠ some e) : Gs ks (i + 1) (gs ++ [e]) := by
  refine ⟨?_, fun f => ?_, ?_⟩
  · rw [List.pairwise_append]
    refine ⟨g.asc, List.pairwise_singleton .., fun x hx y hy => ?_⟩
    obtain rfl := List.mem_singleton.mp hy
    obtain ⟨g0, l, rfl⟩ : ∃ g0 l, gs = g0 ++ [l] := by
      rcases List.eq_nil_or_concat gs with h | ⟨g0, l, h⟩
      · rw [h] at hx
        cases hx
      · exact ⟨g0, l, by rw [h, List.concat_eq_append]⟩
    rw [List.getLast?_append, List.getLast?_singleton] at hl
    have hne : l ≠ y := fun z => hl (by rw [z]; rfl)
    have ml : l ∈ ks.take i := (g.mem l).mp (List.mem_append_right _ (List.mem_singleton.mpr rfl))
    have hlk : l ∈ ks := List.mem_of_mem_take ml
    have hyk : y ∈ ks := List.mem_of_getElem? he
    obtain ⟨j, hj⟩ := List.mem_iff_getElem?.mp ml
    rw [List.getElem?_take] at hj
    split at hj
    · rename_i hji
      obtain ⟨a1, a2⟩ := List.getElem?_eq_some_iff.mp hj
      obtain ⟨b1, b2⟩ := List.getElem?_eq_some_iff.mp he
      have := (List.pairwise_iff_getElem.mp hp) j i a1 b1 hji
      rw [a2, b2] at this
      have far := hF _ hlk _ hyk hne
      have xl : logE x ≤ logE l := by
        rcases List.mem_append.mp hx with h | h
        · exact Int.le_of_lt ((List.pairwise_append.mp g.asc).2.2 x h l (List.mem_singleton.mpr rfl))
        · rw [List.mem_singleton.mp h]
          exact Int.le_refl _
      omega
    · cases hj
  · rw [take_snoc he, List.mem_append, List.mem_append, g.mem]
  · rw [take_snoc he, List.getLast?_append, List.getLast?_append, List.getLast?_singleton]
    rfl
theorem Gs.asc_of {es gs : List (List Int)} {ord : List Nat} (hO : OrdOf es ord) (g : Gs (ord.map fun n => es.getD n []) ord.length gs) : Asc es gs := by
  refine ⟨g.asc, fun e => ?_⟩
  rw [g.mem, List.take_of_length_le (by rw [List.length_map]; exact Nat.le_refl _), List.mem_map]
  constructor
  · rintro ⟨n, hn, rfl⟩
    have := List.mem_range.mp (hO.perm.mem_iff.mp hn)
    rw [List.getD_eq_getElem?_getD, List.getElem?_eq_getElem this]
    exact List.getElem_mem this
  · intro he
    obtain ⟨n, hn, rfl⟩ := List.mem_iff_getElem.mp he
    exact ⟨n, hO.perm.mem_iff.mpr (List.mem_range.mpr hn), by rw [List.getD_eq_getElem?_getD, List.getElem?_eq_getElem hn]; rfl⟩
theorem RAt.lst {C : Addr} {g : Addr} {H : Hp} {t : Addr} {e : List Int} {zs zs' : List V} (hg : H g = some (.lst zs)) (h : RAt K C H t e) : RAt K C (upd H g (.lst zs')) t e := by
  obtain ⟨dx, t', h1, h2⟩ := h.ex
  exact ⟨⟨dx, t', Kb.at _ _ h1 (ne_of h1 hg (by intro z; cases z)), seqT_kb hg Kb.at h2⟩, h.len⟩
theorem Ras.lst {C : Addr} {g : Addr} {H : Hp} {ps : List V} {es : List (List Int)} {zs zs' : List V} (hg : H g = some (.lst zs)) (h : Ras K C H ps es) : Ras K C (upd H g (.lst zs')) ps es := ⟨h.1, fun i p hp => by
  obtain ⟨t, e, e1, e2, e3⟩ := h.2 i p hp
  exact ⟨t, e, e1, e2, e3.lst hg⟩⟩
theorem Ras.snoc {C : Addr} {H : Hp} {ps : List V} {es : List (List Int)} {t : Addr} {e : List Int} (h : Ras K C H ps es) (ht : RAt K C H t e) : Ras K C H (ps ++ [.ref t]) (es ++ [e]) := ⟨by rw [List.length_append, List.length_append, h.1]; rfl, fun i p hp => by
  by_cases q : i < ps.length
  · rw [List.getElem?_append_left q] at hp
    rw [List.getElem?_append_left (by rw [← h.1]; exact q)]
    exact h.2 i p hp
  · have q' : ps.length ≤ i := Nat.le_of_not_lt q
    rw [List.getElem?_append_right q'] at hp
    rw [List.getElem?_append_right (by rw [← h.1]; exact q'), ← h.1]
    match i - ps.length, hp with
    | 0, hp => exact ⟨t, e, (Option.some.inj hp).symm, rfl, ht⟩⟩
def spInL (K : PySem.W.Frag) (C : Addr) : Sp := fun vs H Q _ => ∃ (a : Addr) (ps : List V) (es : List (List Int)), vs = [.ref a] ∧ SqL K H a ps ∧ Ras K C H ps es ∧ es.length ≤ 1000 ∧ Far es ∧ ∀ t fs gs H', Same H H' → H' t = some (.lst fs) → H t = none → Ras K C H' fs gs → Asc es gs → Q (.ref t) H'
theorem ok_inL (T : Tx K mg) : FnOk P w K mg base CX0 4 T.f_in_order T.d_in_order ["ratios"] (spInL K T.C_Ratio) := by
  have G_Ratio_eq := ok_req (P := P) (w := w) (base := base) T
  have G_order_of := ok_orderL (P := P) (w := w) (base := base) (T := T)
  refine T.F_in_order.ok sc_in_order (fun vs H Q E h => ?_) (fun cdv A outer s H vs Q E hr h => ?_)
  · obtain ⟨a, ps, es, rfl, _⟩ := h
    rfl
  obtain ⟨a, ps, es, rfl, ha, hR, hz, hF, q⟩ := h
  have nd := sc_in_order.nd
  refine ⟨_, (pss_cons (ps_set (i := 1) nd rfl (Or.inl rfl) (pe_lst pa_nil))
    (pss_cons (ps_for PassesOwn.never rfl (show PI _ _ _ (iList K _) from pi_list (pe_call G_order_of hr (by rfl) T.m_order_of T.F_order_of.kp T.b_order_of .nil pass0 (pa_cons (pv 0) pa_nil))) (pg_name (i := 2) nd rfl (Or.inl rfl)) (pss_one (ps_if (PW.pt (pw_or (pt_not (pt_truth (pv 1) (by intro _; rfl))) (pw_or1 (pt_cmpR (op_owNe T.a_Ratio_eq.at_ T.a_Ratio_eq.fn T.ne_Ratio T.i_Ratio.cm G_Ratio_eq (hr.mono (by decide)) T.b_Ratio_eq pass0) (pe_ix (show IxR _ (rIxL K) from ix_list) (pv 1) (pe_un un_neg pe_int) (fun _ _ => rfl)) (pe_ix (show IxR _ (rIxL K) from ix_list) (pv 0) (pv 2) (fun _ _ => rfl)) (nomark _))))) (pss_one (ps_expr (pe_bm PySem.F.plainAttrs_list PySem.F.slot_list_append PySem.F.type_list_append mt_append (pv 1) (pa_cons (pe_ix (show IxR _ (rIxL K) from ix_list) (pv 0) (pv 2) (fun _ _ => rfl)) pa_nil)))) pss_nil)))
    (pss_one (ps_ret (pv 1))))), ?_⟩
  refine ⟨(by show 0 ≤ sizeLine; decide), fun p hp => ?_⟩
  have s0 := Same.new (o := .lst []) hp
  refine ⟨_, rfl, a, ps, es, rfl, s0.seq ha, hR.same s0, hz, hF, fun po ord H1 s1 hpo hO => ?_⟩
  have hl0 := hO.perm.length_eq
  rw [List.length_range] at hl0
  have hkm : ∀ x ∈ ord.map (fun n => es.getD n []), x ∈ es := fun x hx => by
    obtain ⟨n, hn, rfl⟩ := List.mem_map.mp hx
    have := List.mem_range.mp (hO.perm.mem_iff.mp hn)
    rw [List.getD_eq_getElem?_getD, List.getElem?_eq_getElem this]
    exact List.getElem_mem this
  have hkp : (ord.map fun n => es.getD n []).Pairwise fun x y => logE x ≤ logE y := by
    rw [List.pairwise_map]
    exact hO.asc
  have hkF : ∀ x ∈ ord.map (fun n => es.getD n []), ∀ y ∈ ord.map (fun n => es.getD n []), x ≠ y → 10 ^ 12 < (logE x - logE y).natAbs := fun x hx y hy n => hF.2 x (hkm x hx) y (hkm y hy) n
  have hmem : ∀ (i n : Nat), ord[i]? = some n → n < es.length := fun i n h => List.mem_range.mp (hO.perm.mem_iff.mp (List.mem_of_getElem? h))
  have pne : H1 p = some (.lst []) := s1 _ _ upd_same
  have s01 : Same H H1 := s0.trans s1
  refine ⟨po, rfl, ⟨_, SqL.of hpo⟩, for_it (walk_list (K := K) (a := po) (xs := ord.map fun i : Nat => V.int (i : Int))) (fun i σ H' => ∃ a2 fs gs, σ = [some (.ref a), some (.ref p), a2] ∧ Same H H' ∧ H' po = some (.lst (ord.map fun i : Nat => V.int (i : Int))) ∧ H' p = some (.lst fs) ∧ fs.length ≤ i ∧ Ras K T.C_Ratio H' fs gs ∧ Gs (ord.map fun n => es.getD n []) i gs) ⟨_, [], [], rfl, s01, hpo, pne, Nat.le_refl _, ⟨rfl, fun i p hp => by cases hp⟩, Gs.zero _⟩ (fun _ _ _ _ h => by obtain ⟨_, _, _, _, _, h, _⟩ := h; exact SqL.of h) ?_ ?_⟩
  · rintro i v σ H2 H3 hi ⟨a2, fs, gs, rfl, s2, ho, hf, hfl, hfR, hG⟩ ⟨rfl, hv⟩
    replace hv : (ord.map fun i : Nat => V.int (i : Int))[i]? = some v := hv
    rw [List.getElem?_map] at hv
    obtain ⟨n, hn, rfl⟩ := Option.map_eq_some_iff.mp hv
    have hnl := hmem i n hn
    have hke : (ord.map fun n => es.getD n [])[i]? = some (es.getD n []) := by rw [List.getElem?_map, hn]; rfl
    have hn' : n < ps.length := by rw [hR.1]; exact hnl
    obtain ⟨t, e, a1, ae, at'⟩ := hR.2 n ps[n] (List.getElem?_eq_getElem hn')
    have hpn : ps[n]? = some (.ref t) := by rw [List.getElem?_eq_getElem hn', a1]
    have he : es.getD n [] = e := by rw [List.getD_eq_getElem?_getD, ae]; rfl
    rw [he] at hke
    have hat := at'.same s2
    have ha2 := s2.seq ha
    have hi2 : i < ord.length := (List.getElem?_eq_some_iff.mp hn).1
    obtain ⟨dx, tx, x1, x2⟩ := hat.ex
    have hpp : po ≠ p := fun z => by
      rw [z, pne] at hpo
      have := HO.lst.inj (Option.some.inj hpo)
      have h0 : ord = [] := List.map_eq_nil_iff.mp this.symm
      rw [h0] at hi2
      exact absurd hi2 (Nat.not_lt_zero _)
    have s2' : Same H (upd H3 p (.lst (fs ++ [V.ref t]))) := fun c o h => by
      rw [upd_ne (ne_of_none h hp)]
      exact s2 _ _ h
    have hfz : fs.length < sizeLine := small1000 (by omega)
    have fin : gs.getLast? ≠ some e → ∀ B : L2.St → Hp → Prop, (B = fun σ H' => ∃ a2 fs gs, σ = [some (V.ref a), some (V.ref p), a2] ∧ Same H H' ∧ H' po = some (HO.lst (List.map (fun i : Nat => V.int (i : Int)) ord)) ∧ H' p = some (HO.lst fs) ∧ fs.length ≤ i + 1 ∧ Ras K T.C_Ratio H' fs gs ∧ Gs (List.map (fun n => es.getD n []) ord) (i + 1) gs) → B [some (V.ref a), some (V.ref p), some (V.int (n : Int))] (upd H3 p (.lst (fs ++ [V.ref t]))) := fun hne B hB => by
      rw [hB]
      exact ⟨_, _, _, rfl, s2', by rw [upd_ne hpp]; exact ho, upd_same, by rw [List.length_append]; simp; exact hfl, (hfR.lst hf).snoc (hat.lst hf), hG.more hke hkp hkF hne⟩
    rcases List.eq_nil_or_concat fs with hfe | ⟨f0, fl, hfe⟩
    · have hge : gs = [] := List.eq_nil_of_length_eq_zero (by rw [← hfR.1, hfe]; rfl)
      refine ⟨_, rfl, _, .inl ⟨_, SqL.of hf, rfl⟩, ?_⟩
      refine iteT' (by rw [hfe]; rfl) (iteT ?_)
      refine ⟨_, rfl, .inl ⟨rfl, _, SqL.of hf⟩, _, rfl, _, rfl, a, ps, _, _, rfl, rfl, ha2, at_of (j := n) rfl hpn, p, fs, _, rfl, rfl, hf, hfz, ?_⟩
      exact fin (by rw [hge]; intro z; cases z) _ rfl
    · rw [List.concat_eq_append] at hfe
      refine ⟨_, rfl, _, .inl ⟨_, SqL.of hf, rfl⟩, ?_⟩
      have hb : (!(!fs.isEmpty)) = false := by rw [hfe]; simp
      refine iteF' hb ?_
      have hfat : fs[f0.length]? = some fl := by rw [hfe, List.getElem?_append_right (Nat.le_refl _), Nat.sub_self]; rfl
      obtain ⟨tl, el, rfl, hel, hrl⟩ := hfR.2 _ _ hfat
      have hgl : gs.getLast? = some el := by
        rw [List.getLast?_eq_getElem?, ← hfR.1, hfe, List.length_append]
        exact hel
      obtain ⟨dl, xl, y1, y2⟩ := hrl.ex
      have hlast : atI fs (-1) = some (.ref tl) := by rw [hfe]; exact atI_last _ _
      refine ⟨_, rfl, _, rfl, p, fs, _, _, rfl, rfl, SqL.of hf, hlast, _, rfl, _, rfl, a, ps, _, _, rfl, rfl, ha2, at_of (j := n) rfl hpn, tl, dl, _, t, dx, _, rfl, rfl, y1, x1, tl, t, _, _, rfl, hrl, hat, _, rfl, _, rfl, ?_⟩
      refine ite2 (fun c => ?_) (fun c => ?_)
      · have hne : el ≠ e := fun z => by
          rw [decide_eq_true z] at c
          cases c
        refine ⟨_, rfl, .inl ⟨rfl, _, SqL.of hf⟩, _, rfl, _, rfl, a, ps, _, _, rfl, rfl, ha2, at_of (j := n) rfl hpn, p, fs, _, rfl, rfl, hf, hfz, ?_⟩
        exact fin (by rw [hgl]; intro z; exact hne (Option.some.inj z)) _ rfl
      · have heq : el = e := Decidable.byContradiction fun z => by
          rw [decide_eq_false z] at c
          exact c rfl
        exact ⟨_, fs, gs, rfl, s2, ho, hf, Nat.le_succ_of_le hfl, hfR, hG.stay hke (by rw [hgl, heq])⟩
  · rintro σ H2 ⟨a2, fs, gs, rfl, s2, ho, hf, hfl, hfR, hG⟩
    rw [List.length_map] at hG
    exact ⟨_, rfl, q p fs gs H2 s2 hf hp hfR (Gs.asc_of hO hG)⟩
end
end TL
namespace TL
open PySem L2

/-! ### steps of a reading -/
local macro_rules | `(tactic| walk_at "hp") => `(tactic| first | assumption | exact upd_same | (refine (upd_ne (by first | assumption | (exact Ne.symm (by assumption)))).trans ?_; walk_at "hp"))
local macro_rules | `(tactic| walk_at "ok") => `(tactic| first | (exact Or.inr ⟨by decide, by decide⟩) | (exact ⟨by decide, by decide⟩) | (exact ⟨by decide, by decide, by decide⟩) | (show _ ≠ _; omega) | (show _ ≠ _; decide) | (exact Or.inl ⟨by omega, by omega⟩) | decide)
local macro_rules | `(tactic| walk_at "sq") => `(tactic| first | assumption | exact SqL.of (by walk_at "hp") | exact SqT.of (by walk_at "hp"))
local macro_rules | `(tactic| walk_at "ty") => `(tactic| first | refine ⟨_, _, Value.type "int", Value.type "list", false, rfl, ClsV.ty _, TyX.base (TyOf.int _), kt_int_list, ?_⟩ | refine ⟨_, _, Value.type "bool", Value.type "list", false, rfl, ClsV.ty _, TyX.base (TyOf.bl _), kt_bool_list, ?_⟩ | refine ⟨_, _, Value.type "str", Value.type "list", false, rfl, ClsV.ty _, TyX.base (TyOf.str _), kt_str_list, ?_⟩ | refine ⟨_, _, Value.type "NoneType", Value.type "list", false, rfl, ClsV.ty _, TyX.base TyOf.non, kt_NoneType_list, ?_⟩ | refine ⟨_, _, Value.type "list", Value.type "list", true, rfl, ClsV.ty _, tyx_L (by walk_at "sq"), kt_list_list, ?_⟩ | refine ⟨_, _, Value.type "tuple", Value.type "list", false, rfl, ClsV.ty _, tyx_T (by walk_at "sq"), kt_tuple_list, ?_⟩ | refine ⟨_, _, Value.type "int", Value.type "tuple", false, rfl, ClsV.ty _, TyX.base (TyOf.int _), kt_int_tuple, ?_⟩ | refine ⟨_, _, Value.type "bool", Value.type "tuple", false, rfl, ClsV.ty _, TyX.base (TyOf.bl _), kt_bool_tuple, ?_⟩ | refine ⟨_, _, Value.type "str", Value.type "tuple", false, rfl, ClsV.ty _, TyX.base (TyOf.str _), kt_str_tuple, ?_⟩ | refine ⟨_, _, Value.type "NoneType", Value.type "tuple", false, rfl, ClsV.ty _, TyX.base TyOf.non, kt_NoneType_tuple, ?_⟩ | refine ⟨_, _, Value.type "list", Value.type "tuple", false, rfl, ClsV.ty _, tyx_L (by walk_at "sq"), kt_list_tuple, ?_⟩ | refine ⟨_, _, Value.type "tuple", Value.type "tuple", true, rfl, ClsV.ty _, tyx_T (by walk_at "sq"), kt_tuple_tuple, ?_⟩ | refine ⟨_, _, Value.type "int", Value.type "bool", false, rfl, ClsV.ty _, TyX.base (TyOf.int _), kt_int_bool, ?_⟩ | refine ⟨_, _, Value.type "bool", Value.type "bool", true, rfl, ClsV.ty _, TyX.base (TyOf.bl _), kt_bool_bool, ?_⟩ | refine ⟨_, _, Value.type "str", Value.type "bool", false, rfl, ClsV.ty _, TyX.base (TyOf.str _), kt_str_bool, ?_⟩ | refine ⟨_, _, Value.type "NoneType", Value.type "bool", false, rfl, ClsV.ty _, TyX.base TyOf.non, kt_NoneType_bool, ?_⟩ | refine ⟨_, _, Value.type "list", Value.type "bool", false, rfl, ClsV.ty _, tyx_L (by walk_at "sq"), kt_list_bool, ?_⟩ | refine ⟨_, _, Value.type "tuple", Value.type "bool", false, rfl, ClsV.ty _, tyx_T (by walk_at "sq"), kt_tuple_bool, ?_⟩ | refine ⟨_, _, Value.type "int", Value.type "int", true, rfl, ClsV.ty _, TyX.base (TyOf.int _), kt_int_int, ?_⟩ | refine ⟨_, _, Value.type "bool", Value.type "int", true, rfl, ClsV.ty _, TyX.base (TyOf.bl _), kt_bool_int, ?_⟩ | refine ⟨_, _, Value.type "str", Value.type "int", false, rfl, ClsV.ty _, TyX.base (TyOf.str _), kt_str_int, ?_⟩ | refine ⟨_, _, Value.type "NoneType", Value.type "int", false, rfl, ClsV.ty _, TyX.base TyOf.non, kt_NoneType_int, ?_⟩ | refine ⟨_, _, Value.type "list", Value.type "int", false, rfl, ClsV.ty _, tyx_L (by walk_at "sq"), kt_list_int, ?_⟩ | refine ⟨_, _, Value.type "tuple", Value.type "int", false, rfl, ClsV.ty _, tyx_T (by walk_at "sq"), kt_tuple_int, ?_⟩ | refine ⟨_, _, Value.type "int", Value.type "str", false, rfl, ClsV.ty _, TyX.base (TyOf.int _), kt_int_str, ?_⟩ | refine ⟨_, _, Value.type "bool", Value.type "str", false, rfl, ClsV.ty _, TyX.base (TyOf.bl _), kt_bool_str, ?_⟩ | refine ⟨_, _, Value.type "str", Value.type "str", true, rfl, ClsV.ty _, TyX.base (TyOf.str _), kt_str_str, ?_⟩ | refine ⟨_, _, Value.type "NoneType", Value.type "str", false, rfl, ClsV.ty _, TyX.base TyOf.non, kt_NoneType_str, ?_⟩ | refine ⟨_, _, Value.type "list", Value.type "str", false, rfl, ClsV.ty _, tyx_L (by walk_at "sq"), kt_list_str, ?_⟩ | refine ⟨_, _, Value.type "tuple", Value.type "str", false, rfl, ClsV.ty _, tyx_T (by walk_at "sq"), kt_tuple_str, ?_⟩)
local macro_rules | `(tactic| walk_at "go1") => `(tactic| first
  | (refine ⟨_, rfl, ?_⟩)
  | (refine ⟨_, _, rfl, rfl, ?_⟩)
  | (refine ⟨_, _, _, _, rfl, rfl, SqL.of (by walk_at "hp"), rfl, ?_⟩)
  | (refine Or.inl ⟨_, rfl, ?_⟩)
  | (refine ⟨rfl, ?_⟩)
  | (refine ⟨_, _, rfl, .inl (SqL.of (by walk_at "hp")), ?_⟩)
  | (refine ⟨_, _, rfl, Or.inl (by assumption), ?_⟩)
  | (refine ⟨_, _, rfl, Or.inr (by assumption), ?_⟩)
  | (refine ⟨(by walk_at "ok"), ?_⟩)
  | (refine ⟨_, _, _, _, rfl, rfl, (by walk_at "hp"), rfl, ?_⟩))
local macro_rules | `(tactic| walk_at "go") => `(tactic| repeat (walk_at "go1"))
local macro_rules | `(tactic| walk_at "gt") => `(tactic| repeat (first | walk_at "go1" | walk_at "ty"))

section
variable {P : Program} {w : World} {K : PySem.W.Frag} {mg : Str → Option Value} {base : Heap}
def spInT (K : PySem.W.Frag) (C : Addr) : Sp := fun vs H Q _ => ∃ (a : Addr) (ps : List V) (es : List (List Int)), vs = [.ref a] ∧ SqT K H a ps ∧ Ras K C H ps es ∧ es.length ≤ 1000 ∧ Far es ∧ ∀ t fs gs H', Same H H' → H' t = some (.lst fs) → H t = none → Ras K C H' fs gs → Asc es gs → Q (.ref t) H'
theorem ok_inT (T : Tx K mg) : FnOk P w K mg base CX0 4 T.f_in_order T.d_in_order ["ratios"] (spInT K T.C_Ratio) := by
  have G_Ratio_eq := ok_req (P := P) (w := w) (base := base) T
  have G_order_of := ok_orderT (P := P) (w := w) (base := base) (T := T)
  refine T.F_in_order.ok sc_in_order (fun vs H Q E h => ?_) (fun cdv A outer s H vs Q E hr h => ?_)
  · obtain ⟨a, ps, es, rfl, _⟩ := h
    rfl
  obtain ⟨a, ps, es, rfl, ha, hR, hz, hF, q⟩ := h
  have nd := sc_in_order.nd
  refine ⟨_, (pss_cons (ps_set (i := 1) nd rfl (Or.inl rfl) (pe_lst pa_nil))
    (pss_cons (ps_for PassesOwn.never rfl (show PI _ _ _ (iList K _) from pi_list (pe_call G_order_of hr (by rfl) T.m_order_of T.F_order_of.kp T.b_order_of .nil pass0 (pa_cons (pv 0) pa_nil))) (pg_name (i := 2) nd rfl (Or.inl rfl)) (pss_one (ps_if (PW.pt (pw_or (pt_not (pt_truth (pv 1) (by intro _; rfl))) (pw_or1 (pt_cmpR (op_owNe T.a_Ratio_eq.at_ T.a_Ratio_eq.fn T.ne_Ratio T.i_Ratio.cm G_Ratio_eq (hr.mono (by decide)) T.b_Ratio_eq pass0) (pe_ix (show IxR _ (rIxL K) from ix_list) (pv 1) (pe_un un_neg pe_int) (fun _ _ => rfl)) (pe_ix (show IxR _ (rIxT K) from ix_tup) (pv 0) (pv 2) (fun _ _ => rfl)) (nomark _))))) (pss_one (ps_expr (pe_bm PySem.F.plainAttrs_list PySem.F.slot_list_append PySem.F.type_list_append mt_append (pv 1) (pa_cons (pe_ix (show IxR _ (rIxT K) from ix_tup) (pv 0) (pv 2) (fun _ _ => rfl)) pa_nil)))) pss_nil)))
    (pss_one (ps_ret (pv 1))))), ?_⟩
  refine ⟨(by show 0 ≤ sizeLine; decide), fun p hp => ?_⟩
  have s0 := Same.new (o := .lst []) hp
  refine ⟨_, rfl, a, ps, es, rfl, seqT s0 ha, hR.same s0, hz, hF, fun po ord H1 s1 hpo hO => ?_⟩
  have hl0 := hO.perm.length_eq
  rw [List.length_range] at hl0
  have hkm : ∀ x ∈ ord.map (fun n => es.getD n []), x ∈ es := fun x hx => by
    obtain ⟨n, hn, rfl⟩ := List.mem_map.mp hx
    have := List.mem_range.mp (hO.perm.mem_iff.mp hn)
    rw [List.getD_eq_getElem?_getD, List.getElem?_eq_getElem this]
    exact List.getElem_mem this
  have hkp : (ord.map fun n => es.getD n []).Pairwise fun x y => logE x ≤ logE y := by
    rw [List.pairwise_map]
    exact hO.asc
  have hkF : ∀ x ∈ ord.map (fun n => es.getD n []), ∀ y ∈ ord.map (fun n => es.getD n []), x ≠ y → 10 ^ 12 < (logE x - logE y).natAbs := fun x hx y hy n => hF.2 x (hkm x hx) y (hkm y hy) n
  have hmem : ∀ (i n : Nat), ord[i]? = some n → n < es.length := fun i n h => List.mem_range.mp (hO.perm.mem_iff.mp (List.mem_of_getElem? h))
  have pne : H1 p = some (.lst []) := s1 _ _ upd_same
  have s01 : Same H H1 := s0.trans s1
  refine ⟨po, rfl, ⟨_, SqL.of hpo⟩, for_it (walk_list (K := K) (a := po) (xs := ord.map fun i : Nat => V.int (i : Int))) (fun i σ H' => ∃ a2 fs gs, σ = [some (.ref a), some (.ref p), a2] ∧ Same H H' ∧ H' po = some (.lst (ord.map fun i : Nat => V.int (i : Int))) ∧ H' p = some (.lst fs) ∧ fs.length ≤ i ∧ Ras K T.C_Ratio H' fs gs ∧ Gs (ord.map fun n => es.getD n []) i gs) ⟨_, [], [], rfl, s01, hpo, pne, Nat.le_refl _, ⟨rfl, fun i p hp => by cases hp⟩, Gs.zero _⟩ (fun _ _ _ _ h => by obtain ⟨_, _, _, _, _, h, _⟩ := h; exact SqL.of h) ?_ ?_⟩
  · rintro i v σ H2 H3 hi ⟨a2, fs, gs, rfl, s2, ho, hf, hfl, hfR, hG⟩ ⟨rfl, hv⟩
    replace hv : (ord.map fun i : Nat => V.int (i : Int))[i]? = some v := hv
    rw [List.getElem?_map] at hv
    obtain ⟨n, hn, rfl⟩ := Option.map_eq_some_iff.mp hv
    have hnl := hmem i n hn
    have hke : (ord.map fun n => es.getD n [])[i]? = some (es.getD n []) := by rw [List.getElem?_map, hn]; rfl
    have hn' : n < ps.length := by rw [hR.1]; exact hnl
    obtain ⟨t, e, a1, ae, at'⟩ := hR.2 n ps[n] (List.getElem?_eq_getElem hn')
    have hpn : ps[n]? = some (.ref t) := by rw [List.getElem?_eq_getElem hn', a1]
    have he : es.getD n [] = e := by rw [List.getD_eq_getElem?_getD, ae]; rfl
    rw [he] at hke
    have hat := at'.same s2
    have ha2 := seqT s2 ha
    have hi2 : i < ord.length := (List.getElem?_eq_some_iff.mp hn).1
    obtain ⟨dx, tx, x1, x2⟩ := hat.ex
    have hpp : po ≠ p := fun z => by
      rw [z, pne] at hpo
      have := HO.lst.inj (Option.some.inj hpo)
      have h0 : ord = [] := List.map_eq_nil_iff.mp this.symm
      rw [h0] at hi2
      exact absurd hi2 (Nat.not_lt_zero _)
    have s2' : Same H (upd H3 p (.lst (fs ++ [V.ref t]))) := fun c o h => by
      rw [upd_ne (ne_of_none h hp)]
      exact s2 _ _ h
    have hfz : fs.length < sizeLine := small1000 (by omega)
    have fin : gs.getLast? ≠ some e → ∀ B : L2.St → Hp → Prop, (B = fun σ H' => ∃ a2 fs gs, σ = [some (V.ref a), some (V.ref p), a2] ∧ Same H H' ∧ H' po = some (HO.lst (List.map (fun i : Nat => V.int (i : Int)) ord)) ∧ H' p = some (HO.lst fs) ∧ fs.length ≤ i + 1 ∧ Ras K T.C_Ratio H' fs gs ∧ Gs (List.map (fun n => es.getD n []) ord) (i + 1) gs) → B [some (V.ref a), some (V.ref p), some (V.int (n : Int))] (upd H3 p (.lst (fs ++ [V.ref t]))) := fun hne B hB => by
      rw [hB]
      exact ⟨_, _, _, rfl, s2', by rw [upd_ne hpp]; exact ho, upd_same, by rw [List.length_append]; simp; exact hfl, (hfR.lst hf).snoc (hat.lst hf), hG.more hke hkp hkF hne⟩
    rcases List.eq_nil_or_concat fs with hfe | ⟨f0, fl, hfe⟩
    · have hge : gs = [] := List.eq_nil_of_length_eq_zero (by rw [← hfR.1, hfe]; rfl)
      refine ⟨_, rfl, _, .inl ⟨_, SqL.of hf, rfl⟩, ?_⟩
      refine iteT' (by rw [hfe]; rfl) (iteT ?_)
      refine ⟨_, rfl, .inl ⟨rfl, _, SqL.of hf⟩, _, rfl, _, rfl, a, ps, _, _, rfl, rfl, ha2, at_of (j := n) rfl hpn, p, fs, _, rfl, rfl, hf, hfz, ?_⟩
      exact fin (by rw [hge]; intro z; cases z) _ rfl
    · rw [List.concat_eq_append] at hfe
      refine ⟨_, rfl, _, .inl ⟨_, SqL.of hf, rfl⟩, ?_⟩
      have hb : (!(!fs.isEmpty)) = false := by rw [hfe]; simp
      refine iteF' hb ?_
      have hfat : fs[f0.length]? = some fl := by rw [hfe, List.getElem?_append_right (Nat.le_refl _), Nat.sub_self]; rfl
      obtain ⟨tl, el, rfl, hel, hrl⟩ := hfR.2 _ _ hfat
      have hgl : gs.getLast? = some el := by
        rw [List.getLast?_eq_getElem?, ← hfR.1, hfe, List.length_append]
        exact hel
      obtain ⟨dl, xl, y1, y2⟩ := hrl.ex
      have hlast : atI fs (-1) = some (.ref tl) := by rw [hfe]; exact atI_last _ _
      refine ⟨_, rfl, _, rfl, p, fs, _, _, rfl, rfl, SqL.of hf, hlast, _, rfl, _, rfl, a, ps, _, _, rfl, rfl, ha2, at_of (j := n) rfl hpn, tl, dl, _, t, dx, _, rfl, rfl, y1, x1, tl, t, _, _, rfl, hrl, hat, _, rfl, _, rfl, ?_⟩
      refine ite2 (fun c => ?_) (fun c => ?_)
      · have hne : el ≠ e := fun z => by
          rw [decide_eq_true z] at c
          cases c
        refine ⟨_, rfl, .inl ⟨rfl, _, SqL.of hf⟩, _, rfl, _, rfl, a, ps, _, _, rfl, rfl, ha2, at_of (j := n) rfl hpn, p, fs, _, rfl, rfl, hf, hfz, ?_⟩
        exact fin (by rw [hgl]; intro z; exact hne (Option.some.inj z)) _ rfl
      · have heq : el = e := Decidable.byContradiction fun z => by
          rw [decide_eq_false z] at c
          exact c rfl
        exact ⟨_, fs, gs, rfl, s2, ho, hf, Nat.le_succ_of_le hfl, hfR, hG.stay hke (by rw [hgl, heq])⟩
  · rintro σ H2 ⟨a2, fs, gs, rfl, s2, ho, hf, hfl, hfR, hG⟩
    rw [List.length_map] at hG
    exact ⟨_, rfl, q p fs gs H2 s2 hf hp hfR (Gs.asc_of hO hG)⟩
theorem FnOk.or2 {P : Program} {w : World} {K : PySem.W.Frag} {mg : Str → Option Value} {base : Heap} {n : Nat} {f : Addr} {d : FuncData} {ps : List Str} {S1 S2 : Sp} (h1 : FnOk P w K mg base CX0 n f d ps S1) (h2 : FnOk P w K mg base CX0 n f d ps S2) : FnOk P w K mg base CX0 n f d ps (fun vs H Q E => S1 vs H Q E ∨ S2 vs H Q E) :=
  ⟨fun vs H Q E h => h.elim (h1.1 vs H Q E) (h2.1 vs H Q E), fun A outer s H args us vs Q E a b c e h => h.elim (h1.2 A outer s H args us vs Q E a b c e) (h2.2 A outer s H args us vs Q E a b c e)⟩
end
end TL
set_option exponentiation.threshold 300
namespace TL
theorem log_mul (n : Int) : ∀ (e l : List Int), (List.zipWith (· * ·) (mulE n e) l).sum = n * (List.zipWith (· * ·) e l).sum
  | [], l => by simp [mulE]
  | e :: es, [] => by simp [mulE]
  | e :: es, l :: ls => by
    have ih := log_mul n es ls
    simp only [mulE, List.map_cons, List.zipWith_cons_cons, List.sum_cons] at ih ⊢
    rw [ih, Int.mul_add, Int.mul_assoc]
theorem bern (d : Nat) : ∀ n, d ^ n * (d + n) ≤ (d + 1) ^ n * d
  | 0 => by simp
  | n + 1 => by
    have ih := bern d n
    have h1 : d ^ (n + 1) * (d + (n + 1)) ≤ d ^ n * (d + n) * (d + 1) := by
      rw [Nat.pow_succ, Nat.mul_assoc, Nat.mul_assoc]
      refine Nat.mul_le_mul_left _ ?_
      have : (d + n) * (d + 1) = d * (d + (n + 1)) + n := by
        simp only [Nat.add_mul, Nat.mul_add, Nat.mul_one, Nat.one_mul]
        rw [Nat.mul_comm n d]
        omega
      omega
    have h2 : d ^ n * (d + n) * (d + 1) ≤ (d + 1) ^ n * d * (d + 1) := Nat.mul_le_mul_right _ ih
    have h3 : (d + 1) ^ n * d * (d + 1) = (d + 1) ^ (n + 1) * d := by
      rw [Nat.pow_succ, Nat.mul_right_comm]
    omega
theorem twice {u d B : Nat} (hd : 0 < d) (hu : d < u) (hB : d < B) : 2 * d ^ B < u ^ B := by
  have h1 := bern d B
  have h2 : (d + 1) ^ B ≤ u ^ B := Nat.pow_le_pow_left hu B
  have hp : 0 < d ^ B := Nat.pow_pos hd
  have h3 : d ^ B * (d + d) < d ^ B * (d + B) := Nat.mul_lt_mul_of_pos_left (by omega) hp
  have h4 : d ^ B * (d + d) = 2 * d ^ B * d := by
    rw [← Nat.two_mul, Nat.mul_comm 2 (d ^ B), Nat.mul_assoc]
  have h5 : 2 * d ^ B * d < (d + 1) ^ B * d := by omega
  exact Nat.lt_of_lt_of_le (Nat.lt_of_mul_lt_mul_right h5) h2
theorem ex_mulE {e : List Int} {k n : Nat} (h : Ex k e) : Ex (n * k) (mulE (n : Int) e) := fun x hx => by
  obtain ⟨y, hy, rfl⟩ := List.mem_map.mp hx
  rw [Int.natAbs_mul, Int.natAbs_natCast]
  exact Nat.mul_le_mul_left _ (h y hy)
def one2 : List Int := [1, 0, 0, 0, 0, 0]
theorem far1 {e : List Int} {B : Nat} (h6 : e.length = 6) (hE : Ex 40 e) (hB : dn e < B) (hB2 : B ≤ 400000) (h : dn e < up e) : 10 ^ 12 < logE e := by
  refine Int.not_le.mp fun c => ?_
  have hm6 : (mulE (B : Int) e).length = 6 := by simpa [mulE] using h6
  have t := twice (dn_pos e) h hB
  have e1 : up (mulE (B : Int) e) = up e ^ B := (up_pow B e).symm
  have e2 : dn (mulE (B : Int) e) = dn e ^ B := (dn_pow B e).symm
  have hlt : up one2 * dn (mulE (B : Int) e) < up (mulE (B : Int) e) * dn one2 := by
    rw [e1, e2, show up one2 = 2 from rfl, show dn one2 = 1 from rfl, Nat.mul_one]
    exact t
  have b := (below_iff (x := one2) (y := mulE (B : Int) e) rfl hm6).mp hlt
  have hl : (addE (mulE (B : Int) e) (negE one2)).length = 6 := by simp [addE, negE, hm6, one2]
  have ml := ex_mulE (n := B) hE
  have hX : Ex (10 ^ 8) (addE (mulE (B : Int) e) (negE one2)) := fun v hv => by
    simp only [addE] at hv
    obtain ⟨i, hi, rfl⟩ := List.mem_iff_getElem.mp hv
    simp only [List.length_zipWith] at hi
    rw [List.getElem_zipWith]
    have a1 := ml (mulE (B : Int) e)[i] (List.getElem_mem _)
    have a2 : ∀ x ∈ negE one2, x.natAbs ≤ 1 := by decide
    have a3 := a2 (negE one2)[i] (List.getElem_mem _)
    omega
  have el : logE (addE (mulE (B : Int) e) (negE one2)) = (B : Int) * logE e - logE one2 := by
    have a := log_add (mulE (B : Int) e) (negE one2) LN (by rw [hm6]; rfl)
    have b := log_neg one2 LN
    have d := log_mul (B : Int) e LN
    show (List.zipWith (· * ·) (addE (mulE (B : Int) e) (negE one2)) LN).sum = (B : Int) * (List.zipWith (· * ·) e LN).sum - (List.zipWith (· * ·) one2 LN).sum
    rw [a, b, d]
    omega
  have l2 : logE one2 = 69314718055994530941723212145817656807550013436025 := by decide +kernel
  have hb : (B : Int) * logE e ≤ (B : Int) * 10 ^ 12 := Int.mul_le_mul_of_nonneg_left c (by omega)
  have := log_gt hl hX (by rw [el, l2]; omega)
  omega
theorem far2 {x y : List Int} (hx : x.length = 6) (hy : y.length = 6) (x1 : up x ≤ 625) (x2 : dn x ≤ 625) (y1 : up y ≤ 625) (y2 : dn y ≤ 625) (hE : Ex 20 x) (hF : Ex 20 y) (h : up x * dn y < up y * dn x) : 10 ^ 12 < logE y - logE x := by
  have b := (below_iff hx hy).mp h
  have hl : y.length = (negE x).length := by simp [negE, hx, hy]
  have hd : dn (addE y (negE x)) < 400000 := by
    have h2 := dn_mul y (negE x) hl
    rw [dn_neg] at h2
    have hp : 0 < pp prs (both y (negE x)) := pp_pos _ pc_prs
    have h3 : dn (addE y (negE x)) ≤ pp prs (both y (negE x)) * dn (addE y (negE x)) := Nat.le_mul_of_pos_left _ hp
    have h4 : dn y * up x ≤ 625 * 625 := Nat.mul_le_mul y2 x1
    omega
  have hX : Ex 40 (addE y (negE x)) := fun v hv => by
    simp only [addE, negE] at hv
    obtain ⟨i, hi, rfl⟩ := List.mem_iff_getElem.mp hv
    simp only [List.length_zipWith, List.length_map] at hi
    rw [List.getElem_zipWith, List.getElem_map]
    have := hE x[i] (List.getElem_mem _)
    have := hF y[i] (List.getElem_mem _)
    omega
  have f := far1 (by simp [addE, negE, hx, hy]) hX hd (Nat.le_refl _) b
  have a := log_add y (negE x) LN hl
  have d := log_neg x LN
  have e1 : logE (addE y (negE x)) = logE y - logE x := by
    show (List.zipWith (· * ·) (addE y (negE x)) LN).sum = (List.zipWith (· * ·) y LN).sum - (List.zipWith (· * ·) x LN).sum
    rw [a, d]
    omega
  rw [← e1]
  exact f
theorem addE_zero {x y : List Int} (hx : x.length = 6) (hy : y.length = 6) (h : addE y (negE x) = negE (addE y (negE x))) : x = y := by
  refine List.ext_getElem (by rw [hx, hy]) fun i a b => ?_
  have h1 := congrArg (fun l : List Int => l[i]?) h
  simp only [addE, negE] at h1
  rw [List.getElem?_map, List.getElem?_zipWith, List.getElem?_map, List.getElem?_eq_getElem a, List.getElem?_eq_getElem b] at h1
  have h2 := Option.some.inj h1
  dsimp only at h2
  omega
/-- different small ratios are not equal -/
theorem cross_ne {x y : List Int} (hx : x.length = 6) (hy : y.length = 6) (n : x ≠ y) : up x * dn y < up y * dn x ∨ up y * dn x < up x * dn y := by
  rcases Nat.lt_trichotomy (up x * dn y) (up y * dn x) with h | h | h
  · exact .inl h
  · refine absurd ?_ n
    have a1 := fun z => Nat.lt_irrefl _ (Nat.lt_of_lt_of_eq ((below_iff hx hy).mpr z) h.symm)
    have a2 := fun z => Nat.lt_irrefl _ (Nat.lt_of_lt_of_eq ((below_iff hy hx).mpr z) h)
    have l : (addE y (negE x)).length = 6 := by simp [addE, negE, hx, hy]
    have ee : addE x (negE y) = negE (addE y (negE x)) := by
      refine List.ext_getElem (by simp [addE, negE, hx, hy]) fun i a b => ?_
      simp only [addE, negE, List.getElem_zipWith, List.getElem_map]
      omega
    rw [ee, up_neg, dn_neg] at a2
    have q : up (addE y (negE x)) = dn (addE y (negE x)) := by
      have b1 : ¬ dn (addE y (negE x)) < up (addE y (negE x)) := a1
      have b2 : ¬ up (addE y (negE x)) < dn (addE y (negE x)) := a2
      omega
    exact addE_zero hx hy (e_inj l (by simpa [negE] using l) (by rw [up_neg]; exact q) (by rw [dn_neg]; exact q.symm))
  · exact .inr h
theorem far_of {x y : List Int} (hx : x.length = 6) (hy : y.length = 6) (x1 : up x ≤ 625) (x2 : dn x ≤ 625) (y1 : up y ≤ 625) (y2 : dn y ≤ 625) (hE : Ex 20 x) (hF : Ex 20 y) (n : x ≠ y) : 10 ^ 12 < (logE x - logE y).natAbs := by
  rcases cross_ne hx hy n with h | h
  · have := far2 hx hy x1 x2 y1 y2 hE hF h
    omega
  · have := far2 hy hx y1 y2 x1 x2 hF hE h
    omega
theorem ex20 {x : List Int} (hx : x.length = 6) (x1 : up x ≤ 625) (x2 : dn x ≤ 625) : Ex 20 x := fun v hv => by
  refine Nat.le_of_not_lt fun c => ?_
  have big : 2 ^ 10 ≤ 2 ^ v.natAbs := Nat.pow_le_pow_right (by decide) (by omega)
  have p2 : ∀ p ∈ prs, 2 ≤ p := by decide
  rcases Int.lt_or_le v 0 with h | h
  · have m : (-v).toNat ∈ dnE x := List.mem_map.mpr ⟨v, hv, rfl⟩
    have := pp_ge (ps := prs) p2 (by simp [dnE, hx, prs]) _ m
    have e : (-v).toNat = v.natAbs := by omega
    rw [e] at this
    have z : dn x = pp prs (dnE x) := rfl
    omega
  · have m : v.toNat ∈ upE x := List.mem_map.mpr ⟨v, hv, rfl⟩
    have := pp_ge (ps := prs) p2 (by simp [upE, hx, prs]) _ m
    have e : v.toNat = v.natAbs := by omega
    rw [e] at this
    have z : up x = pp prs (upE x) := rfl
    omega
end TL
namespace TL
open PySem L2

/-! ### steps of a reading -/
local macro_rules | `(tactic| walk_at "hp") => `(tactic| first | assumption | exact upd_same | (refine (upd_ne (by first | assumption | (exact Ne.symm (by assumption)))).trans ?_; walk_at "hp"))
local macro_rules | `(tactic| walk_at "ok") => `(tactic| first | (exact Or.inr ⟨by decide, by decide⟩) | (exact ⟨by decide, by decide⟩) | (exact ⟨by decide, by decide, by decide⟩) | (show _ ≠ _; omega) | (show _ ≠ _; decide) | (exact Or.inl ⟨by omega, by omega⟩) | decide)
local macro_rules | `(tactic| walk_at "sq") => `(tactic| first | assumption | exact SqL.of (by walk_at "hp") | exact SqT.of (by walk_at "hp"))
local macro_rules | `(tactic| walk_at "ty") => `(tactic| first | refine ⟨_, _, Value.type "int", Value.type "list", false, rfl, ClsV.ty _, TyX.base (TyOf.int _), kt_int_list, ?_⟩ | refine ⟨_, _, Value.type "bool", Value.type "list", false, rfl, ClsV.ty _, TyX.base (TyOf.bl _), kt_bool_list, ?_⟩ | refine ⟨_, _, Value.type "str", Value.type "list", false, rfl, ClsV.ty _, TyX.base (TyOf.str _), kt_str_list, ?_⟩ | refine ⟨_, _, Value.type "NoneType", Value.type "list", false, rfl, ClsV.ty _, TyX.base TyOf.non, kt_NoneType_list, ?_⟩ | refine ⟨_, _, Value.type "list", Value.type "list", true, rfl, ClsV.ty _, tyx_L (by walk_at "sq"), kt_list_list, ?_⟩ | refine ⟨_, _, Value.type "tuple", Value.type "list", false, rfl, ClsV.ty _, tyx_T (by walk_at "sq"), kt_tuple_list, ?_⟩ | refine ⟨_, _, Value.type "int", Value.type "tuple", false, rfl, ClsV.ty _, TyX.base (TyOf.int _), kt_int_tuple, ?_⟩ | refine ⟨_, _, Value.type "bool", Value.type "tuple", false, rfl, ClsV.ty _, TyX.base (TyOf.bl _), kt_bool_tuple, ?_⟩ | refine ⟨_, _, Value.type "str", Value.type "tuple", false, rfl, ClsV.ty _, TyX.base (TyOf.str _), kt_str_tuple, ?_⟩ | refine ⟨_, _, Value.type "NoneType", Value.type "tuple", false, rfl, ClsV.ty _, TyX.base TyOf.non, kt_NoneType_tuple, ?_⟩ | refine ⟨_, _, Value.type "list", Value.type "tuple", false, rfl, ClsV.ty _, tyx_L (by walk_at "sq"), kt_list_tuple, ?_⟩ | refine ⟨_, _, Value.type "tuple", Value.type "tuple", true, rfl, ClsV.ty _, tyx_T (by walk_at "sq"), kt_tuple_tuple, ?_⟩ | refine ⟨_, _, Value.type "int", Value.type "bool", false, rfl, ClsV.ty _, TyX.base (TyOf.int _), kt_int_bool, ?_⟩ | refine ⟨_, _, Value.type "bool", Value.type "bool", true, rfl, ClsV.ty _, TyX.base (TyOf.bl _), kt_bool_bool, ?_⟩ | refine ⟨_, _, Value.type "str", Value.type "bool", false, rfl, ClsV.ty _, TyX.base (TyOf.str _), kt_str_bool, ?_⟩ | refine ⟨_, _, Value.type "NoneType", Value.type "bool", false, rfl, ClsV.ty _, TyX.base TyOf.non, kt_NoneType_bool, ?_⟩ | refine ⟨_, _, Value.type "list", Value.type "bool", false, rfl, ClsV.ty _, tyx_L (by walk_at "sq"), kt_list_bool, ?_⟩ | refine ⟨_, _, Value.type "tuple", Value.type "bool", false, rfl, ClsV.ty _, tyx_T (by walk_at "sq"), kt_tuple_bool, ?_⟩ | refine ⟨_, _, Value.type "int", Value.type "int", true, rfl, ClsV.ty _, TyX.base (TyOf.int _), kt_int_int, ?_⟩ | refine ⟨_, _, Value.type "bool", Value.type "int", true, rfl, ClsV.ty _, TyX.base (TyOf.bl _), kt_bool_int, ?_⟩ | refine ⟨_, _, Value.type "str", Value.type "int", false, rfl, ClsV.ty _, TyX.base (TyOf.str _), kt_str_int, ?_⟩ | refine ⟨_, _, Value.type "NoneType", Value.type "int", false, rfl, ClsV.ty _, TyX.base TyOf.non, kt_NoneType_int, ?_⟩ | refine ⟨_, _, Value.type "list", Value.type "int", false, rfl, ClsV.ty _, tyx_L (by walk_at "sq"), kt_list_int, ?_⟩ | refine ⟨_, _, Value.type "tuple", Value.type "int", false, rfl, ClsV.ty _, tyx_T (by walk_at "sq"), kt_tuple_int, ?_⟩ | refine ⟨_, _, Value.type "int", Value.type "str", false, rfl, ClsV.ty _, TyX.base (TyOf.int _), kt_int_str, ?_⟩ | refine ⟨_, _, Value.type "bool", Value.type "str", false, rfl, ClsV.ty _, TyX.base (TyOf.bl _), kt_bool_str, ?_⟩ | refine ⟨_, _, Value.type "str", Value.type "str", true, rfl, ClsV.ty _, TyX.base (TyOf.str _), kt_str_str, ?_⟩ | refine ⟨_, _, Value.type "NoneType", Value.type "str", false, rfl, ClsV.ty _, TyX.base TyOf.non, kt_NoneType_str, ?_⟩ | refine ⟨_, _, Value.type "list", Value.type "str", false, rfl, ClsV.ty _, tyx_L (by walk_at "sq"), kt_list_str, ?_⟩ | refine ⟨_, _, Value.type "tuple", Value.type "str", false, rfl, ClsV.ty _, tyx_T (by walk_at "sq"), kt_tuple_str, ?_⟩)
local macro_rules | `(tactic| walk_at "go1") => `(tactic| first
  | (refine ⟨_, rfl, ?_⟩)
  | (refine ⟨_, _, rfl, rfl, ?_⟩)
  | (refine ⟨_, _, _, _, rfl, rfl, SqL.of (by walk_at "hp"), rfl, ?_⟩)
  | (refine Or.inl ⟨_, rfl, ?_⟩)
  | (refine ⟨rfl, ?_⟩)
  | (refine ⟨_, _, rfl, .inl (SqL.of (by walk_at "hp")), ?_⟩)
  | (refine ⟨_, _, rfl, Or.inl (by assumption), ?_⟩)
  | (refine ⟨_, _, rfl, Or.inr (by assumption), ?_⟩)
  | (refine ⟨(by walk_at "ok"), ?_⟩)
  | (refine ⟨_, _, _, _, rfl, rfl, (by walk_at "hp"), rfl, ?_⟩))
local macro_rules | `(tactic| walk_at "go") => `(tactic| repeat (walk_at "go1"))
local macro_rules | `(tactic| walk_at "gt") => `(tactic| repeat (first | walk_at "go1" | walk_at "ty"))

section
variable {P : Program} {w : World} {K : PySem.W.Frag} {mg : Str → Option Value} {base : Heap}
-- [0=_law_things, 1=_law_found, 2=_law_x] [0=_law_things, 1=_law_spot, 2=_law_found, 3=_law_thing, 4=_law_j]
def Smalls (es : List (List Int)) : Prop := ∀ e ∈ es, e.length = 6 ∧ Sm 625 e
theorem sm_zero : Sm 1 (List.replicate 6 (0 : Int)) := ⟨by decide, by decide⟩
theorem sumE_small {es : List (List Int)} (h : Smalls es) : (sumE es).length = 6 ∧ Sm (625 ^ es.length) (sumE es) := by
  have key : ∀ (es : List (List Int)) (z : List Int) (b : Nat), Smalls es → z.length = 6 → Sm b z → (es.foldl addE z).length = 6 ∧ Sm (b * 625 ^ es.length) (es.foldl addE z) := by
    intro es
    induction es with
    | nil => exact fun z b _ h6 hb => ⟨h6, by simpa using hb⟩
    | cons e es ih =>
      intro z b hs h6 hb
      have he := hs e (List.mem_cons_self ..)
      have := ih (addE z e) (b * 625) (fun f hf => hs f (List.mem_cons_of_mem _ hf)) (by simp [addE, h6, he.1]) (sm_add (by rw [h6, he.1]) hb he.2)
      rw [List.foldl_cons, List.length_cons, Nat.pow_succ, Nat.mul_comm (625 ^ es.length), ← Nat.mul_assoc]
      exact this
  have := key es (List.replicate 6 0) 1 h rfl sm_zero
  rw [Nat.one_mul] at this
  exact this
theorem small_fit {es : List (List Int)} {x : List Int} (hz : es.length ≤ 100) (h : Sm (625 ^ es.length) x) : Fit x := by
  refine h.fit (Nat.lt_of_le_of_lt (Nat.pow_le_pow_left (by decide : 625 ≤ 2 ^ 10) _) ?_)
  rw [← Nat.pow_mul]
  exact Nat.pow_lt_pow_right (by decide) (by omega)
def spProduct (K : PySem.W.Frag) : Sp := fun vs H Q _ => ∃ (a : Addr) (ps : List V) (es : List (List Int)), vs = [.ref a] ∧ SqL K H a ps ∧ TasI K H ps es ∧ es.length ≤ 100 ∧ Smalls es ∧ ∀ t H', Same H H' → TAt K H' t (sumE es) → Q (.ref t) H'
theorem ok_l_product (T : Tx K mg) : FnOk P w K mg base CX0 4 T.f_l_product T.d_l_product ["_law_things"] (spProduct K) := by
  have G_l_mul := ok_l_mul (P := P) (w := w) (base := base) T
  refine T.F_l_product.ok sc_l_product (fun vs H Q E h => ?_) (fun cdv A outer s H vs Q E hr h => ?_)
  · obtain ⟨a, ps, es, rfl, _⟩ := h
    rfl
  obtain ⟨a, ps, es, rfl, ha, hT, hz, hS, q⟩ := h
  have nd := sc_l_product.nd
  refine ⟨_, (pss_cons (ps_set (i := 1) nd rfl (Or.inl rfl) (pe_tup (pa_cons pe_int (pa_cons pe_int pa_nil))))
    (pss_cons (ps_for PassesOwn.never rfl (show PI _ _ _ (iList K _) from pi_list (pv 0)) (pg_name (i := 2) nd rfl (Or.inl rfl)) (pss_one (ps_set (i := 1) nd rfl (Or.inl rfl) (pe_call G_l_mul hr (by rfl) T.m_l_mul T.F_l_mul.kp T.b_l_mul .nil pass0 (pa_cons (pv 1) (pa_cons (pv 2) pa_nil))))))
    (pss_one (ps_ret (pv 1))))), ?_⟩
  refine ⟨(by show 2 ≤ sizeLine; decide), fun p hp => ?_⟩
  have s0 := Same.new (o := .tup [V.int 1, V.int 1]) hp
  refine ⟨_, rfl, a, rfl, ⟨_, s0.seq ha⟩, for_it (walk_list (K := K) (a := a) (xs := ps)) (fun i σ H' => Same H H' ∧ ∃ pl a2, σ = [some (.ref a), some (.ref pl), a2] ∧ TAt K H' pl (sumE (es.take i))) ⟨s0, p, _, rfl, SqT.of upd_same, rfl⟩ (fun _ _ _ _ h => h.1.seq ha) ?_ ?_⟩
  · rintro i v σ H1 H2 hi ⟨s1, pl, a2, rfl, hpl⟩ ⟨rfl, hv⟩
    obtain ⟨t, e, rfl, he, ht⟩ := hT.2 i v hv
    have hs := hS e (List.mem_of_getElem? he)
    have hst : Smalls (es.take i) := fun f hf => hS f (List.mem_of_mem_take hf)
    have l1 := sumE_small hst
    refine ⟨_, rfl, _, rfl, pl, t, _, e, rfl, hpl, ht.same s1, small_fit (by rw [List.length_take]; omega) l1.2, hs.2.fit (Nat.lt_trans (by decide : 625 < 2 ^ 10) (Nat.pow_lt_pow_right (by decide) (by decide))), fun r H3 s3 hr' => ?_⟩
    refine ⟨s1.trans s3, r, _, rfl, ?_⟩
    rw [sumE_take he]
    exact hr'
  · rintro σ H1 ⟨s1, pl, a2, rfl, hpl⟩
    have ew : es.take ps.length = es := by rw [hT.1, List.take_length]
    rw [ew] at hpl
    exact ⟨_, rfl, q pl H1 s1 hpl⟩
theorem far_small {es : List (List Int)} (h : Smalls es) : Far es := ⟨fun e he => fun x hx => Nat.le_trans (ex20 (h e he).1 (h e he).2.1 (h e he).2.2 x hx) (by decide), fun e he f hf n => far_of (h e he).1 (h f hf).1 (h e he).2.1 (h e he).2.2 (h f hf).2.1 (h f hf).2.2 (ex20 (h e he).1 (h e he).2.1 (h e he).2.2) (ex20 (h f hf).1 (h f hf).2.1 (h f hf).2.2) n⟩
theorem less_small {x y : List Int} (hx : x.length = 6 ∧ Sm 625 x) (hy : y.length = 6 ∧ Sm 625 y) : up x * dn y < up y * dn x ↔ logE x < logE y := by
  have ex := ex20 hx.1 hx.2.1 hx.2.2
  have ey := ex20 hy.1 hy.2.1 hy.2.2
  constructor
  · intro h
    have := far2 hx.1 hy.1 hx.2.1 hx.2.2 hy.2.1 hy.2.2 ex ey h
    omega
  · intro h
    have n : x ≠ y := fun z => by rw [z] at h; omega
    rcases cross_ne hx.1 hy.1 n with c | c
    · exact c
    · have := far2 hy.1 hx.1 hy.2.1 hy.2.2 hx.2.1 hx.2.2 ey ex c
      omega
end
end TL
namespace TL
open PySem L2

/-! ### steps of a reading -/
local macro_rules | `(tactic| walk_at "hp") => `(tactic| first | assumption | exact upd_same | (refine (upd_ne (by first | assumption | (exact Ne.symm (by assumption)))).trans ?_; walk_at "hp"))
local macro_rules | `(tactic| walk_at "ok") => `(tactic| first | (exact Or.inr ⟨by decide, by decide⟩) | (exact ⟨by decide, by decide⟩) | (exact ⟨by decide, by decide, by decide⟩) | (show _ ≠ _; omega) | (show _ ≠ _; decide) | (exact Or.inl ⟨by omega, by omega⟩) | decide)
local macro_rules | `(tactic| walk_at "sq") => `(tactic| first | assumption | exact SqL.of (by walk_at "hp") | exact SqT.of (by walk_at "hp"))
local macro_rules | `(tactic| walk_at "ty") => `(tactic| first | refine ⟨_, _, Value.type "int", Value.type "list", false, rfl, ClsV.ty _, TyX.base (TyOf.int _), kt_int_list, ?_⟩ | refine ⟨_, _, Value.type "bool", Value.type "list", false, rfl, ClsV.ty _, TyX.base (TyOf.bl _), kt_bool_list, ?_⟩ | refine ⟨_, _, Value.type "str", Value.type "list", false, rfl, ClsV.ty _, TyX.base (TyOf.str _), kt_str_list, ?_⟩ | refine ⟨_, _, Value.type "NoneType", Value.type "list", false, rfl, ClsV.ty _, TyX.base TyOf.non, kt_NoneType_list, ?_⟩ | refine ⟨_, _, Value.type "list", Value.type "list", true, rfl, ClsV.ty _, tyx_L (by walk_at "sq"), kt_list_list, ?_⟩ | refine ⟨_, _, Value.type "tuple", Value.type "list", false, rfl, ClsV.ty _, tyx_T (by walk_at "sq"), kt_tuple_list, ?_⟩ | refine ⟨_, _, Value.type "int", Value.type "tuple", false, rfl, ClsV.ty _, TyX.base (TyOf.int _), kt_int_tuple, ?_⟩ | refine ⟨_, _, Value.type "bool", Value.type "tuple", false, rfl, ClsV.ty _, TyX.base (TyOf.bl _), kt_bool_tuple, ?_⟩ | refine ⟨_, _, Value.type "str", Value.type "tuple", false, rfl, ClsV.ty _, TyX.base (TyOf.str _), kt_str_tuple, ?_⟩ | refine ⟨_, _, Value.type "NoneType", Value.type "tuple", false, rfl, ClsV.ty _, TyX.base TyOf.non, kt_NoneType_tuple, ?_⟩ | refine ⟨_, _, Value.type "list", Value.type "tuple", false, rfl, ClsV.ty _, tyx_L (by walk_at "sq"), kt_list_tuple, ?_⟩ | refine ⟨_, _, Value.type "tuple", Value.type "tuple", true, rfl, ClsV.ty _, tyx_T (by walk_at "sq"), kt_tuple_tuple, ?_⟩ | refine ⟨_, _, Value.type "int", Value.type "bool", false, rfl, ClsV.ty _, TyX.base (TyOf.int _), kt_int_bool, ?_⟩ | refine ⟨_, _, Value.type "bool", Value.type "bool", true, rfl, ClsV.ty _, TyX.base (TyOf.bl _), kt_bool_bool, ?_⟩ | refine ⟨_, _, Value.type "str", Value.type "bool", false, rfl, ClsV.ty _, TyX.base (TyOf.str _), kt_str_bool, ?_⟩ | refine ⟨_, _, Value.type "NoneType", Value.type "bool", false, rfl, ClsV.ty _, TyX.base TyOf.non, kt_NoneType_bool, ?_⟩ | refine ⟨_, _, Value.type "list", Value.type "bool", false, rfl, ClsV.ty _, tyx_L (by walk_at "sq"), kt_list_bool, ?_⟩ | refine ⟨_, _, Value.type "tuple", Value.type "bool", false, rfl, ClsV.ty _, tyx_T (by walk_at "sq"), kt_tuple_bool, ?_⟩ | refine ⟨_, _, Value.type "int", Value.type "int", true, rfl, ClsV.ty _, TyX.base (TyOf.int _), kt_int_int, ?_⟩ | refine ⟨_, _, Value.type "bool", Value.type "int", true, rfl, ClsV.ty _, TyX.base (TyOf.bl _), kt_bool_int, ?_⟩ | refine ⟨_, _, Value.type "str", Value.type "int", false, rfl, ClsV.ty _, TyX.base (TyOf.str _), kt_str_int, ?_⟩ | refine ⟨_, _, Value.type "NoneType", Value.type "int", false, rfl, ClsV.ty _, TyX.base TyOf.non, kt_NoneType_int, ?_⟩ | refine ⟨_, _, Value.type "list", Value.type "int", false, rfl, ClsV.ty _, tyx_L (by walk_at "sq"), kt_list_int, ?_⟩ | refine ⟨_, _, Value.type "tuple", Value.type "int", false, rfl, ClsV.ty _, tyx_T (by walk_at "sq"), kt_tuple_int, ?_⟩ | refine ⟨_, _, Value.type "int", Value.type "str", false, rfl, ClsV.ty _, TyX.base (TyOf.int _), kt_int_str, ?_⟩ | refine ⟨_, _, Value.type "bool", Value.type "str", false, rfl, ClsV.ty _, TyX.base (TyOf.bl _), kt_bool_str, ?_⟩ | refine ⟨_, _, Value.type "str", Value.type "str", true, rfl, ClsV.ty _, TyX.base (TyOf.str _), kt_str_str, ?_⟩ | refine ⟨_, _, Value.type "NoneType", Value.type "str", false, rfl, ClsV.ty _, TyX.base TyOf.non, kt_NoneType_str, ?_⟩ | refine ⟨_, _, Value.type "list", Value.type "str", false, rfl, ClsV.ty _, tyx_L (by walk_at "sq"), kt_list_str, ?_⟩ | refine ⟨_, _, Value.type "tuple", Value.type "str", false, rfl, ClsV.ty _, tyx_T (by walk_at "sq"), kt_tuple_str, ?_⟩)
local macro_rules | `(tactic| walk_at "go1") => `(tactic| first
  | (refine ⟨_, rfl, ?_⟩)
  | (refine ⟨_, _, rfl, rfl, ?_⟩)
  | (refine ⟨_, _, _, _, rfl, rfl, SqL.of (by walk_at "hp"), rfl, ?_⟩)
  | (refine Or.inl ⟨_, rfl, ?_⟩)
  | (refine ⟨rfl, ?_⟩)
  | (refine ⟨_, _, rfl, .inl (SqL.of (by walk_at "hp")), ?_⟩)
  | (refine ⟨_, _, rfl, Or.inl (by assumption), ?_⟩)
  | (refine ⟨_, _, rfl, Or.inr (by assumption), ?_⟩)
  | (refine ⟨(by walk_at "ok"), ?_⟩)
  | (refine ⟨_, _, _, _, rfl, rfl, (by walk_at "hp"), rfl, ?_⟩))
local macro_rules | `(tactic| walk_at "go") => `(tactic| repeat (walk_at "go1"))
local macro_rules | `(tactic| walk_at "gt") => `(tactic| repeat (first | walk_at "go1" | walk_at "ty"))

section
variable {P : Program} {w : World} {K : PySem.W.Frag} {mg : Str → Option Value} {base : Heap}
/-- one fraction in a tuple -/
def OneAt (K : PySem.W.Frag) (H : Hp) (t : Addr) (e : List Int) : Prop := ∃ p, SqT K H t [.ref p] ∧ TAt K H p e
def Ones (K : PySem.W.Frag) (H : Hp) (ps : List V) (es : List (List Int)) : Prop := ps.length = es.length ∧ ∀ (i : Nat) v, ps[i]? = some v → ∃ t e, v = .ref t ∧ es[i]? = some e ∧ OneAt K H t e
theorem OneAt.same {H H' : Hp} {t : Addr} {e : List Int} (h : OneAt K H t e) (s : Same H H') : OneAt K H' t e := by
  obtain ⟨p, h1, h2⟩ := h
  exact ⟨p, seqT s h1, h2.same s⟩
theorem TAt.lst {g : Addr} {H : Hp} {t : Addr} {e : List Int} {zs zs' : List V} (hg : H g = some (.lst zs)) (h : TAt K H t e) : TAt K (upd H g (.lst zs')) t e := ⟨seqT_kb hg Kb.at h.ex, h.len⟩
theorem OneAt.lst {g : Addr} {H : Hp} {t : Addr} {e : List Int} {zs zs' : List V} (hg : H g = some (.lst zs)) (h : OneAt K H t e) : OneAt K (upd H g (.lst zs')) t e := by
  obtain ⟨p, h1, h2⟩ := h
  exact ⟨p, seqT_kb hg Kb.at h1, h2.lst hg⟩
theorem Ones.lst {g : Addr} {H : Hp} {ps : List V} {es : List (List Int)} {zs zs' : List V} (hg : H g = some (.lst zs)) (h : Ones K H ps es) : Ones K (upd H g (.lst zs')) ps es := ⟨h.1, fun i v hv => by
  obtain ⟨t, e, e1, e2, e3⟩ := h.2 i v hv
  exact ⟨t, e, e1, e2, e3.lst hg⟩⟩
theorem Ones.same {H H' : Hp} {ps : List V} {es : List (List Int)} (h : Ones K H ps es) (s : Same H H') : Ones K H' ps es := ⟨h.1, fun i v hv => by
  obtain ⟨t, e, e1, e2, e3⟩ := h.2 i v hv
  exact ⟨t, e, e1, e2, e3.same s⟩⟩
theorem Ones.append {H : Hp} {ps qs : List V} {es fs : List (List Int)} (h : Ones K H ps es) (g : Ones K H qs fs) : Ones K H (ps ++ qs) (es ++ fs) := ⟨by rw [List.length_append, List.length_append, h.1, g.1], fun i v hv => by
  by_cases c : i < ps.length
  · rw [List.getElem?_append_left c] at hv
    rw [List.getElem?_append_left (by rw [← h.1]; exact c)]
    exact h.2 i v hv
  · have c' : ps.length ≤ i := Nat.le_of_not_lt c
    rw [List.getElem?_append_right c'] at hv
    rw [List.getElem?_append_right (by rw [← h.1]; exact c'), ← h.1]
    exact g.2 _ v hv⟩
theorem Ones.take {H : Hp} {ps : List V} {es : List (List Int)} (h : Ones K H ps es) (j : Nat) : Ones K H (ps.take j) (es.take j) := ⟨by rw [List.length_take, List.length_take, h.1], fun i v hv => by
  rw [List.getElem?_take] at hv ⊢
  split at hv
  · rename_i c
    rw [if_pos c]
    exact h.2 i v hv
  · cases hv⟩
theorem Ones.drop {H : Hp} {ps : List V} {es : List (List Int)} (h : Ones K H ps es) (j : Nat) : Ones K H (ps.drop j) (es.drop j) := ⟨by rw [List.length_drop, List.length_drop, h.1], fun i v hv => by
  rw [List.getElem?_drop] at hv ⊢
  exact h.2 _ v hv⟩
theorem Ones.one {H : Hp} {t : Addr} {e : List Int} (h : OneAt K H t e) : Ones K H [.ref t] [e] := ⟨rfl, fun i v hv => by
  match i, hv with
  | 0, hv => exact ⟨t, e, (Option.some.inj hv).symm, rfl, h⟩⟩
theorem ins_asc {gs : List (List Int)} {e : List Int} {j : Nat} (h : gs.Pairwise fun x y => logE x < logE y) (hj : j ≤ gs.length) (hi : ∀ (k : Nat) x, j ≤ k → gs[k]? = some x → logE e < logE x) (lo : j = 0 ∨ ∃ x, gs[j - 1]? = some x ∧ logE x < logE e) : (gs.take j ++ [e] ++ gs.drop j).Pairwise fun x y => logE x < logE y := by
  have up1 : ∀ x ∈ gs.drop j, logE e < logE x := fun x hx => by
    obtain ⟨k, hk⟩ := List.mem_iff_getElem?.mp hx
    rw [List.getElem?_drop] at hk
    exact hi _ x (by omega) hk
  have dn1 : ∀ x ∈ gs.take j, logE x < logE e := fun x hx => by
    rcases lo with z | ⟨y, hy, l⟩
    · rw [z, List.take_zero] at hx
      cases hx
    · obtain ⟨k, hk⟩ := List.mem_iff_getElem?.mp hx
      rw [List.getElem?_take] at hk
      split at hk
      · rename_i c
        obtain ⟨a1, a2⟩ := List.getElem?_eq_some_iff.mp hk
        obtain ⟨b1, b2⟩ := List.getElem?_eq_some_iff.mp hy
        rcases Nat.lt_or_ge k (j - 1) with d | d
        · have := (List.pairwise_iff_getElem.mp h) k (j - 1) a1 b1 d
          rw [a2, b2] at this
          omega
        · have : k = j - 1 := by omega
          subst this
          rw [b2] at a2
          rw [← a2]
          exact l
      · cases hk
  rw [List.append_assoc, List.pairwise_append]
  refine ⟨h.sublist (List.take_sublist ..), ?_, fun x hx y hy => ?_⟩
  · rw [List.singleton_append, List.pairwise_cons]
    exact ⟨up1, h.sublist (List.drop_sublist ..)⟩
  · have := dn1 x hx
    rw [List.singleton_append] at hy
    rcases List.mem_cons.mp hy with z | z
    · rw [z]
      exact this
    · have := up1 y z
      omega
def spRanked (K : PySem.W.Frag) : Sp := fun vs H Q _ => ∃ (a : Addr) (ps : List V) (es : List (List Int)), vs = [.ref a, .int 0] ∧ SqL K H a ps ∧ Ones K H ps es ∧ es.length ≤ 100 ∧ Smalls es ∧ es.Nodup ∧ ∀ t qs gs H', Same H H' → H' t = some (.lst qs) → Ones K H' qs gs → Asc es gs → gs.length = es.length → Q (.ref t) H'
theorem ok_l_ranked (T : Tx K mg) : FnOk P w K mg base CX0 2 T.f_l_ranked T.d_l_ranked ["_law_things", "_law_spot"] (spRanked K) := by
  have G_l_less := ok_l_less (P := P) (w := w) (base := base) T
  refine T.F_l_ranked.ok sc_l_ranked (fun vs H Q E h => ?_) (fun cdv A outer s H vs Q E hr h => ?_)
  · obtain ⟨a, ps, es, rfl, _⟩ := h
    rfl
  obtain ⟨a, ps, es, rfl, ha, hT, hz, hS, hN, q⟩ := h
  have nd := sc_l_ranked.nd
  refine ⟨_, (pss_cons (ps_set (i := 2) nd rfl (Or.inl rfl) (pe_lst pa_nil))
    (pss_cons (ps_for PassesOwn.never rfl (show PI _ _ _ (iList K _) from pi_list (pv 0)) (pg_name (i := 3) nd rfl (Or.inl rfl)) (pss_cons (ps_set (i := 4) nd rfl (Or.inl rfl) (pe_callB (show CallR _ _ (rLenSq K) from call_len_seq) (by rfl) T.z_len (by decide +kernel) (pa_cons (pv 2) pa_nil)))
    (pss_cons (ps_while PassesOwn.never (PW.pt (pw_and (pt_cmpR op_gt (pv 4) pe_int (nomark _)) (pw_and1 (pt_val (pe_call G_l_less hr (by rfl) T.m_l_less T.F_l_less.kp T.b_l_less .nil pass0 (pa_cons (pe_ix (show IxR _ (rIxT K) from ix_tup) (pv 3) (pv 1) (fun _ _ => rfl)) (pa_cons (pe_ix (show IxR _ (rIxT K) from ix_tup) (pe_ix (show IxR _ (rIxL K) from ix_list) (pv 2) (pe_op op_sub (pv 4) pe_int) (fun _ _ => rfl)) (pv 1) (fun _ _ => rfl)) pa_nil))))))) (pss_one (ps_set (i := 4) nd rfl (Or.inl rfl) (pe_op op_sub (pv 4) pe_int))))
    (pss_one (ps_expr (pe_bm PySem.F.plainAttrs_list PySem.F.slot_list_insert PySem.F.type_list_insert mt_insert (pv 2) (pa_cons (pv 4) (pa_cons (pv 3) pa_nil))))))))
    (pss_one (ps_ret (pv 2))))), ?_⟩
  refine ⟨(by show 0 ≤ sizeLine; decide), fun p hp => ?_⟩
  have s0 := Same.new (o := .lst []) hp
  refine ⟨_, rfl, a, rfl, ⟨_, s0.seq ha⟩, for_it (walk_list (K := K) (a := a) (xs := ps)) (fun i σ H' => ∃ a3 a4 qs gs, σ = [some (.ref a), some (.int 0), some (.ref p), a3, a4] ∧ Same H H' ∧ H' p = some (.lst qs) ∧ Ones K H' qs gs ∧ (gs.Pairwise fun x y => logE x < logE y) ∧ (∀ e, e ∈ gs ↔ e ∈ es.take i) ∧ gs.length = i) ⟨_, _, [], [], rfl, s0, upd_same, ⟨rfl, fun i v hv => by cases hv⟩, List.Pairwise.nil, fun e => by rw [List.take_zero], rfl⟩ (fun _ _ _ _ h => by obtain ⟨_, _, _, _, _, s, _⟩ := h; exact s.seq ha) ?_ ?_⟩
  · rintro i v σ H1 H2 hi ⟨a3, a4, qs, gs, rfl, s1, hqs, hO, hA, hM, hl⟩ ⟨rfl, hv⟩
    obtain ⟨t, e, rfl, he, ht⟩ := hT.2 i v hv
    have hes := hS e (List.mem_of_getElem? he)
    have hgs : ∀ g ∈ gs, g ∈ es := fun g hg => List.mem_of_mem_take ((hM g).mp hg)
    have hne : e ∉ gs := fun z => by
      have := (hM e).mp z
      obtain ⟨k, hk⟩ := List.mem_iff_getElem?.mp this
      rw [List.getElem?_take] at hk
      split at hk
      · rename_i c
        have := nd_ix hN hk he
        omega
      · cases hk
    have ht1 := ht.same s1
    have hql : qs.length = i := by rw [hO.1, hl]
    have hil : i < es.length := (List.getElem?_eq_some_iff.mp he).1
    have hj63 : ∀ j : Nat, j ≤ i → ((j : Int) < 2 ^ 63) := fun j h => by omega
    have fs : ∀ {x : List Int}, (x.length = 6 ∧ Sm 625 x) → Fit x := fun h => h.2.fit (Nat.lt_trans (by decide : 625 < 2 ^ 10) (Nat.pow_lt_pow_right (by decide) (by decide)))
    obtain ⟨pe, oe1, oe2⟩ := ht1
    refine ⟨_, rfl, p, qs, rfl, .inl (SqL.of hqs), ?_⟩
    refine ⟨fun m σ H' => m ≤ i ∧ H' = H2 ∧ σ = [some (.ref a), some (.int 0), some (.ref p), some (.ref t), some (.int (m : Int))] ∧ ∀ (k : Nat) x, m ≤ k → gs[k]? = some x → logE e < logE x, ⟨i, Nat.le_refl _, rfl, by rw [hql]; rfl, fun k x h1 h2 => absurd (List.getElem?_eq_some_iff.mp h2).1 (by omega)⟩, ?_⟩
    rintro m σ H3 ⟨hm, rfl, rfl, hk⟩
    have fin : (m = 0 ∨ ∃ x, gs[m - 1]? = some x ∧ logE x < logE e) → ∃ a3 a4 qs' gs', [some (V.ref a), some (V.int 0), some (V.ref p), some (V.ref t), some (V.int (m : Int))] = [some (V.ref a), some (V.int 0), some (V.ref p), a3, a4] ∧ Same H (upd H3 p (.lst (qs.take m ++ [V.ref t] ++ qs.drop m))) ∧ (upd H3 p (.lst (qs.take m ++ [V.ref t] ++ qs.drop m))) p = some (.lst qs') ∧ Ones K (upd H3 p (.lst (qs.take m ++ [V.ref t] ++ qs.drop m))) qs' gs' ∧ (gs'.Pairwise fun x y => logE x < logE y) ∧ (∀ e, e ∈ gs' ↔ e ∈ es.take (i + 1)) ∧ gs'.length = i + 1 := fun lo => by
      refine ⟨_, _, qs.take m ++ [V.ref t] ++ qs.drop m, gs.take m ++ [e] ++ gs.drop m, rfl, fun c o h => by rw [upd_ne (ne_of_none h hp)]; exact s1 _ _ h, upd_same, (((hO.lst hqs).take m).append (Ones.one (OneAt.lst hqs ⟨pe, oe1, oe2⟩))).append ((hO.lst hqs).drop m), ins_asc hA (by omega) hk lo, fun f => ?_, ?_⟩
      · rw [take_snoc he, List.mem_append, List.mem_append, List.mem_append, ← hM f, List.mem_singleton]
        constructor
        · rintro ((h | h) | h)
          · exact .inl (List.mem_of_mem_take h)
          · exact .inr h
          · exact .inl (List.mem_of_mem_drop h)
        · rintro (h | h)
          · rw [← List.take_append_drop m gs, List.mem_append] at h
            exact h.elim (fun z => .inl (.inl z)) .inr
          · exact .inl (.inr h)
      · rw [List.length_append, List.length_append, List.length_take, List.length_drop, hl]
        simp
        omega
    have hqz : qs.length < sizeLine := small1000 (by omega)
    by_cases hm0 : 0 < m
    · have hml : m - 1 < gs.length := by omega
      obtain ⟨tg, eg, z1, z2, pg, z3, z4⟩ := hO.2 (m - 1) qs[m - 1] (List.getElem?_eq_getElem (by omega))
      have hqm : qs[m - 1]? = some (.ref tg) := by rw [List.getElem?_eq_getElem (by omega), z1]
      have heg := hS eg (hgs eg (List.mem_of_getElem? z2))
      refine ⟨_, rfl, _, _, rfl, rfl, true, congrArg V.bl (decide_eq_true (by omega)), ?_⟩
      refine ⟨_, rfl, _, rfl, t, _, _, _, rfl, rfl, oe1, rfl, _, rfl, _, rfl, _, _, rfl, rfl, p, qs, _, _, rfl, rfl, SqL.of hqs, at_of (j := m - 1) (by omega) hqm, _, rfl, tg, _, _, _, rfl, rfl, z3, rfl, pe, pg, e, eg, rfl, oe2, z4, fs hes, fs heg, _, rfl, ?_⟩
      refine ite2 (fun c => ?_) (fun c => ?_)
      · have c' := (less_small hes heg).mp (of_decide_eq_true c)
        refine ⟨fun σ' H' => H' = H3 ∧ σ' = [some (.ref a), some (.int 0), some (.ref p), some (.ref t), some (.int ((m : Int) - 1))], fun σ' H' ⟨a1, a2⟩ => ⟨m - 1, by omega, by omega, a1, by rw [a2, show ((m : Int) - 1) = ((m - 1 : Nat) : Int) by omega], fun k x h1 h2 => ?_⟩, ?_⟩
        · rcases Nat.lt_or_ge k m with d | d
          · have : k = m - 1 := by omega
            rw [this, z2] at h2
            rw [← Option.some.inj h2]
            exact c'
          · exact hk k x d h2
        · exact ⟨_, rfl, _, _, rfl, rfl, rfl, rfl⟩
      · have n : e ≠ eg := fun z => hne (z ▸ List.mem_of_getElem? z2)
        have c' : logE eg < logE e := by
          rcases cross_ne hes.1 heg.1 n with d | d
          · exact absurd (decide_eq_true d) c
          · exact (less_small heg hes).mp d
        exact ⟨_, rfl, .inl ⟨rfl, _, SqL.of hqs⟩, _, rfl, _, rfl, p, qs, _, _, rfl, rfl, hqs, hqz, by omega, hj63 m hm, fin (.inr ⟨eg, z2, c'⟩)⟩
    · have hm00 : m = 0 := by omega
      refine ⟨_, rfl, _, _, rfl, rfl, false, congrArg V.bl (decide_eq_false (by omega)), ?_⟩
      refine iteF ?_
      exact ⟨_, rfl, .inl ⟨rfl, _, SqL.of hqs⟩, _, rfl, _, rfl, p, qs, _, _, rfl, rfl, hqs, hqz, by omega, hj63 m hm, fin (.inl hm00)⟩
  · rintro σ H1 ⟨a3, a4, qs, gs, rfl, s1, hqs, hO, hA, hM, hl⟩
    have ew : es.take ps.length = es := by rw [hT.1, List.take_length]
    rw [ew] at hM
    exact ⟨_, rfl, q p qs gs H1 s1 hqs hO ⟨hA, hM⟩ (by rw [hl, hT.1])⟩
end
end TL
namespace TL
open PySem L2

/-! ### steps of a reading -/
local macro_rules | `(tactic| walk_at "hp") => `(tactic| first | assumption | exact upd_same | (refine (upd_ne (by first | assumption | (exact Ne.symm (by assumption)))).trans ?_; walk_at "hp"))
local macro_rules | `(tactic| walk_at "ok") => `(tactic| first | (exact Or.inr ⟨by decide, by decide⟩) | (exact ⟨by decide, by decide⟩) | (exact ⟨by decide, by decide, by decide⟩) | (show _ ≠ _; omega) | (show _ ≠ _; decide) | (exact Or.inl ⟨by omega, by omega⟩) | decide)
local macro_rules | `(tactic| walk_at "sq") => `(tactic| first | assumption | exact SqL.of (by walk_at "hp") | exact SqT.of (by walk_at "hp"))
local macro_rules | `(tactic| walk_at "ty") => `(tactic| first | refine ⟨_, _, Value.type "int", Value.type "list", false, rfl, ClsV.ty _, TyX.base (TyOf.int _), kt_int_list, ?_⟩ | refine ⟨_, _, Value.type "bool", Value.type "list", false, rfl, ClsV.ty _, TyX.base (TyOf.bl _), kt_bool_list, ?_⟩ | refine ⟨_, _, Value.type "str", Value.type "list", false, rfl, ClsV.ty _, TyX.base (TyOf.str _), kt_str_list, ?_⟩ | refine ⟨_, _, Value.type "NoneType", Value.type "list", false, rfl, ClsV.ty _, TyX.base TyOf.non, kt_NoneType_list, ?_⟩ | refine ⟨_, _, Value.type "list", Value.type "list", true, rfl, ClsV.ty _, tyx_L (by walk_at "sq"), kt_list_list, ?_⟩ | refine ⟨_, _, Value.type "tuple", Value.type "list", false, rfl, ClsV.ty _, tyx_T (by walk_at "sq"), kt_tuple_list, ?_⟩ | refine ⟨_, _, Value.type "int", Value.type "tuple", false, rfl, ClsV.ty _, TyX.base (TyOf.int _), kt_int_tuple, ?_⟩ | refine ⟨_, _, Value.type "bool", Value.type "tuple", false, rfl, ClsV.ty _, TyX.base (TyOf.bl _), kt_bool_tuple, ?_⟩ | refine ⟨_, _, Value.type "str", Value.type "tuple", false, rfl, ClsV.ty _, TyX.base (TyOf.str _), kt_str_tuple, ?_⟩ | refine ⟨_, _, Value.type "NoneType", Value.type "tuple", false, rfl, ClsV.ty _, TyX.base TyOf.non, kt_NoneType_tuple, ?_⟩ | refine ⟨_, _, Value.type "list", Value.type "tuple", false, rfl, ClsV.ty _, tyx_L (by walk_at "sq"), kt_list_tuple, ?_⟩ | refine ⟨_, _, Value.type "tuple", Value.type "tuple", true, rfl, ClsV.ty _, tyx_T (by walk_at "sq"), kt_tuple_tuple, ?_⟩ | refine ⟨_, _, Value.type "int", Value.type "bool", false, rfl, ClsV.ty _, TyX.base (TyOf.int _), kt_int_bool, ?_⟩ | refine ⟨_, _, Value.type "bool", Value.type "bool", true, rfl, ClsV.ty _, TyX.base (TyOf.bl _), kt_bool_bool, ?_⟩ | refine ⟨_, _, Value.type "str", Value.type "bool", false, rfl, ClsV.ty _, TyX.base (TyOf.str _), kt_str_bool, ?_⟩ | refine ⟨_, _, Value.type "NoneType", Value.type "bool", false, rfl, ClsV.ty _, TyX.base TyOf.non, kt_NoneType_bool, ?_⟩ | refine ⟨_, _, Value.type "list", Value.type "bool", false, rfl, ClsV.ty _, tyx_L (by walk_at "sq"), kt_list_bool, ?_⟩ | refine ⟨_, _, Value.type "tuple", Value.type "bool", false, rfl, ClsV.ty _, tyx_T (by walk_at "sq"), kt_tuple_bool, ?_⟩ | refine ⟨_, _, Value.type "int", Value.type "int", true, rfl, ClsV.ty _, TyX.base (TyOf.int _), kt_int_int, ?_⟩ | refine ⟨_, _, Value.type "bool", Value.type "int", true, rfl, ClsV.ty _, TyX.base (TyOf.bl _), kt_bool_int, ?_⟩ | refine ⟨_, _, Value.type "str", Value.type "int", false, rfl, ClsV.ty _, TyX.base (TyOf.str _), kt_str_int, ?_⟩ | refine ⟨_, _, Value.type "NoneType", Value.type "int", false, rfl, ClsV.ty _, TyX.base TyOf.non, kt_NoneType_int, ?_⟩ | refine ⟨_, _, Value.type "list", Value.type "int", false, rfl, ClsV.ty _, tyx_L (by walk_at "sq"), kt_list_int, ?_⟩ | refine ⟨_, _, Value.type "tuple", Value.type "int", false, rfl, ClsV.ty _, tyx_T (by walk_at "sq"), kt_tuple_int, ?_⟩ | refine ⟨_, _, Value.type "int", Value.type "str", false, rfl, ClsV.ty _, TyX.base (TyOf.int _), kt_int_str, ?_⟩ | refine ⟨_, _, Value.type "bool", Value.type "str", false, rfl, ClsV.ty _, TyX.base (TyOf.bl _), kt_bool_str, ?_⟩ | refine ⟨_, _, Value.type "str", Value.type "str", true, rfl, ClsV.ty _, TyX.base (TyOf.str _), kt_str_str, ?_⟩ | refine ⟨_, _, Value.type "NoneType", Value.type "str", false, rfl, ClsV.ty _, TyX.base TyOf.non, kt_NoneType_str, ?_⟩ | refine ⟨_, _, Value.type "list", Value.type "str", false, rfl, ClsV.ty _, tyx_L (by walk_at "sq"), kt_list_str, ?_⟩ | refine ⟨_, _, Value.type "tuple", Value.type "str", false, rfl, ClsV.ty _, tyx_T (by walk_at "sq"), kt_tuple_str, ?_⟩)
local macro_rules | `(tactic| walk_at "go1") => `(tactic| first
  | (refine ⟨_, rfl, ?_⟩)
  | (refine ⟨_, _, rfl, rfl, ?_⟩)
  | (refine ⟨_, _, _, _, rfl, rfl, SqL.of (by walk_at "hp"), rfl, ?_⟩)
  | (refine Or.inl ⟨_, rfl, ?_⟩)
  | (refine ⟨rfl, ?_⟩)
  | (refine ⟨_, _, rfl, .inl (SqL.of (by walk_at "hp")), ?_⟩)
  | (refine ⟨_, _, rfl, Or.inl (by assumption), ?_⟩)
  | (refine ⟨_, _, rfl, Or.inr (by assumption), ?_⟩)
  | (refine ⟨(by walk_at "ok"), ?_⟩)
  | (refine ⟨_, _, _, _, rfl, rfl, (by walk_at "hp"), rfl, ?_⟩))
local macro_rules | `(tactic| walk_at "go") => `(tactic| repeat (walk_at "go1"))
local macro_rules | `(tactic| walk_at "gt") => `(tactic| repeat (first | walk_at "go1" | walk_at "ty"))

section
variable {P : Program} {w : World} {K : PySem.W.Frag} {mg : Str → Option Value} {base : Heap}
-- [0=_law_bag_here, 1=_law_x, 2=_law_wide, 3=_law_step_here]
theorem among6 {n : Int} (h : n ∈ ([1, 1, 7, 60, 10 ^ 9 + 7, 10 ^ 20] : List Int)) : ∃ m : Nat, n = (m : Int) ∧ 0 < m ∧ m < 2 ^ 70 := by
  have : 0 < n ∧ n < 2 ^ 70 := by
    revert n
    decide
  exact ⟨n.toNat, by omega, by omega, by omega⟩
/-- the fractions at a fraction and beside it -/
def Beside (x y : Fr) : Prop := ∃ (m : Nat) (s : Int), 0 < m ∧ m < 2 ^ 70 ∧ -1 ≤ s ∧ s ≤ 1 ∧ y = lowP (((x.1 * m * 1000 : Nat) + s).toNat, x.2 * m * 1000)
def spBeside (K : PySem.W.Frag) : Sp := fun vs H Q _ => ∃ (B : Bg) (p : Addr) (x : Fr), vs = [.ref B.b, .ref p] ∧ Bag B H ∧ PT K H p x ∧ Bn 100 x ∧ ∀ t y H', Bag B H' → Kb B.b H H' → PT K H' t y → Beside x y → Q (.ref t) H'
theorem ok_l_beside (T : Tx K mg) : FnOk P w K mg base CX0 4 T.f_l_beside T.d_l_beside ["_law_bag_here", "_law_x"] (spBeside K) := by
  have G_l_of := ok_of (P := P) (w := w) (base := base) T
  have G_l_draw := ok_draw (P := P) (w := w) (base := base) T
  have G_l_low := ok_l_lowG (P := P) (w := w) (base := base) T
  refine T.F_l_beside.ok sc_l_beside (fun vs H Q E h => ?_) (fun cdv A outer s H vs Q E hr h => ?_)
  · obtain ⟨B, p, x, rfl, _⟩ := h
    rfl
  obtain ⟨B, p, x, rfl, hB, hx, bx, q⟩ := h
  have nd := sc_l_beside.nd
  refine ⟨_, (pss_cons (ps_set (i := 2) nd rfl (Or.inl rfl) (pe_call G_l_of (hr.mono (by decide)) (by rfl) T.m_l_of T.F_l_of.kp T.b_l_of .nil pass0 (pa_cons (pv 0) (pa_cons (pe_lst (pa_cons pe_int (pa_cons pe_int (pa_cons pe_int (pa_cons pe_int (pa_cons (pe_op op_add (pe_op op_pow pe_int pe_int) pe_int) (pa_cons (pe_op op_pow pe_int pe_int) pa_nil))))))) pa_nil))))
    (pss_cons (ps_set (i := 3) nd rfl (Or.inl rfl) (pe_op op_sub (pe_call G_l_draw (hr.mono (by decide)) (by rfl) T.m_l_draw T.F_l_draw.kp T.b_l_draw .nil pass0 (pa_cons (pv 0) (pa_cons pe_int pa_nil))) pe_int))
    (pss_one (ps_ret (pe_call G_l_low (hr.mono (by decide)) (by rfl) T.m_l_low T.F_l_low.kp T.b_l_low .nil pass0 (pa_cons (pe_op op_add (pe_op op_mulW (pe_op op_mulW (pe_ix (show IxR _ (rIxT K) from ix_tup) (pv 1) pe_int (fun _ _ => rfl)) (pv 2)) pe_int) (pv 3)) (pa_cons (pe_op op_mulW (pe_op op_mulW (pe_ix (show IxR _ (rIxT K) from ix_tup) (pv 1) pe_int (fun _ _ => rfl)) (pv 2)) pe_int) pa_nil))))))), ?_⟩
  refine ⟨_, rfl, 10, 9, rfl, rfl, ⟨by decide, by decide, by decide⟩, _, _, rfl, rfl, 10, 20, rfl, rfl, ⟨by decide, by decide, by decide⟩, ?_⟩
  refine ⟨(by show 6 ≤ sizeLine; decide), fun pl hpl => ?_⟩
  have s1 := Same.new (o := .lst (([1, 1, 7, 60, 10 ^ 9 + 7, 10 ^ 20] : List Int).map V.int)) hpl
  refine ⟨B, pl, ([1, 1, 7, 60, 10 ^ 9 + 7, 10 ^ 20] : List Int).map V.int, rfl, SqL.of upd_same, hB.nb hpl, by decide, by decide, hB.same s1, fun i v H1 hv hB1 kb1 => ?_⟩
  obtain ⟨n, hn, rfl⟩ := List.mem_map.mp (List.mem_of_getElem? hv)
  obtain ⟨m, rfl, m0, m1⟩ := among6 hn
  have hx1 := (hx.same s1)
  have hx2 : PT K H1 p x := by
    obtain ⟨i, r, s, c, hb, _⟩ := (hB.same s1).ex
    exact seqT_kb hb kb1 hx1
  have mb : ((m : Int)).natAbs < 2 ^ 70 := by rw [Int.natAbs_natCast]; exact m1
  refine ⟨_, rfl, B, 3, rfl, by decide, by decide, hB1, fun d H2 d0 d1 hB2 kb2 => ?_⟩
  have hx3 : PT K H2 p x := by
    obtain ⟨i, r, s, c, hb, _⟩ := hB1.ex
    exact seqT_kb hb kb2 hx2
  have na : ∀ {u : Nat}, u < 2 ^ 100 → ((u : Int)).natAbs < 2 ^ 100 := fun h => by rw [Int.natAbs_natCast]; exact h
  have na2 : ∀ {u : Nat}, u < 2 ^ 100 → ((u : Int) * (m : Int)).natAbs < 2 ^ 170 := fun {u} h => by
    rw [Int.natAbs_mul, Int.natAbs_natCast, Int.natAbs_natCast]
    have := Nat.mul_lt_mul'' h m1
    rwa [← Nat.pow_add] at this
  refine ⟨_, _, rfl, rfl, ?_⟩
  refine ⟨_, rfl, _, _, _, _, rfl, rfl, hx3, rfl, _, rfl, _, _, rfl, rfl, wide_mul (na bx.a) mb (by decide) (by decide) (by decide), _, _, rfl, rfl, wide_mul (na2 bx.a) (by decide : (1000 : Int).natAbs < 2 ^ 10) (by decide) (by decide) (by decide), _, rfl, _, _, rfl, rfl, ?_⟩
  refine ⟨_, rfl, _, _, _, _, rfl, rfl, hx3, rfl, _, rfl, _, _, rfl, rfl, wide_mul (na bx.b) mb (by decide) (by decide) (by decide), _, _, rfl, rfl, wide_mul (na2 bx.b) (by decide : (1000 : Int).natAbs < 2 ^ 10) (by decide) (by decide) (by decide), ?_⟩
  have u1 : x.1 * m < 2 ^ 170 := by
    have := na2 bx.a
    rwa [← Int.natCast_mul, Int.natAbs_natCast] at this
  have u2 : x.2 * m < 2 ^ 170 := by
    have := na2 bx.b
    rwa [← Int.natCast_mul, Int.natAbs_natCast] at this
  have v1 : 0 < x.1 * m := Nat.mul_pos bx.pa m0
  have v2 : 0 < x.2 * m := Nat.mul_pos bx.pb m0
  have big : (2 : Nat) ^ 181 ≤ 2 ^ 8001 := Nat.pow_le_pow_right (by decide) (by decide)
  have e1 : (x.1 : Int) * (m : Int) * 1000 + (d - 1) = ((((x.1 * m * 1000 : Nat) + (d - 1) : Int)).toNat : Int) := by
    rw [← Int.natCast_mul]
    generalize x.1 * m = u at *
    omega
  have e2 : (x.2 : Int) * (m : Int) * 1000 = ((x.2 * m * 1000 : Nat) : Int) := by
    rw [← Int.natCast_mul]
    generalize x.2 * m = u at *
    omega
  refine ⟨((((x.1 * m * 1000 : Nat) + (d - 1) : Int)).toNat, x.2 * m * 1000), ?_, ⟨?_, ?_, ?_, ?_⟩, fun t H3 s3 ht => ?_⟩
  · show [V.int ((x.1 : Int) * (m : Int) * 1000 + (d - 1)), V.int ((x.2 : Int) * (m : Int) * 1000)] = _
    rw [e1, e2]
  · generalize x.1 * m = u at *
    refine Nat.lt_of_lt_of_le ?_ big
    show (((u * 1000 : Nat) + (d - 1) : Int)).toNat < 2 ^ 181
    omega
  · generalize x.2 * m = u at *
    refine Nat.lt_of_lt_of_le ?_ big
    show u * 1000 < 2 ^ 181
    omega
  · generalize x.1 * m = u at *
    show 0 < (((u * 1000 : Nat) + (d - 1) : Int)).toNat
    omega
  · show 0 < x.2 * m * 1000
    omega
  exact q t _ H3 (hB2.same s3) ((((Kb.same s1).trans kb1).trans kb2).trans (Kb.same s3)) ht ⟨m, d - 1, m0, m1, by omega, by omega, rfl⟩
end
end TL
namespace TL
open PySem L2

/-! ### steps of a reading -/
local macro_rules | `(tactic| walk_at "hp") => `(tactic| first | assumption | exact upd_same | (refine (upd_ne (by first | assumption | (exact Ne.symm (by assumption)))).trans ?_; walk_at "hp"))
local macro_rules | `(tactic| walk_at "ok") => `(tactic| first | (exact Or.inr ⟨by decide, by decide⟩) | (exact ⟨by decide, by decide⟩) | (exact ⟨by decide, by decide, by decide⟩) | (show _ ≠ _; omega) | (show _ ≠ _; decide) | (exact Or.inl ⟨by omega, by omega⟩) | decide)
local macro_rules | `(tactic| walk_at "sq") => `(tactic| first | assumption | exact SqL.of (by walk_at "hp") | exact SqT.of (by walk_at "hp"))
local macro_rules | `(tactic| walk_at "ty") => `(tactic| first | refine ⟨_, _, Value.type "int", Value.type "list", false, rfl, ClsV.ty _, TyX.base (TyOf.int _), kt_int_list, ?_⟩ | refine ⟨_, _, Value.type "bool", Value.type "list", false, rfl, ClsV.ty _, TyX.base (TyOf.bl _), kt_bool_list, ?_⟩ | refine ⟨_, _, Value.type "str", Value.type "list", false, rfl, ClsV.ty _, TyX.base (TyOf.str _), kt_str_list, ?_⟩ | refine ⟨_, _, Value.type "NoneType", Value.type "list", false, rfl, ClsV.ty _, TyX.base TyOf.non, kt_NoneType_list, ?_⟩ | refine ⟨_, _, Value.type "list", Value.type "list", true, rfl, ClsV.ty _, tyx_L (by walk_at "sq"), kt_list_list, ?_⟩ | refine ⟨_, _, Value.type "tuple", Value.type "list", false, rfl, ClsV.ty _, tyx_T (by walk_at "sq"), kt_tuple_list, ?_⟩ | refine ⟨_, _, Value.type "int", Value.type "tuple", false, rfl, ClsV.ty _, TyX.base (TyOf.int _), kt_int_tuple, ?_⟩ | refine ⟨_, _, Value.type "bool", Value.type "tuple", false, rfl, ClsV.ty _, TyX.base (TyOf.bl _), kt_bool_tuple, ?_⟩ | refine ⟨_, _, Value.type "str", Value.type "tuple", false, rfl, ClsV.ty _, TyX.base (TyOf.str _), kt_str_tuple, ?_⟩ | refine ⟨_, _, Value.type "NoneType", Value.type "tuple", false, rfl, ClsV.ty _, TyX.base TyOf.non, kt_NoneType_tuple, ?_⟩ | refine ⟨_, _, Value.type "list", Value.type "tuple", false, rfl, ClsV.ty _, tyx_L (by walk_at "sq"), kt_list_tuple, ?_⟩ | refine ⟨_, _, Value.type "tuple", Value.type "tuple", true, rfl, ClsV.ty _, tyx_T (by walk_at "sq"), kt_tuple_tuple, ?_⟩ | refine ⟨_, _, Value.type "int", Value.type "bool", false, rfl, ClsV.ty _, TyX.base (TyOf.int _), kt_int_bool, ?_⟩ | refine ⟨_, _, Value.type "bool", Value.type "bool", true, rfl, ClsV.ty _, TyX.base (TyOf.bl _), kt_bool_bool, ?_⟩ | refine ⟨_, _, Value.type "str", Value.type "bool", false, rfl, ClsV.ty _, TyX.base (TyOf.str _), kt_str_bool, ?_⟩ | refine ⟨_, _, Value.type "NoneType", Value.type "bool", false, rfl, ClsV.ty _, TyX.base TyOf.non, kt_NoneType_bool, ?_⟩ | refine ⟨_, _, Value.type "list", Value.type "bool", false, rfl, ClsV.ty _, tyx_L (by walk_at "sq"), kt_list_bool, ?_⟩ | refine ⟨_, _, Value.type "tuple", Value.type "bool", false, rfl, ClsV.ty _, tyx_T (by walk_at "sq"), kt_tuple_bool, ?_⟩ | refine ⟨_, _, Value.type "int", Value.type "int", true, rfl, ClsV.ty _, TyX.base (TyOf.int _), kt_int_int, ?_⟩ | refine ⟨_, _, Value.type "bool", Value.type "int", true, rfl, ClsV.ty _, TyX.base (TyOf.bl _), kt_bool_int, ?_⟩ | refine ⟨_, _, Value.type "str", Value.type "int", false, rfl, ClsV.ty _, TyX.base (TyOf.str _), kt_str_int, ?_⟩ | refine ⟨_, _, Value.type "NoneType", Value.type "int", false, rfl, ClsV.ty _, TyX.base TyOf.non, kt_NoneType_int, ?_⟩ | refine ⟨_, _, Value.type "list", Value.type "int", false, rfl, ClsV.ty _, tyx_L (by walk_at "sq"), kt_list_int, ?_⟩ | refine ⟨_, _, Value.type "tuple", Value.type "int", false, rfl, ClsV.ty _, tyx_T (by walk_at "sq"), kt_tuple_int, ?_⟩ | refine ⟨_, _, Value.type "int", Value.type "str", false, rfl, ClsV.ty _, TyX.base (TyOf.int _), kt_int_str, ?_⟩ | refine ⟨_, _, Value.type "bool", Value.type "str", false, rfl, ClsV.ty _, TyX.base (TyOf.bl _), kt_bool_str, ?_⟩ | refine ⟨_, _, Value.type "str", Value.type "str", true, rfl, ClsV.ty _, TyX.base (TyOf.str _), kt_str_str, ?_⟩ | refine ⟨_, _, Value.type "NoneType", Value.type "str", false, rfl, ClsV.ty _, TyX.base TyOf.non, kt_NoneType_str, ?_⟩ | refine ⟨_, _, Value.type "list", Value.type "str", false, rfl, ClsV.ty _, tyx_L (by walk_at "sq"), kt_list_str, ?_⟩ | refine ⟨_, _, Value.type "tuple", Value.type "str", false, rfl, ClsV.ty _, tyx_T (by walk_at "sq"), kt_tuple_str, ?_⟩)
local macro_rules | `(tactic| walk_at "go1") => `(tactic| first
  | (refine ⟨_, rfl, ?_⟩)
  | (refine ⟨_, _, rfl, rfl, ?_⟩)
  | (refine ⟨_, _, _, _, rfl, rfl, SqL.of (by walk_at "hp"), rfl, ?_⟩)
  | (refine Or.inl ⟨_, rfl, ?_⟩)
  | (refine ⟨rfl, ?_⟩)
  | (refine ⟨_, _, rfl, .inl (SqL.of (by walk_at "hp")), ?_⟩)
  | (refine ⟨_, _, rfl, Or.inl (by assumption), ?_⟩)
  | (refine ⟨_, _, rfl, Or.inr (by assumption), ?_⟩)
  | (refine ⟨(by walk_at "ok"), ?_⟩)
  | (refine ⟨_, _, _, _, rfl, rfl, (by walk_at "hp"), rfl, ?_⟩))
local macro_rules | `(tactic| walk_at "go") => `(tactic| repeat (walk_at "go1"))
local macro_rules | `(tactic| walk_at "gt") => `(tactic| repeat (first | walk_at "go1" | walk_at "ty"))

section
variable {P : Program} {w : World} {K : PySem.W.Frag} {mg : Str → Option Value} {base : Heap}
theorem steps_gt : ∀ e ∈ steps ++ steps2, dn e < up e := by decide
theorem gt_add {x y : List Int} (hl : x.length = y.length) (hx : dn x < up x) (hy : dn y < up y) : dn (addE x y) < up (addE x y) := by
  have h1 := up_mul x y hl
  have h2 := dn_mul x y hl
  have h : dn x * dn y < up x * up y := Nat.mul_lt_mul'' hx hy
  rw [h1, h2] at h
  exact Nat.lt_of_mul_lt_mul_left h
def spStep2 (K : PySem.W.Frag) (b : Nat) : Sp := fun vs H Q _ => ∃ (B : Bg), vs = [.ref B.b] ∧ Bag B H ∧ ∀ t e H', Bag B H' → Kb B.b H H' → TAt K H' t e → Sm b e → dn e < up e → Q (.ref t) H'
theorem ok_l_step2 (T : Tx K mg) : FnOk P w K mg base CX0 3 T.f_l_step T.d_l_step ["_law_bag_here"] (spStep2 K 25) := by
  have G_l_of := ok_of (P := P) (w := w) (base := base) T
  refine T.F_l_step.ok sc_l_step (fun vs H Q E h => ?_) (fun cdv A outer s H vs Q E hr h => ?_)
  · obtain ⟨B, rfl, _⟩ := h
    rfl
  obtain ⟨B, rfl, hB, q⟩ := h
  have nd := sc_l_step.nd
  refine ⟨_, (pss_cons (ps_set (i := 1) nd rfl (Or.inl rfl) (pe_lst (pa_cons (pe_tup (pa_cons pe_int (pa_cons pe_int pa_nil))) (pa_cons (pe_tup (pa_cons pe_int (pa_cons pe_int pa_nil))) (pa_cons (pe_tup (pa_cons pe_int (pa_cons pe_int pa_nil))) (pa_cons (pe_tup (pa_cons pe_int (pa_cons pe_int pa_nil))) (pa_cons (pe_tup (pa_cons pe_int (pa_cons pe_int pa_nil))) (pa_cons (pe_tup (pa_cons pe_int (pa_cons pe_int pa_nil))) (pa_cons (pe_tup (pa_cons pe_int (pa_cons pe_int pa_nil))) (pa_cons (pe_tup (pa_cons pe_int (pa_cons pe_int pa_nil))) (pa_cons (pe_tup (pa_cons pe_int (pa_cons pe_int pa_nil))) (pa_cons (pe_tup (pa_cons pe_int (pa_cons pe_int pa_nil))) (pa_cons (pe_tup (pa_cons pe_int (pa_cons pe_int pa_nil))) pa_nil)))))))))))))
    (pss_one (ps_ret (pe_call G_l_of hr (by rfl) T.m_l_of T.F_l_of.kp T.b_l_of .nil pass0 (pa_cons (pv 0) (pa_cons (pe_op op_cat (pv 1) (pe_lst (pa_cons (pe_tup (pa_cons pe_int (pa_cons pe_int pa_nil))) (pa_cons (pe_tup (pa_cons pe_int (pa_cons pe_int pa_nil))) (pa_cons (pe_tup (pa_cons pe_int (pa_cons pe_int pa_nil))) (pa_cons (pe_tup (pa_cons pe_int (pa_cons pe_int pa_nil))) (pa_cons (pe_tup (pa_cons pe_int (pa_cons pe_int pa_nil))) pa_nil))))))) pa_nil)))))), ?_⟩
  refine tas_set (K := K) (es := steps) ?_ (by decide) fun ps d H1 s1 hps hd => ?_
  · repeat (first | exact ets_nil | refine ets_cons (by decide) (by decide) rfl ?_)
  refine of_tas (K := K) (B := B) (es := steps) (fs := steps2) rfl rfl hd hps (hB.same s1) ?_ (by decide) (by decide) fun t e H' hB' kb' ht he => ?_
  · repeat (first | exact ets_nil | refine ets_cons (by decide) (by decide) rfl ?_)
  exact q t e H' hB' ((Kb.same s1).trans kb') ht (steps_sm e he) (steps_gt e he)
theorem ok_l_length2 (T : Tx K mg) : FnOk P w K mg base CX0 4 T.f_l_length T.d_l_length ["_law_bag_here"] (spStep2 K 625) := by
  have G_l_step := ok_l_step2 (P := P) (w := w) (base := base) T
  have G_l_draw := ok_draw (P := P) (w := w) (base := base) T
  have G_l_mul := ok_l_mul (P := P) (w := w) (base := base) T
  refine T.F_l_length.ok sc_l_length (fun vs H Q E h => ?_) (fun cdv A outer s H vs Q E hr h => ?_)
  · obtain ⟨B, rfl, _⟩ := h
    rfl
  obtain ⟨B, rfl, hB, q⟩ := h
  have nd := sc_l_length.nd
  refine ⟨_, (pss_cons (ps_set (i := 1) nd rfl (Or.inl rfl) (pe_call G_l_step hr (by rfl) T.m_l_step T.F_l_step.kp T.b_l_step .nil pass0 (pa_cons (pv 0) pa_nil)))
    (pss_one (ps_ret (pe_ifExp (pt_cmpR op_eq (pe_call G_l_draw (hr.mono (by decide)) (by rfl) T.m_l_draw T.F_l_draw.kp T.b_l_draw .nil pass0 (pa_cons (pv 0) (pa_cons pe_int pa_nil))) pe_int (nomark _)) (pe_call G_l_mul hr (by rfl) T.m_l_mul T.F_l_mul.kp T.b_l_mul .nil pass0 (pa_cons (pv 1) (pa_cons (pe_call G_l_step hr (by rfl) T.m_l_step T.F_l_step.kp T.b_l_step .nil pass0 (pa_cons (pv 0) pa_nil)) pa_nil))) (pv 1))))), ?_⟩
  refine ⟨_, rfl, B, rfl, hB, fun t e H1 hB1 kb1 ht he hg => ?_⟩
  refine ⟨_, rfl, B, 3, rfl, by decide, by decide, hB1, fun d H2 d0 d1 hB2 kb2 => ?_⟩
  refine ⟨rfl, _, rfl, ?_⟩
  have ht2 := ht.kb hB1 kb2
  have f25 : (25 : Nat) < 2 ^ 4000 := Nat.lt_trans (by decide : 25 < 2 ^ 5) (Nat.pow_lt_pow_right (by decide) (by decide))
  refine ite2 (fun c => ?_) (fun c => ?_)
  · refine ⟨_, rfl, _, rfl, B, rfl, hB2, fun t' e' H3 hB3 kb3 ht' he' hg' => ?_⟩
    refine ⟨t, t', e, e', rfl, ht2.kb hB2 kb3, ht', he.fit f25, he'.fit f25, fun r H4 s4 hr' => ?_⟩
    have hl : e.length = e'.length := by rw [ht.len, ht'.len]
    exact q r _ H4 (hB3.same s4) (((kb1.trans kb2).trans kb3).trans (Kb.same s4)) hr' (sm_add hl he he') (gt_add hl hg hg')
  · exact ⟨_, rfl, q t e H2 hB2 (kb1.trans kb2) ht2 ⟨Nat.le_trans he.1 (by decide), Nat.le_trans he.2 (by decide)⟩ hg⟩
end
end TL
namespace TL
open PySem L2

/-! ### steps of a reading -/
local macro_rules | `(tactic| walk_at "hp") => `(tactic| first | assumption | exact upd_same | (refine (upd_ne (by first | assumption | (exact Ne.symm (by assumption)))).trans ?_; walk_at "hp"))
local macro_rules | `(tactic| walk_at "ok") => `(tactic| first | (exact Or.inr ⟨by decide, by decide⟩) | (exact ⟨by decide, by decide⟩) | (exact ⟨by decide, by decide, by decide⟩) | (show _ ≠ _; omega) | (show _ ≠ _; decide) | (exact Or.inl ⟨by omega, by omega⟩) | decide)
local macro_rules | `(tactic| walk_at "sq") => `(tactic| first | assumption | exact SqL.of (by walk_at "hp") | exact SqT.of (by walk_at "hp"))
local macro_rules | `(tactic| walk_at "ty") => `(tactic| first | refine ⟨_, _, Value.type "int", Value.type "list", false, rfl, ClsV.ty _, TyX.base (TyOf.int _), kt_int_list, ?_⟩ | refine ⟨_, _, Value.type "bool", Value.type "list", false, rfl, ClsV.ty _, TyX.base (TyOf.bl _), kt_bool_list, ?_⟩ | refine ⟨_, _, Value.type "str", Value.type "list", false, rfl, ClsV.ty _, TyX.base (TyOf.str _), kt_str_list, ?_⟩ | refine ⟨_, _, Value.type "NoneType", Value.type "list", false, rfl, ClsV.ty _, TyX.base TyOf.non, kt_NoneType_list, ?_⟩ | refine ⟨_, _, Value.type "list", Value.type "list", true, rfl, ClsV.ty _, tyx_L (by walk_at "sq"), kt_list_list, ?_⟩ | refine ⟨_, _, Value.type "tuple", Value.type "list", false, rfl, ClsV.ty _, tyx_T (by walk_at "sq"), kt_tuple_list, ?_⟩ | refine ⟨_, _, Value.type "int", Value.type "tuple", false, rfl, ClsV.ty _, TyX.base (TyOf.int _), kt_int_tuple, ?_⟩ | refine ⟨_, _, Value.type "bool", Value.type "tuple", false, rfl, ClsV.ty _, TyX.base (TyOf.bl _), kt_bool_tuple, ?_⟩ | refine ⟨_, _, Value.type "str", Value.type "tuple", false, rfl, ClsV.ty _, TyX.base (TyOf.str _), kt_str_tuple, ?_⟩ | refine ⟨_, _, Value.type "NoneType", Value.type "tuple", false, rfl, ClsV.ty _, TyX.base TyOf.non, kt_NoneType_tuple, ?_⟩ | refine ⟨_, _, Value.type "list", Value.type "tuple", false, rfl, ClsV.ty _, tyx_L (by walk_at "sq"), kt_list_tuple, ?_⟩ | refine ⟨_, _, Value.type "tuple", Value.type "tuple", true, rfl, ClsV.ty _, tyx_T (by walk_at "sq"), kt_tuple_tuple, ?_⟩ | refine ⟨_, _, Value.type "int", Value.type "bool", false, rfl, ClsV.ty _, TyX.base (TyOf.int _), kt_int_bool, ?_⟩ | refine ⟨_, _, Value.type "bool", Value.type "bool", true, rfl, ClsV.ty _, TyX.base (TyOf.bl _), kt_bool_bool, ?_⟩ | refine ⟨_, _, Value.type "str", Value.type "bool", false, rfl, ClsV.ty _, TyX.base (TyOf.str _), kt_str_bool, ?_⟩ | refine ⟨_, _, Value.type "NoneType", Value.type "bool", false, rfl, ClsV.ty _, TyX.base TyOf.non, kt_NoneType_bool, ?_⟩ | refine ⟨_, _, Value.type "list", Value.type "bool", false, rfl, ClsV.ty _, tyx_L (by walk_at "sq"), kt_list_bool, ?_⟩ | refine ⟨_, _, Value.type "tuple", Value.type "bool", false, rfl, ClsV.ty _, tyx_T (by walk_at "sq"), kt_tuple_bool, ?_⟩ | refine ⟨_, _, Value.type "int", Value.type "int", true, rfl, ClsV.ty _, TyX.base (TyOf.int _), kt_int_int, ?_⟩ | refine ⟨_, _, Value.type "bool", Value.type "int", true, rfl, ClsV.ty _, TyX.base (TyOf.bl _), kt_bool_int, ?_⟩ | refine ⟨_, _, Value.type "str", Value.type "int", false, rfl, ClsV.ty _, TyX.base (TyOf.str _), kt_str_int, ?_⟩ | refine ⟨_, _, Value.type "NoneType", Value.type "int", false, rfl, ClsV.ty _, TyX.base TyOf.non, kt_NoneType_int, ?_⟩ | refine ⟨_, _, Value.type "list", Value.type "int", false, rfl, ClsV.ty _, tyx_L (by walk_at "sq"), kt_list_int, ?_⟩ | refine ⟨_, _, Value.type "tuple", Value.type "int", false, rfl, ClsV.ty _, tyx_T (by walk_at "sq"), kt_tuple_int, ?_⟩ | refine ⟨_, _, Value.type "int", Value.type "str", false, rfl, ClsV.ty _, TyX.base (TyOf.int _), kt_int_str, ?_⟩ | refine ⟨_, _, Value.type "bool", Value.type "str", false, rfl, ClsV.ty _, TyX.base (TyOf.bl _), kt_bool_str, ?_⟩ | refine ⟨_, _, Value.type "str", Value.type "str", true, rfl, ClsV.ty _, TyX.base (TyOf.str _), kt_str_str, ?_⟩ | refine ⟨_, _, Value.type "NoneType", Value.type "str", false, rfl, ClsV.ty _, TyX.base TyOf.non, kt_NoneType_str, ?_⟩ | refine ⟨_, _, Value.type "list", Value.type "str", false, rfl, ClsV.ty _, tyx_L (by walk_at "sq"), kt_list_str, ?_⟩ | refine ⟨_, _, Value.type "tuple", Value.type "str", false, rfl, ClsV.ty _, tyx_T (by walk_at "sq"), kt_tuple_str, ?_⟩)
local macro_rules | `(tactic| walk_at "go1") => `(tactic| first
  | (refine ⟨_, rfl, ?_⟩)
  | (refine ⟨_, _, rfl, rfl, ?_⟩)
  | (refine ⟨_, _, _, _, rfl, rfl, SqL.of (by walk_at "hp"), rfl, ?_⟩)
  | (refine Or.inl ⟨_, rfl, ?_⟩)
  | (refine ⟨rfl, ?_⟩)
  | (refine ⟨_, _, rfl, .inl (SqL.of (by walk_at "hp")), ?_⟩)
  | (refine ⟨_, _, rfl, Or.inl (by assumption), ?_⟩)
  | (refine ⟨_, _, rfl, Or.inr (by assumption), ?_⟩)
  | (refine ⟨(by walk_at "ok"), ?_⟩)
  | (refine ⟨_, _, _, _, rfl, rfl, (by walk_at "hp"), rfl, ?_⟩))
local macro_rules | `(tactic| walk_at "go") => `(tactic| repeat (walk_at "go1"))
local macro_rules | `(tactic| walk_at "gt") => `(tactic| repeat (first | walk_at "go1" | walk_at "ty"))

section
variable {P : Program} {w : World} {K : PySem.W.Frag} {mg : Str → Option Value} {base : Heap}
-- [0=_law_bag_here, 1=_law_x, 2=_law_low_here, 3=_law_span, 4=_law_high, 5=_law_drawn, 6=_law_y, 7=_law_a, 8=_law_b, 9=_law_c, 10=_law_signs, 11=_law_z, 12=_law_told, 13=_law_inside]
theorem lowP_scale {k a b : Nat} (hk : 0 < k) : lowP (k * a, k * b) = lowP (a, b) := by
  simp only [lowP, Nat.gcd_mul_left]
  rw [Nat.mul_div_mul_left _ _ hk, Nat.mul_div_mul_left _ _ hk]
theorem lowP_cop {a b : Nat} (h : Nat.gcd a b = 1) : lowP (a, b) = (a, b) := by
  simp only [lowP, h, Nat.div_one]
theorem lowP_gcd {x : Fr} (h : 0 < x.1) : Nat.gcd (lowP x).1 (lowP x).2 = 1 := by
  show Nat.gcd (x.1 / Nat.gcd x.1 x.2) (x.2 / Nat.gcd x.1 x.2) = 1
  exact Nat.gcd_div_gcd_div_gcd_of_pos_left h
theorem lowP_back {y : Fr} {u d : Nat} (hu : 0 < u) (hd : 0 < d) (p1 : 0 < y.1) (h : Nat.gcd y.1 y.2 = 1) : lowP ((lowP (y.1 * u, y.2 * d)).1 * d, (lowP (y.1 * u, y.2 * d)).2 * u) = y := by
  have g0 : 0 < Nat.gcd (y.1 * u) (y.2 * d) := Nat.gcd_pos_of_pos_left _ (Nat.mul_pos p1 hu)
  have z1 : Nat.gcd (y.1 * u) (y.2 * d) * (lowP (y.1 * u, y.2 * d)).1 = y.1 * u := Nat.mul_div_cancel' (Nat.gcd_dvd_left _ _)
  have z2 : Nat.gcd (y.1 * u) (y.2 * d) * (lowP (y.1 * u, y.2 * d)).2 = y.2 * d := Nat.mul_div_cancel' (Nat.gcd_dvd_right _ _)
  rw [← lowP_scale (a := (lowP (y.1 * u, y.2 * d)).1 * d) (b := (lowP (y.1 * u, y.2 * d)).2 * u) g0, ← Nat.mul_assoc, ← Nat.mul_assoc, z1, z2]
  have e1 : y.1 * u * d = (u * d) * y.1 := by rw [Nat.mul_assoc, Nat.mul_comm]
  have e2 : y.2 * d * u = (u * d) * y.2 := by rw [Nat.mul_assoc, Nat.mul_comm d u, Nat.mul_comm]
  rw [e1, e2, lowP_scale (Nat.mul_pos hu hd), lowP_cop h]
theorem low_add {x y : List Int} (h : x.length = y.length) : lowP (up x * up y, dn x * dn y) = (up (addE x y), dn (addE x y)) := by
  rw [up_mul x y h, dn_mul x y h, lowP_scale (pp_pos _ pc_prs), lowP_cop (cop_e _)]
theorem PT.kb {B : Bg} {H H' : Hp} {t : Addr} {x : Fr} (h : PT K H t x) (hB : Bag B H) (k : Kb B.b H H') : PT K H' t x := by
  obtain ⟨i, r, s, c, hb, _⟩ := hB.ex
  exact seqT_kb hb k h
theorem bn_low {k : Nat} {x : Fr} (h : Bn k x) : Bn k (lowP x) := by
  have g : 0 < Nat.gcd x.1 x.2 := Nat.gcd_pos_of_pos_left _ h.pa
  exact ⟨Nat.lt_of_le_of_lt (Nat.div_le_self ..) h.a, Nat.lt_of_le_of_lt (Nat.div_le_self ..) h.b, Nat.div_pos (Nat.le_of_dvd h.pa (Nat.gcd_dvd_left ..)) g, Nat.div_pos (Nat.le_of_dvd h.pb (Nat.gcd_dvd_right ..)) g⟩
theorem beside_bn {x y : Fr} (h : Beside x y) (b : Bn 100 x) : Bn 200 y ∧ Nat.gcd y.1 y.2 = 1 := by
  obtain ⟨m, s, m0, m1, s0, s1, rfl⟩ := h
  have u1 : x.1 * m < 2 ^ 170 := by
    have := Nat.mul_lt_mul'' b.a m1
    rwa [← Nat.pow_add] at this
  have u2 : x.2 * m < 2 ^ 170 := by
    have := Nat.mul_lt_mul'' b.b m1
    rwa [← Nat.pow_add] at this
  have v1 : 0 < x.1 * m := Nat.mul_pos b.pa m0
  have v2 : 0 < x.2 * m := Nat.mul_pos b.pb m0
  have hb : Bn 200 (((x.1 * m * 1000 : Nat) + s : Int).toNat, x.2 * m * 1000) := by
    generalize x.1 * m = u at *
    generalize x.2 * m = v at *
    refine ⟨?_, ?_, ?_, ?_⟩
    · show ((u * 1000 : Nat) + s : Int).toNat < 2 ^ 200
      omega
    · show v * 1000 < 2 ^ 200
      omega
    · show 0 < ((u * 1000 : Nat) + s : Int).toNat
      omega
    · show 0 < v * 1000
      omega
  exact ⟨bn_low hb, lowP_gcd hb.pa⟩
theorem pt_deq {n : Nat} {H : Hp} {a b : Addr} {x : Fr} (h1 : PT K H a x) (h2 : PT K H b x) : DEq K H (n + 1) (.ref a) (.ref b) := .tup h1 h2 (by show 2 ≤ 100000; decide) rfl fun i u v hu hv => by
  match i, hu, hv with
  | 0, hu, hv => cases hu; cases hv; exact .int _
  | 1, hu, hv => cases hu; cases hv; exact .int _
theorem bl_deq {H : Hp} {a b : Addr} {p1 p2 p3 q1 q2 q3 : Addr} {x y z : Fr} (h1 : SqL K H a [.ref p1, .ref p2, .ref p3]) (h2 : SqL K H b [.ref q1, .ref q2, .ref q3]) (a1 : PT K H p1 x) (a2 : PT K H p2 y) (a3 : PT K H p3 z) (b1 : PT K H q1 x) (b2 : PT K H q2 y) (b3 : PT K H q3 z) : DEq K H 2 (.ref a) (.ref b) := .lst h1 h2 (by show 3 ≤ 100000; decide) rfl fun i u v hu hv => by
  match i, hu, hv with
  | 0, hu, hv => cases hu; cases hv; exact pt_deq a1 b1
  | 1, hu, hv => cases hu; cases hv; exact pt_deq a2 b2
  | 2, hu, hv => cases hu; cases hv; exact pt_deq a3 b3
theorem sgn {y z : Fr} : (if decide (z.1 * y.2 < y.1 * z.2) = true then (1 : Int) else 0) - (if decide (y.1 * z.2 < z.1 * y.2) = true then (1 : Int) else 0) = cmpP y z := by
  unfold cmpP
  rw [Nat.mul_comm z.1 y.2]
  by_cases h : y.1 * z.2 < y.2 * z.1
  · have h' : ¬ y.2 * z.1 < y.1 * z.2 := by omega
    rw [if_pos h, decide_eq_true h, decide_eq_false h']
    rfl
  · rw [if_neg h, decide_eq_false h]
    by_cases g : y.1 * z.2 > y.2 * z.1
    · rw [if_pos g, decide_eq_true g]
      rfl
    · rw [if_neg g, decide_eq_false g]
      rfl
theorem cmp_ge {y w : Fr} : decide (0 ≤ cmpP y w) = !decide (y.1 * w.2 < w.1 * y.2) := by
  unfold cmpP
  rw [Nat.mul_comm w.1 y.2]
  by_cases h : y.1 * w.2 < y.2 * w.1
  · rw [if_pos h, decide_eq_true h]
    rfl
  · rw [if_neg h, decide_eq_false h]
    by_cases g : y.1 * w.2 > y.2 * w.1
    · rw [if_pos g]
      rfl
    · rw [if_neg g]
      rfl
theorem cmp_lt {y w : Fr} : decide (cmpP y w < 0) = decide (y.1 * w.2 < w.1 * y.2) := by
  unfold cmpP
  rw [Nat.mul_comm w.1 y.2]
  by_cases h : y.1 * w.2 < y.2 * w.1
  · rw [if_pos h, decide_eq_true h]
    rfl
  · rw [if_neg h, decide_eq_false h]
    by_cases g : y.1 * w.2 > y.2 * w.1
    · rw [if_pos g]
      rfl
    · rw [if_neg g]
      rfl
theorem grow {x s : List Int} (hl : x.length = s.length) (h : dn s < up s) : up x * dn (addE x s) < up (addE x s) * dn x := by
  have h1 := up_mul x s hl
  have h2 := dn_mul x s hl
  have hp : 0 < pp prs (both x s) := pp_pos _ pc_prs
  have h3 : up x * dn x * dn s < up x * dn x * up s := Nat.mul_lt_mul_of_pos_left h (Nat.mul_pos (up_pos x) (dn_pos x))
  have e1 : pp prs (both x s) * (up x * dn (addE x s)) = up x * dn x * dn s := by
    rw [Nat.mul_left_comm, ← h2, Nat.mul_assoc]
  have e2 : pp prs (both x s) * (up (addE x s) * dn x) = up x * dn x * up s := by
    rw [← Nat.mul_assoc, ← h1, Nat.mul_right_comm]
  rw [← e1, ← e2] at h3
  exact Nat.lt_of_mul_lt_mul_left h3
theorem win_in {x s : List Int} (hl : x.length = s.length) (h : dn s < up s) : (decide (0 ≤ cmpP (up x, dn x) (up x, dn x)) && decide (cmpP (up x, dn x) (up (addE x s), dn (addE x s)) < 0)) = true := by
  rw [cmp_ge, cmp_lt]
  dsimp only
  rw [decide_eq_false (Nat.lt_irrefl _), decide_eq_true (grow hl h)]
  rfl
theorem win_out {w x : Fr} : (decide (0 ≤ cmpP w x) && decide (cmpP w w < 0)) = false := by
  rw [cmp_lt, decide_eq_false (Nat.lt_irrefl _), Bool.and_false]
theorem bls_deq {H : Hp} {a b : Addr} {bs : List V} (h1 : SqL K H a bs) (h2 : SqL K H b bs) (hz : bs.length ≤ 1000) (hb : ∀ v ∈ bs, ∃ c, v = .bl c) : DEq K H 2 (.ref a) (.ref b) := .lst h1 h2 (by omega) rfl fun i u v hu hv => by
  rw [hu] at hv
  cases hv
  obtain ⟨c, rfl⟩ := hb u (List.mem_of_getElem? hu)
  exact .bl c
/-- a fraction in lowest terms, of no great numbers -/
def Fine (y : Fr) : Prop := Bn 200 y ∧ Nat.gcd y.1 y.2 = 1
def spToneSo (K : PySem.W.Frag) : Sp := fun vs H Q _ => ∃ (B : Bg), vs = [.ref B.b] ∧ Bag B H ∧ ∀ H', Bag B H' → Kb B.b H H' → Q (.bl true) H'
theorem ok_l_tone_so (T : Tx K mg) : FnOk P w K mg base CX0 9 T.f_l_tone_so T.d_l_tone_so ["_law_bag_here"] (spToneSo K) := by
  have G_l_of := ok_of (P := P) (w := w) (base := base) T
  have G_l_draw := ok_draw (P := P) (w := w) (base := base) T
  have G_l_length := ok_l_length2 (P := P) (w := w) (base := base) T
  have G_l_low := ok_l_lowG (P := P) (w := w) (base := base) T
  have G_l_mul := ok_l_mulG (P := P) (w := w) (base := base) T
  have G_l_less := ok_l_lessG (P := P) (w := w) (base := base) T
  have G_l_beside := ok_l_beside (P := P) (w := w) (base := base) T
  have G_l_ratio := ok_l_ratio (P := P) (w := w) (base := base) T
  have G_l_same := ok_same (P := P) (w := w) (base := base) T 4
  have G_led := ok_led (P := P) (w := w) (base := base) T
  have G_compared := ok_compared (P := P) (w := w) (base := base) T
  have G_within := ok_within (P := P) (w := w) (base := base) T
  have G_Ratio_init := ok_rinit (P := P) (w := w) (base := base) T
  have G_Ratio_mul := ok_rmul (P := P) (w := w) (base := base) T
  refine T.F_l_tone_so.ok sc_l_tone_so (fun vs H Q E h => ?_) (fun cdv A outer s H vs Q E hr h => ?_)
  · obtain ⟨B, rfl, _⟩ := h
    rfl
  obtain ⟨B, rfl, hB, q⟩ := h
  have nd := sc_l_tone_so.nd
  refine ⟨_, (pss_cons (ps_par (i := 1) (j := 2) rfl nd rfl rfl (by decide) rfl rfl (pa_cons (pe_call G_l_length (hr.mono (by decide)) (by rfl) T.m_l_length T.F_l_length.kp T.b_l_length .nil pass0 (pa_cons (pv 0) pa_nil)) (pa_cons (pe_call G_l_length (hr.mono (by decide)) (by rfl) T.m_l_length T.F_l_length.kp T.b_l_length .nil pass0 (pa_cons (pv 0) pa_nil)) pa_nil)) rfl)
    (pss_cut (ps_if (pt_cmpR op_eq (pe_call G_l_draw (hr.mono (by decide)) (by rfl) T.m_l_draw T.F_l_draw.kp T.b_l_draw .nil pass0 (pa_cons (pv 0) (pa_cons pe_int pa_nil))) pe_int (nomark _)) (pss_one (ps_set (i := 2) nd rfl (Or.inl rfl) (pe_tup (pa_cons (pe_ix (show IxR _ (rIxT K) from ix_tup) (pv 2) pe_int (fun _ _ => rfl)) (pa_cons (pe_ix (show IxR _ (rIxT K) from ix_tup) (pv 2) pe_int (fun _ _ => rfl)) pa_nil))))) pss_nil)
    (pss_cons (ps_set (i := 3) nd rfl (Or.inl rfl) (pe_call G_l_length (hr.mono (by decide)) (by rfl) T.m_l_length T.F_l_length.kp T.b_l_length .nil pass0 (pa_cons (pv 0) pa_nil)))
    (pss_cons (ps_set (i := 4) nd rfl (Or.inl rfl) (pe_call G_l_mul (hr.mono (by decide)) (by rfl) T.m_l_mul T.F_l_mul.kp T.b_l_mul .nil pass0 (pa_cons (pv 2) (pa_cons (pv 3) pa_nil))))
    (pss_cons (ps_set (i := 5) nd rfl (Or.inl rfl) (pe_call G_l_low (hr.mono (by decide)) (by rfl) T.m_l_low T.F_l_low.kp T.b_l_low .nil pass0 (pa_cons (pe_op op_add pe_int (pe_call G_l_draw (hr.mono (by decide)) (by rfl) T.m_l_draw T.F_l_draw.kp T.b_l_draw .nil pass0 (pa_cons (pv 0) (pa_cons pe_int pa_nil)))) (pa_cons (pe_op op_add pe_int (pe_call G_l_draw (hr.mono (by decide)) (by rfl) T.m_l_draw T.F_l_draw.kp T.b_l_draw .nil pass0 (pa_cons (pv 0) (pa_cons pe_int pa_nil)))) pa_nil))))
    (pss_cons (ps_set (i := 6) nd rfl (Or.inl rfl) (pe_call G_l_of (hr.mono (by decide)) (by rfl) T.m_l_of T.F_l_of.kp T.b_l_of .nil pass0 (pa_cons (pv 0) (pa_cons (pe_lst (pa_cons (pv 2) (pa_cons (pv 4) (pa_cons (pe_call G_l_beside (hr.mono (by decide)) (by rfl) T.m_l_beside T.F_l_beside.kp T.b_l_beside .nil pass0 (pa_cons (pv 0) (pa_cons (pv 2) pa_nil))) (pa_cons (pe_call G_l_beside (hr.mono (by decide)) (by rfl) T.m_l_beside T.F_l_beside.kp T.b_l_beside .nil pass0 (pa_cons (pv 0) (pa_cons (pv 4) pa_nil))) (pa_cons (pv 5) (pa_cons (pe_call G_l_beside (hr.mono (by decide)) (by rfl) T.m_l_beside T.F_l_beside.kp T.b_l_beside .nil pass0 (pa_cons (pv 0) (pa_cons (pv 1) pa_nil))) pa_nil))))))) pa_nil))))
    (pss_cons (ps_par3 (i := 7) (j := 8) (l := 9) rfl nd rfl rfl rfl (by decide) (by decide) (by decide) rfl rfl rfl (pa_cons (pe_call G_l_ratio (hr.mono (by decide)) (by rfl) T.m_l_ratio T.F_l_ratio.kp T.b_l_ratio .nil pass0 (pa_cons (pv 0) (pa_cons (pv 1) pa_nil))) (pa_cons (pe_call G_l_ratio (hr.mono (by decide)) (by rfl) T.m_l_ratio T.F_l_ratio.kp T.b_l_ratio .nil pass0 (pa_cons (pv 0) (pa_cons (pv 2) pa_nil))) (pa_cons (pe_call G_l_ratio (hr.mono (by decide)) (by rfl) T.m_l_ratio T.F_l_ratio.kp T.b_l_ratio .nil pass0 (pa_cons (pv 0) (pa_cons (pv 3) pa_nil))) pa_nil))) rfl)
    (pss_cons (ps_if (pt_not (pt_val (pe_call G_l_same (hr.mono (by decide)) (by rfl) T.m_l_same T.F_l_same.kp T.b_l_same .nil pass0 (pa_cons (pe_lst (pa_cons (pe_call G_led (hr.mono (by decide)) (by rfl) T.m_led T.F_led.kp T.b_led .nil pass0 (pa_cons (pv 6) (pa_cons (pv 7) pa_nil))) (pa_cons (pe_callK0 G_led (hr.mono (by decide)) (by rfl) T.m_led T.F_led.kp T.kb_led pass0 (pk_cons (pv 6) (pk_cons (pv 8) pk_nil))) (pa_cons (pe_call G_led (hr.mono (by decide)) (by rfl) T.m_led T.F_led.kp T.b_led .nil pass0 (pa_cons (pe_call G_led (hr.mono (by decide)) (by rfl) T.m_led T.F_led.kp T.b_led .nil pass0 (pa_cons (pv 6) (pa_cons (pv 7) pa_nil))) (pa_cons (pe_make T.k_Ratio G_Ratio_init (hr.mono (by decide)) (by rfl) T.g_Ratio T.b_Ratio_init .nil pass0 (pa_cons (pe_ix (show IxR _ (rIxT K) from ix_tup) (pv 1) pe_int (fun _ _ => rfl)) (pa_cons (pe_ix (show IxR _ (rIxT K) from ix_tup) (pv 1) pe_int (fun _ _ => rfl)) pa_nil))) pa_nil))) pa_nil)))) (pa_cons (pe_lst (pa_cons (pe_call G_l_mul (hr.mono (by decide)) (by rfl) T.m_l_mul T.F_l_mul.kp T.b_l_mul .nil pass0 (pa_cons (pv 6) (pa_cons (pv 1) pa_nil))) (pa_cons (pe_call G_l_mul (hr.mono (by decide)) (by rfl) T.m_l_mul T.F_l_mul.kp T.b_l_mul .nil pass0 (pa_cons (pv 6) (pa_cons (pv 2) pa_nil))) (pa_cons (pv 6) pa_nil)))) pa_nil))))) (pss_one (ps_ret pe_bl)) pss_nil)
    (pss_cons (ps_set (i := 10) nd rfl (Or.inl rfl) (pe_lst pa_nil))
    (pss_cons (ps_for PassesOwn.never rfl (show PI _ _ _ (iList K _) from pi_list (pe_lst (pa_cons (pv 1) (pa_cons (pv 2) (pa_cons (pv 4) (pa_cons (pv 6) pa_nil)))))) (pg_name (i := 11) nd rfl (Or.inl rfl)) (pss_one (ps_expr (pe_bm PySem.F.plainAttrs_list PySem.F.slot_list_append PySem.F.type_list_append mt_append (pv 10) (pa_cons (pe_op op_sub (pe_callTy call_int1 (by rfl) T.z_int (by decide +kernel) (pa_cons (pe_call G_l_less (hr.mono (by decide)) (by rfl) T.m_l_less T.F_l_less.kp T.b_l_less .nil pass0 (pa_cons (pv 11) (pa_cons (pv 6) pa_nil))) pa_nil)) (pe_callTy call_int1 (by rfl) T.z_int (by decide +kernel) (pa_cons (pe_call G_l_less (hr.mono (by decide)) (by rfl) T.m_l_less T.F_l_less.kp T.b_l_less .nil pass0 (pa_cons (pv 6) (pa_cons (pv 11) pa_nil))) pa_nil))) pa_nil)))))
    (pss_cons (ps_set (i := 12) nd rfl (Or.inl rfl) (pe_lst (pa_cons (pe_call G_compared (hr.mono (by decide)) (by rfl) T.m_compared T.F_compared.kp T.b_compared .nil pass0 (pa_cons (pv 6) (pa_cons (pv 7) pa_nil))) (pa_cons (pe_callK0 G_compared (hr.mono (by decide)) (by rfl) T.m_compared T.F_compared.kp T.kb_compared pass0 (pk_cons (pv 8) (pk_cons (pv 6) pk_nil))) (pa_cons (pe_call G_compared (hr.mono (by decide)) (by rfl) T.m_compared T.F_compared.kp T.b_compared .nil pass0 (pa_cons (pv 6) (pa_cons (pe_op (op_ow (op := .Mult) (o_rmul T) G_Ratio_mul (hr.mono (by decide)) T.b_Ratio_mul pass0) (pv 8) (pv 9)) pa_nil))) pa_nil)))))
    (pss_cut (ps_set (i := 13) nd rfl (Or.inl rfl) (pe_and (pe_not (pe_call G_l_less (hr.mono (by decide)) (by rfl) T.m_l_less T.F_l_less.kp T.b_l_less .nil pass0 (pa_cons (pv 6) (pa_cons (pv 2) pa_nil)))) (pe_one (pe_call G_l_less (hr.mono (by decide)) (by rfl) T.m_l_less T.F_l_less.kp T.b_l_less .nil pass0 (pa_cons (pv 6) (pa_cons (pv 4) pa_nil))))))
    (pss_cons (ps_if (PW.pt (pw_or (pt_not (pt_val (pe_call G_l_same (hr.mono (by decide)) (by rfl) T.m_l_same T.F_l_same.kp T.b_l_same .nil pass0 (pa_cons (pv 12) (pa_cons (pe_slice (show SlR _ (rSlL K) from sl_list) (pv 10) po_none (po_some pe_int)) pa_nil))))) (pw_or (pt_cmpR op_ne (pe_ix (show IxR _ (rIxL K) from ix_list) (pv 10) pe_int (fun _ _ => rfl)) pe_int (nomark _)) (pw_or1 (pt_not (pt_val (pe_call G_l_same (hr.mono (by decide)) (by rfl) T.m_l_same T.F_l_same.kp T.b_l_same .nil pass0 (pa_cons (pe_call G_compared (hr.mono (by decide)) (by rfl) T.m_compared T.F_compared.kp T.b_compared .nil pass0 (pa_cons (pv 2) (pa_cons (pv 8) pa_nil))) (pa_cons pe_int pa_nil))))))))) (pss_one (ps_ret pe_bl)) pss_nil)
    (pss_cons (ps_set (i := 12) nd rfl (Or.inl rfl) (pe_lst (pa_cons (pe_call G_within hr (by rfl) T.m_within T.F_within.kp T.b_within .nil pass0 (pa_cons (pv 6) (pa_cons (pv 8) (pa_cons (pv 9) pa_nil)))) (pa_cons (pe_callK0 G_within hr (by rfl) T.m_within T.F_within.kp T.kb_within pass0 (pk_cons (pv 6) (pk_cons (pv 9) (pk_cons (pv 8) pk_nil)))) (pa_cons (pe_call G_within hr (by rfl) T.m_within T.F_within.kp T.b_within .nil pass0 (pa_cons (pv 2) (pa_cons (pv 8) (pa_cons (pv 9) pa_nil)))) (pa_cons (pe_call G_within hr (by rfl) T.m_within T.F_within.kp T.b_within .nil pass0 (pa_cons (pv 4) (pa_cons (pv 8) (pa_cons (pv 9) pa_nil)))) (pa_cons (pe_call G_within hr (by rfl) T.m_within T.F_within.kp T.b_within .nil pass0 (pa_cons (pv 4) (pa_cons (pe_op (op_ow (op := .Mult) (o_rmul T) G_Ratio_mul (hr.mono (by decide)) T.b_Ratio_mul pass0) (pv 8) (pv 9)) (pa_cons (pv 7) pa_nil)))) pa_nil)))))))
    (pss_one (ps_ret (pe_call G_l_same (hr.mono (by decide)) (by rfl) T.m_l_same T.F_l_same.kp T.b_l_same .nil pass0 (pa_cons (pv 12) (pa_cons (pe_lst (pa_cons (pv 13) (pa_cons (pv 13) (pa_cons pe_bl (pa_cons pe_bl (pa_cons pe_bl pa_nil)))))) pa_nil))))))))))))))))))), ?_⟩
  refine ⟨_, rfl, B, rfl, hB, fun tx ex H1 hB1 kb1 htx hex hgx => ⟨_, rfl, B, rfl, hB1, fun tl el H2 hB2 kb2 htl hel hgl => ⟨_, _, rfl, ?_⟩⟩⟩
  have htx2 := htx.kb hB1 kb2
  refine ⟨fun σ H' => ∃ p e, σ = [some (.ref B.b), some (.ref tx), some (.ref p), none, none, none, none, none, none, none, none, none, none, none] ∧ Bag B H' ∧ Kb B.b H H' ∧ TAt K H' tx ex ∧ TAt K H' p e ∧ Sm 625 e, ?_, ?_⟩
  · refine ⟨_, rfl, B, 3, rfl, by decide, by decide, hB2, fun d H3 d0 d1 hB3 kb3 => ?_⟩
    have kA := (kb1.trans kb2).trans kb3
    have hx3 := htx2.kb hB2 kb3
    have hl3 := htl.kb hB2 kb3
    refine ⟨rfl, _, rfl, ?_⟩
    refine ite2 (fun c => ?_) (fun c => ?_)
    · refine ⟨_, rfl, _, _, _, _, rfl, rfl, hl3.ex, rfl, _, rfl, _, _, _, _, rfl, rfl, hl3.ex, rfl, (by show 2 ≤ sizeLine; decide), fun p hp => ?_⟩
      have s3 := Same.new (o := .tup [.int ((dn el : Nat) : Int), .int ((up el : Nat) : Int)]) hp
      exact ⟨p, negE el, rfl, hB3.same s3, kA.trans (Kb.same s3), hx3.same s3, ⟨SqT.of (by rw [up_neg, dn_neg]; exact upd_same), by simpa [negE] using hl3.len⟩, ⟨by rw [up_neg]; exact hel.2, by rw [dn_neg]; exact hel.1⟩⟩
    · exact ⟨tl, el, rfl, hB3, kA, hx3, hl3, hel⟩
  rintro σ H3 ⟨p, e, rfl, hB3, kA, hx3, hp3, hpe⟩
  refine ⟨_, rfl, B, rfl, hB3, fun ts es H4 hB4 kb4 hts hes hgs => ?_⟩
  have hx4 := hx3.kb hB3 kb4
  have hp4 := hp3.kb hB3 kb4
  have b10 : (625 : Nat) < 2 ^ 10 := by decide
  have bn : ∀ {e : List Int}, Sm 625 e → Bn 100 (up e, dn e) := fun h => ⟨Nat.lt_of_le_of_lt h.1 (Nat.lt_trans b10 (Nat.pow_lt_pow_right (by decide) (by decide))), Nat.lt_of_le_of_lt h.2 (Nat.lt_trans b10 (Nat.pow_lt_pow_right (by decide) (by decide))), up_pos _, dn_pos _⟩
  have bn4 : ∀ {k : Nat} {x : Fr}, k ≤ 4000 → Bn k x → Bn 4000 x := fun hk h => ⟨Nat.lt_of_lt_of_le h.a (Nat.pow_le_pow_right (by decide) hk), Nat.lt_of_lt_of_le h.b (Nat.pow_le_pow_right (by decide) hk), h.pa, h.pb⟩
  refine ⟨_, rfl, _, rfl, p, ts, (up e, dn e), (up es, dn es), rfl, hp4.ex, hts.ex, bn4 (by decide) (bn hpe), bn4 (by decide) (bn hes), fun th H5 s5 hth0 => ?_⟩
  have hl5 : e.length = es.length := by rw [hp4.len, hts.len]
  have hth : TAt K H5 th (addE e es) := ⟨by have := hth0; rw [low_add hl5] at this; exact this, by simp [addE, hp4.len, hts.len]⟩
  have hx5 := hx4.same s5
  have hp5 := hp4.same s5
  have hts5 := hts.same s5
  have hB5 := hB4.same s5
  have kB := (kA.trans kb4).trans (Kb.same s5)
  refine ⟨_, rfl, B, 200, rfl, by decide, by decide, hB5, fun d1 H6 d10 d11 hB6 kb6 => ⟨_, _, rfl, rfl, _, rfl, B, 100, rfl, by decide, by decide, hB6, fun d2 H7 d20 d21 hB7 kb7 => ⟨_, _, rfl, rfl, ?_⟩⟩⟩
  have kC := kB.trans (kb6.trans kb7)
  have hx7 := (hx5.kb hB5 kb6).kb hB6 kb7
  have hp7 := (hp5.kb hB5 kb6).kb hB6 kb7
  have hh7 := (hth.kb hB5 kb6).kb hB6 kb7
  have hs7 := (hts5.kb hB5 kb6).kb hB6 kb7
  have b200 : (201 : Nat) ≤ 2 ^ 200 := Nat.le_trans (by decide : 201 ≤ 2 ^ 8) (Nat.pow_le_pow_right (by decide) (by decide))
  have bd : Bn 200 ((1 + d1).toNat, (1 + d2).toNat) := ⟨by show (1 + d1).toNat < _; omega, by show (1 + d2).toNat < _; omega, by show 0 < (1 + d1).toNat; omega, by show 0 < (1 + d2).toNat; omega⟩
  refine ⟨((1 + d1).toNat, (1 + d2).toNat), ?_, ⟨Nat.lt_of_lt_of_le bd.a (Nat.pow_le_pow_right (by decide) (by decide)), Nat.lt_of_lt_of_le bd.b (Nat.pow_le_pow_right (by decide) (by decide)), bd.pa, bd.pb⟩, fun td H8 s8 htd => ?_⟩
  · show [V.int (1 + d1), V.int (1 + d2)] = [V.int (((1 + d1).toNat : Nat) : Int), V.int (((1 + d2).toNat : Nat) : Int)]
    rw [Int.toNat_of_nonneg (by omega), Int.toNat_of_nonneg (by omega)]
  have fd : Fine (lowP ((1 + d1).toNat, (1 + d2).toNat)) := ⟨bn_low bd, lowP_gcd bd.pa⟩
  generalize lowP ((1 + d1).toNat, (1 + d2).toNat) = yd at *
  have hx8 := hx7.same s8
  have hp8 := hp7.same s8
  have hh8 := hh7.same s8
  have hs8 := hs7.same s8
  have hB8 := hB7.same s8
  have kD := kC.trans (Kb.same s8)
  clear hx7 hp7 hh7 hs7 kC kB hx5 hp5 hth hts5 hth0 hx4 hp4 hts hx3 hp3 kA bd b200
  have shi : Sm (625 * 625) (addE e es) := sm_add hl5 hpe hes
  have b20 : (625 * 625 : Nat) < 2 ^ 20 := by decide
  have bh : Bn 100 (up (addE e es), dn (addE e es)) := ⟨Nat.lt_of_le_of_lt shi.1 (Nat.lt_trans b20 (Nat.pow_lt_pow_right (by decide) (by decide))), Nat.lt_of_le_of_lt shi.2 (Nat.lt_trans b20 (Nat.pow_lt_pow_right (by decide) (by decide))), up_pos _, dn_pos _⟩
  have b2 : ∀ {x : Fr}, Bn 100 x → Bn 200 x := fun h => ⟨Nat.lt_of_lt_of_le h.a (Nat.pow_le_pow_right (by decide) (by decide)), Nat.lt_of_lt_of_le h.b (Nat.pow_le_pow_right (by decide) (by decide)), h.pa, h.pb⟩
  have fe : ∀ {f : List Int}, Bn 100 (up f, dn f) → Fine (up f, dn f) := fun h => ⟨b2 h, cop_e _⟩
  refine ⟨_, rfl, _, rfl, _, rfl, _, rfl, _, rfl, B, p, (up e, dn e), rfl, hB8, hp8.ex, bn hpe, fun t1 y1 H9 hB9 kb9 ht1 hy1 => ?_⟩
  have hx9 := hx8.kb hB8 kb9
  have hp9 := hp8.kb hB8 kb9
  have hh9 := hh8.kb hB8 kb9
  have hs9 := hs8.kb hB8 kb9
  have hd9 := htd.kb hB8 kb9
  refine ⟨_, rfl, _, rfl, B, th, (up (addE e es), dn (addE e es)), rfl, hB9, hh9.ex, bh, fun t2 y2 H10 hB10 kb10 ht2 hy2 => ?_⟩
  have hx10 := hx9.kb hB9 kb10
  have hp10 := hp9.kb hB9 kb10
  have hh10 := hh9.kb hB9 kb10
  have hs10 := hs9.kb hB9 kb10
  have hd10 := hd9.kb hB9 kb10
  have h110 := ht1.kb hB9 kb10
  refine ⟨_, rfl, _, rfl, _, rfl, B, tx, (up ex, dn ex), rfl, hB10, hx10.ex, bn hex, fun t3 y3 H11 hB11 kb11 ht3 hy3 => ⟨(by show 6 ≤ sizeLine; decide), fun pl hpl => ?_⟩⟩
  have s11 := Same.new (o := .lst [V.ref p, V.ref th, V.ref t1, V.ref t2, V.ref td, V.ref t3]) hpl
  refine ⟨B, pl, [V.ref p, V.ref th, V.ref t1, V.ref t2, V.ref td, V.ref t3], rfl, SqL.of upd_same, hB11.nb hpl, (by show 0 < 6; decide), (by show 6 ≤ 1000; decide), hB11.same s11, fun i v H12 hv hB12 kb12 => ?_⟩
  have hp12l : e.length = 6 := hp10.len
  have hs12l : es.length = 6 := hs10.len
  have hx12l : ex.length = 6 := hx10.len
  have kE : Kb B.b H H12 := kD.trans (kb9.trans (kb10.trans (kb11.trans ((Kb.same s11).trans kb12))))
  have mv : ∀ {t : Addr} {x : Fr}, PT K H11 t x → PT K H12 t x := fun h => (h.same s11).kb (hB11.same s11) kb12
  have hx12 : TAt K H12 tx ex := ((hx10.kb hB10 kb11).same s11).kb (hB11.same s11) kb12
  have hp12 : TAt K H12 p e := ((hp10.kb hB10 kb11).same s11).kb (hB11.same s11) kb12
  have hh12 : TAt K H12 th (addE e es) := ((hh10.kb hB10 kb11).same s11).kb (hB11.same s11) kb12
  have hs12 : TAt K H12 ts es := ((hs10.kb hB10 kb11).same s11).kb (hB11.same s11) kb12
  obtain ⟨ty, y, rfl, hy12, fy⟩ : ∃ ty y, v = .ref ty ∧ PT K H12 ty y ∧ Fine y := by
    match i, hv with
    | 0, hv => exact ⟨p, (up e, dn e), (Option.some.inj hv).symm, hp12.ex, fe (bn hpe)⟩
    | 1, hv => exact ⟨th, (up (addE e es), dn (addE e es)), (Option.some.inj hv).symm, hh12.ex, fe bh⟩
    | 2, hv => exact ⟨t1, y1, (Option.some.inj hv).symm, mv (h110.kb hB10 kb11), beside_bn hy1 (bn hpe)⟩
    | 3, hv => exact ⟨t2, y2, (Option.some.inj hv).symm, mv (ht2.kb hB10 kb11), beside_bn hy2 bh⟩
    | 4, hv => exact ⟨td, yd, (Option.some.inj hv).symm, mv (hd10.kb hB10 kb11), fd⟩
    | 5, hv => exact ⟨t3, y3, (Option.some.inj hv).symm, mv ht3, beside_bn hy3 (bn hex)⟩
  clear hx10 hp10 hh10 hs10 hd10 h110 hx9 hp9 hh9 hs9 hd9 hx8 hp8 hh8 hs8 htd ht1 ht2 ht3 hy1 hy2 hy3 kD mv s11 hpl
  have fit : ∀ {f : List Int}, Bn 100 (up f, dn f) → Fit f := fun h => ⟨(bn4 (by decide) h).a, (bn4 (by decide) h).b⟩
  refine ⟨_, rfl, _, rfl, B, tx, ex, rfl, hB12, hx12, fit (bn hex), fun ra H13 hB13 kb13 hra => ?_⟩
  refine ⟨_, rfl, _, rfl, B, p, e, rfl, hB13, hp12.kb hB12 kb13, fit (bn hpe), fun rb H14 hB14 kb14 hrb => ?_⟩
  refine ⟨_, rfl, _, rfl, B, ts, es, rfl, hB14, (hs12.kb hB12 kb13).kb hB13 kb14, fit (bn hes), fun rc H15 hB15 kb15 hrc => ⟨_, _, _, rfl, ?_⟩⟩
  have kF : Kb B.b H H15 := kE.trans (kb13.trans (kb14.trans kb15))
  have hx15 := ((hx12.kb hB12 kb13).kb hB13 kb14).kb hB14 kb15
  have hp15 := ((hp12.kb hB12 kb13).kb hB13 kb14).kb hB14 kb15
  have hh15 := ((hh12.kb hB12 kb13).kb hB13 kb14).kb hB14 kb15
  have hy15 := ((hy12.kb hB12 kb13).kb hB13 kb14).kb hB14 kb15
  have hra15 := (hra.kb hB13 kb14).kb hB14 kb15
  have hrb15 := hrb.kb hB14 kb15
  replace q : ∀ H', Same H15 H' → Q (.bl true) H' := fun H' s => q H' (hB15.same s) (kF.trans (Kb.same s))
  have y4 : Bn 4000 y := bn4 (by decide) fy.1
  have yx : Bn 4000 (lowP (y.1 * up ex, y.2 * dn ex)) := bn_low ⟨by
      have := Nat.mul_lt_mul'' fy.1.a (bn hex).a
      rw [← Nat.pow_add] at this
      exact Nat.lt_trans this (Nat.pow_lt_pow_right (by decide) (by decide)), by
      have := Nat.mul_lt_mul'' fy.1.b (bn hex).b
      rw [← Nat.pow_add] at this
      exact Nat.lt_trans this (Nat.pow_lt_pow_right (by decide) (by decide)), Nat.mul_pos fy.1.pa (up_pos _), Nat.mul_pos fy.1.pb (dn_pos _)⟩
  refine ⟨_, rfl, _, rfl, ty, ra, y, ex, rfl, hy15, hra15, y4, fit (bn hex), fun l1 H16 s16 hl1 => ?_⟩
  refine ⟨_, rfl, _, rfl, ty, rb, y, e, rfl, hy15.same s16, hrb15.same s16, y4, fit (bn hpe), fun l2 H17 s17 hl2 => ?_⟩
  refine ⟨_, rfl, _, rfl, ty, ra, y, ex, rfl, (hy15.same s16).same s17, (hra15.same s16).same s17, y4, fit (bn hex), fun l3 H18 s18 hl3 => ?_⟩
  have hx18 := ((hx15.same s16).same s17).same s18
  refine ⟨_, rfl, _, _, _, _, rfl, rfl, hx18.ex, rfl, _, rfl, _, _, _, _, rfl, rfl, hx18.ex, rfl, ?_⟩
  intro xo dx nx ndx nex
  refine ⟨xo, dx, 1, negE ex, ?_, upd_same, by decide, Nat.one_lt_two_pow (by decide), by simpa [negE] using hx18.len, fun H19 r19 kp => ⟨rfl, ?_⟩⟩
  · rw [up_neg, dn_neg, Nat.one_mul, Nat.one_mul]
    rfl
  have s0 : Same H18 (upd (upd H18 dx (.own xo)) xo (.ins T.C_Ratio dx [])) := fun b o z => by
    rw [upd_ne (ne_of_none z nx), upd_ne (ne_of_none z ndx)]
    exact z
  have s19 : Same H18 H19 := fun b o z => kp b o (s0 b o z) (ne_of_none z nx)
  have hl3' := hl3.same s19
  refine ⟨l3, xo, lowP (y.1 * up ex, y.2 * dn ex), negE ex, rfl, hl3', r19, yx, ⟨by rw [up_neg]; exact (fit (bn hex)).2, by rw [dn_neg]; exact (fit (bn hex)).1⟩, fun l4 H20 s20 hl4 => ?_⟩
  rw [up_neg, dn_neg, lowP_back (up_pos ex) (dn_pos ex) fy.1.pa fy.2] at hl4
  refine ⟨(by show 3 ≤ sizeLine; decide), fun pA hpA => ?_⟩
  have sA := Same.new (o := .lst [V.ref l1, V.ref l2, V.ref l4]) hpA
  have s20A : Same H15 (upd H20 pA (.lst [V.ref l1, V.ref l2, V.ref l4])) := ((((s16.trans s17).trans s18).trans s19).trans s20).trans sA
  refine ⟨_, rfl, _, rfl, ty, tx, y, (up ex, dn ex), rfl, hy15.same s20A, (hx15.same s20A).ex, y4, bn4 (by decide) (bn hex), fun m1 H21 s21 hm1 => ?_⟩
  refine ⟨_, rfl, _, rfl, ty, p, y, (up e, dn e), rfl, (hy15.same s20A).same s21, ((hp15.same s20A).same s21).ex, y4, bn4 (by decide) (bn hpe), fun m2 H22 s22 hm2 => ?_⟩
  refine ⟨_, rfl, (by show 3 ≤ sizeLine; decide), fun pB hpB => ?_⟩
  have sB := Same.new (o := .lst [V.ref m1, V.ref m2, V.ref ty]) hpB
  have s22B := (s21.trans s22).trans sB
  have sq := (s20.trans sA).trans s22B
  have hD : DEq K (upd H22 pB (.lst [V.ref m1, V.ref m2, V.ref ty])) 2 (.ref pA) (.ref pB) := bl_deq (SqL.of (s22B _ _ upd_same)) (SqL.of upd_same) ((((hl1.same s17).same s18).same s19).same sq) (((hl2.same s18).same s19).same sq) (hl4.same (sA.trans s22B)) (hm1.same (s22.trans sB)) (hm2.same sB) (((hy15.same s20A).same (s21.trans s22)).same sB)
  have s15 : Same H15 (upd H22 pB (.lst [V.ref m1, V.ref m2, V.ref ty])) := s20A.trans s22B
  clear hl1 hl2 hl3 hl3' hl4 hm1 hm2 s20 sA s20A s21 s22 sB s22B sq s19 s0 s18 s17 s16 hpA hpB nx ndx nex r19 kp hx18
  refine ⟨2, _, _, rfl, by decide, hD, fun H23 s23 => ⟨true, rfl, iteF' rfl ?_⟩⟩
  clear hD
  replace s23 := s15.trans s23
  clear s15
  have hy := hy15.same s23
  have hx := hx15.same s23
  have hp := hp15.same s23
  have hh := hh15.same s23
  have hra := hra15.same s23
  have hrb := hrb15.same s23
  have hrc := hrc.same s23
  replace q : ∀ H', Same H23 H' → Q (.bl true) H' := fun H' s => q H' (s23.trans s)
  clear hy15 hx15 hp15 hh15 hra15 hrb15 s23 hs12 hh12 hp12 hx12 hy12 kE kF
  refine ⟨(by show 0 ≤ sizeLine; decide), fun pg hpg => ?_⟩
  have sg := Same.new (o := .lst []) hpg
  refine ⟨_, rfl, _, rfl, _, rfl, _, rfl, (by show 4 ≤ sizeLine; decide), fun pz hpz => ?_⟩
  have sz := Same.new (o := .lst [V.ref tx, V.ref p, V.ref th, V.ref ty]) hpz
  have hzg : pz ≠ pg := fun z => by
    rw [z, upd_same] at hpz
    cases hpz
  let fr : List Fr := [(up ex, dn ex), (up e, dn e), (up (addE e es), dn (addE e es)), y]
  refine ⟨pz, rfl, ⟨_, SqL.of upd_same⟩, for_it (walk_list (K := K) (a := pz) (xs := [V.ref tx, V.ref p, V.ref th, V.ref ty])) (fun i σ H' => ∃ a11, σ = [some (.ref B.b), some (.ref tx), some (.ref p), some (.ref ts), some (.ref th), some (.ref td), some (.ref ty), some (.ref ra), some (.ref rb), some (.ref rc), some (.ref pg), a11, none, none] ∧ Same H23 H' ∧ H' pz = some (.lst [V.ref tx, V.ref p, V.ref th, V.ref ty]) ∧ H' pg = some (.lst (((fr.take i).map fun z => V.int (cmpP y z))))) ⟨_, rfl, sg.trans sz, upd_same, sz _ _ upd_same⟩ (fun _ _ _ _ h => by obtain ⟨_, _, _, h, _⟩ := h; exact SqL.of h) ?_ ?_⟩
  · rintro i v σ H24 H25 hi ⟨a11, rfl, s24, hz24, hg24⟩ ⟨rfl, hv⟩
    obtain ⟨tz, z, rfl, hz, bz, hfz⟩ : ∃ tz z, v = .ref tz ∧ PT K H25 tz z ∧ Bn 4000 z ∧ fr[i]? = some z := by
      match i, hv with
      | 0, hv => exact ⟨tx, (up ex, dn ex), (Option.some.inj hv).symm, (hx.same s24).ex, bn4 (by decide) (bn hex), rfl⟩
      | 1, hv => exact ⟨p, (up e, dn e), (Option.some.inj hv).symm, (hp.same s24).ex, bn4 (by decide) (bn hpe), rfl⟩
      | 2, hv => exact ⟨th, (up (addE e es), dn (addE e es)), (Option.some.inj hv).symm, (hh.same s24).ex, bn4 (by decide) bh, rfl⟩
      | 3, hv => exact ⟨ty, y, (Option.some.inj hv).symm, hy.same s24, y4, rfl⟩
    have hy24 := hy.same s24
    have hlen : (((fr.take i).map fun z => V.int (cmpP y z))).length ≤ 100 := by
      rw [List.length_map, List.length_take]
      show min i 4 ≤ 100
      omega
    refine ⟨_, rfl, .inl ⟨rfl, _, SqL.of hg24⟩, _, rfl, _, rfl, tz, ty, z, y, rfl, hz, hy24, bz, y4, .inr ⟨_, rfl, _, rfl, _, rfl, ty, tz, y, z, rfl, hy24, hz, y4, bz, .inr ⟨_, rfl, _, _, rfl, rfl, pg, _, _, rfl, rfl, hg24, small1000 (by omega), ?_⟩⟩⟩
    refine ⟨_, rfl, fun c o h => by rw [upd_ne (ne_of_none h hpg)]; exact s24 _ _ h, by rw [upd_ne hzg]; exact hz24, ?_⟩
    rw [upd_same, take_snoc hfz, List.map_append]
    show some (HO.lst _) = some (HO.lst (_ ++ [V.int (cmpP y z)]))
    rw [← sgn (y := y) (z := z)]
  · rintro σ H24 ⟨a11, rfl, s24, hz24, hg24⟩
    have hg : H24 pg = some (.lst [V.int (cmpP y (up ex, dn ex)), V.int (cmpP y (up e, dn e)), V.int (cmpP y (up (addE e es), dn (addE e es))), V.int (cmpP y y)]) := hg24
    have hyy : cmpP y y = 0 := by
      unfold cmpP
      rw [Nat.mul_comm y.2 y.1, if_neg (Nat.lt_irrefl _), if_neg (Nat.lt_irrefl _)]
    rw [hyy] at hg
    clear hg24 hz24 hpz hpg sz sg hzg
    replace hy := hy.same s24
    replace hx := hx.same s24
    replace hp := hp.same s24
    replace hh := hh.same s24
    replace hra := hra.same s24
    replace hrb := hrb.same s24
    replace hrc := hrc.same s24
    replace q : ∀ H', Same H24 H' → Q (.bl true) H' := fun H' s => q H' (s24.trans s)
    clear s24
    have fith : Fit (addE e es) := fit bh
    have lt10 : ∀ {u : Nat}, u < 2 ^ 4000 → u < 2 ^ 100000 := fun h => Nat.lt_trans h (Nat.pow_lt_pow_right (by decide) (by decide))
    refine ⟨_, rfl, _, rfl, ty, ra, y, ex, rfl, hy, hra, y4, fit (bn hex), ?_⟩
    refine ⟨_, rfl, _, rfl, ty, rb, y, e, rfl, hy, hrb, y4, fit (bn hpe), ?_⟩
    obtain ⟨db, xb, b1, b2⟩ := hrb.ex
    obtain ⟨dc, xc, c1, c2⟩ := hrc.ex
    refine ⟨_, rfl, _, rfl, _, rfl, rb, db, _, rc, dc, _, rfl, rfl, b1, c1, rb, rc, e, es, rfl, hrb, hrc, lt10 fith.1, lt10 fith.2, fun t5 H25 s25 ht5 => ?_⟩
    refine ⟨ty, t5, y, addE e es, rfl, hy.same s25, ht5, y4, fith, (by show 3 ≤ sizeLine; decide), fun pt hpt => ?_⟩
    have st := s25.trans (Same.new (o := .lst [V.int (cmpP y (up ex, dn ex)), V.int (cmpP y (up e, dn e)), V.int (cmpP y (up (addE e es), dn (addE e es)))]) hpt)
    have ht : upd H25 pt (.lst [V.int (cmpP y (up ex, dn ex)), V.int (cmpP y (up e, dn e)), V.int (cmpP y (up (addE e es), dn (addE e es)))]) pt = some (.lst [V.int (cmpP y (up ex, dn ex)), V.int (cmpP y (up e, dn e)), V.int (cmpP y (up (addE e es), dn (addE e es)))]) := upd_same
    generalize upd H25 pt (.lst [V.int (cmpP y (up ex, dn ex)), V.int (cmpP y (up e, dn e)), V.int (cmpP y (up (addE e es), dn (addE e es)))]) = H26 at *
    replace hg := st _ _ hg
    replace hy := hy.same st
    replace hx := hx.same st
    replace hp := hp.same st
    replace hh := hh.same st
    replace hra := hra.same st
    replace hrb := hrb.same st
    replace hrc := hrc.same st
    replace q : ∀ H', Same H26 H' → Q (.bl true) H' := fun H' s => q H' (st.trans s)
    clear st ht5 s25 hpt b1 b2 c1 c2
    refine ⟨fun σ' H' => H' = H26 ∧ σ' = [some (.ref B.b), some (.ref tx), some (.ref p), some (.ref ts), some (.ref th), some (.ref td), some (.ref ty), some (.ref ra), some (.ref rb), some (.ref rc), some (.ref pg), a11, some (.ref pt), some (.bl (decide (0 ≤ cmpP y (up e, dn e)) && decide (cmpP y (up (addE e es), dn (addE e es)) < 0)))], ?_, ?_⟩
    · refine ⟨_, rfl, _, rfl, ty, p, y, (up e, dn e), rfl, hy, hp.ex, y4, bn4 (by decide) (bn hpe), _, rfl, _, rfl, ?_⟩
      rw [cmp_ge, cmp_lt]
      refine ite2 (fun c => ?_) (fun c => ?_)
      · refine ⟨_, rfl, _, rfl, ty, th, y, (up (addE e es), dn (addE e es)), rfl, hy, hh.ex, y4, bn4 (by decide) bh, ?_⟩
        rw [c, Bool.true_and]
        exact ⟨rfl, rfl⟩
      · rw [Bool.eq_false_iff.mpr c, Bool.false_and]
        exact ⟨rfl, rfl⟩
    rintro σ' H' ⟨rfl, rfl⟩
    refine ⟨_, rfl, _, rfl, _, rfl, pg, _, rfl, SqL.of hg, fun p5 hp5 => ?_⟩
    have hc : ∀ a b c d : V, cutV [a, b, c, d] none (some 3) = [a, b, c] := fun a b c d => rfl
    rw [hc]
    have s5' := Same.new (o := .lst [V.int (cmpP y (up ex, dn ex)), V.int (cmpP y (up e, dn e)), V.int (cmpP y (up (addE e es), dn (addE e es)))]) hp5
    refine ⟨1, _, _, rfl, by decide, .lst (SqL.of (s5' _ _ ht)) (SqL.of upd_same) (by show 3 ≤ 100000; decide) rfl fun i u v hu hv => ?_, fun H27 s27 => ⟨true, rfl, iteF' (c := !true) rfl ?_⟩⟩
    · rw [hu] at hv
      cases hv
      match i, hu with
      | 0, hu => cases hu; exact .int _
      | 1, hu => cases hu; exact .int _
      | 2, hu => cases hu; exact .int _
    have s27' := s5'.trans s27
    refine ⟨_, rfl, pg, _, _, _, rfl, rfl, SqL.of (s27' _ _ hg), at_of (j := 3) rfl rfl, ?_⟩
    have hee : cmpP (up e, dn e) (up e, dn e) = 0 := by
      unfold cmpP
      rw [Nat.mul_comm (dn e) (up e), if_neg (Nat.lt_irrefl _), if_neg (Nat.lt_irrefl _)]
    refine ⟨rfl, _, rfl, iteF' (by rw [decide_eq_true rfl]; rfl) ?_⟩
    refine ⟨_, rfl, _, rfl, p, rb, (up e, dn e), e, rfl, (hp.same s27').ex, hrb.same s27', bn4 (by decide) (bn hpe), fit (bn hpe), ?_⟩
    refine ⟨0, _, _, rfl, by decide, by rw [hee]; exact .int 0, fun H28 s28 => ⟨true, rfl, iteF' (c := !true) rfl ?_⟩⟩
    have s28' := s27'.trans s28
    replace hy := hy.same s28'
    replace hp := hp.same s28'
    replace hh := hh.same s28'
    replace hra := hra.same s28'
    replace hrb := hrb.same s28'
    replace hrc := hrc.same s28'
    replace q : ∀ H', Same H28 H' → Q (.bl true) H' := fun H' s => q H' (s28'.trans s)
    clear s28' s28 s27' s27 s5' hp5 hg ht hc hx
    have b20' : (625 * 625 * 625 : Nat) < 2 ^ 30 := by decide
    have shx : Sm (625 * 625 * 625) (addE (addE e es) ex) := sm_add (by simp [addE, hp12l, hs12l, hx12l]) shi hex
    have fitx : Fit (addE (addE e es) ex) := shx.fit (Nat.lt_trans b20' (Nat.pow_lt_pow_right (by decide) (by decide)))
    generalize hins : (decide (0 ≤ cmpP y (up e, dn e)) && decide (cmpP y (up (addE e es), dn (addE e es)) < 0)) = ins
    refine ⟨_, rfl, _, rfl, _, rfl, ty, rb, rc, y, e, es, rfl, hy, hrb, hrc, y4, fit (bn hpe), fith, fun H29 s29 => ?_⟩
    rw [hins]
    refine ⟨_, rfl, _, rfl, _, rfl, ty, rb, rc, y, e, es, rfl, hy.same s29, hrb.same s29, hrc.same s29, y4, fit (bn hpe), fith, fun H30 s30 => ?_⟩
    rw [hins]
    have t30 := s29.trans s30
    refine ⟨_, rfl, _, rfl, _, rfl, p, rb, rc, (up e, dn e), e, es, rfl, (hp.same t30).ex, hrb.same t30, hrc.same t30, bn4 (by decide) (bn hpe), fit (bn hpe), fith, fun H31 s31 => ?_⟩
    rw [win_in hl5 hgs]
    have t31 := t30.trans s31
    refine ⟨_, rfl, _, rfl, _, rfl, th, rb, rc, (up (addE e es), dn (addE e es)), e, es, rfl, (hh.same t31).ex, hrb.same t31, hrc.same t31, bn4 (by decide) bh, fit (bn hpe), fith, fun H32 s32 => ?_⟩
    rw [win_out]
    have t32 := t31.trans s32
    have hrb' := hrb.same t32
    have hrc' := hrc.same t32
    obtain ⟨db, xb, b1, b2⟩ := hrb'.ex
    obtain ⟨dc, xc, c1, c2⟩ := hrc'.ex
    refine ⟨_, rfl, _, rfl, _, rfl, rb, db, _, rc, dc, _, rfl, rfl, b1, c1, rb, rc, e, es, rfl, hrb', hrc', lt10 fith.1, lt10 fith.2, fun t6 H33 s33 ht6 => ?_⟩
    have t33 := t32.trans s33
    refine ⟨_, rfl, th, t6, ra, (up (addE e es), dn (addE e es)), addE e es, ex, rfl, (hh.same t33).ex, ht6, hra.same t33, bn4 (by decide) bh, fith, fitx, fun H34 s34 => ?_⟩
    rw [win_in (by simp [addE, hp12l, hs12l, hx12l]) hgx]
    have t34 := t33.trans s34
    refine ⟨(by show 5 ≤ sizeLine; decide), fun pw hpw => ?_⟩
    have sw := Same.new (o := .lst [V.bl ins, V.bl ins, V.bl true, V.bl false, V.bl true]) hpw
    refine ⟨_, rfl, _, rfl, _, rfl, (by show 5 ≤ sizeLine; decide), fun pv hpv => ?_⟩
    have sv := Same.new (o := .lst [V.bl ins, V.bl ins, V.bl true, V.bl false, V.bl true]) hpv
    exact ⟨2, _, _, rfl, by decide, bls_deq (SqL.of (sv _ _ upd_same)) (SqL.of upd_same) (by show 5 ≤ 1000; decide) (by simp), fun H35 s35 => q H35 (((t34.trans sw).trans sv).trans s35)⟩
end
end TL
namespace TL
open PySem L2

/-! ### steps of a reading -/
local macro_rules | `(tactic| walk_at "hp") => `(tactic| first | assumption | exact upd_same | (refine (upd_ne (by first | assumption | (exact Ne.symm (by assumption)))).trans ?_; walk_at "hp"))
local macro_rules | `(tactic| walk_at "ok") => `(tactic| first | (exact Or.inr ⟨by decide, by decide⟩) | (exact ⟨by decide, by decide⟩) | (exact ⟨by decide, by decide, by decide⟩) | (show _ ≠ _; omega) | (show _ ≠ _; decide) | (exact Or.inl ⟨by omega, by omega⟩) | decide)
local macro_rules | `(tactic| walk_at "sq") => `(tactic| first | assumption | exact SqL.of (by walk_at "hp") | exact SqT.of (by walk_at "hp"))
local macro_rules | `(tactic| walk_at "ty") => `(tactic| first | refine ⟨_, _, Value.type "int", Value.type "list", false, rfl, ClsV.ty _, TyX.base (TyOf.int _), kt_int_list, ?_⟩ | refine ⟨_, _, Value.type "bool", Value.type "list", false, rfl, ClsV.ty _, TyX.base (TyOf.bl _), kt_bool_list, ?_⟩ | refine ⟨_, _, Value.type "str", Value.type "list", false, rfl, ClsV.ty _, TyX.base (TyOf.str _), kt_str_list, ?_⟩ | refine ⟨_, _, Value.type "NoneType", Value.type "list", false, rfl, ClsV.ty _, TyX.base TyOf.non, kt_NoneType_list, ?_⟩ | refine ⟨_, _, Value.type "list", Value.type "list", true, rfl, ClsV.ty _, tyx_L (by walk_at "sq"), kt_list_list, ?_⟩ | refine ⟨_, _, Value.type "tuple", Value.type "list", false, rfl, ClsV.ty _, tyx_T (by walk_at "sq"), kt_tuple_list, ?_⟩ | refine ⟨_, _, Value.type "int", Value.type "tuple", false, rfl, ClsV.ty _, TyX.base (TyOf.int _), kt_int_tuple, ?_⟩ | refine ⟨_, _, Value.type "bool", Value.type "tuple", false, rfl, ClsV.ty _, TyX.base (TyOf.bl _), kt_bool_tuple, ?_⟩ | refine ⟨_, _, Value.type "str", Value.type "tuple", false, rfl, ClsV.ty _, TyX.base (TyOf.str _), kt_str_tuple, ?_⟩ | refine ⟨_, _, Value.type "NoneType", Value.type "tuple", false, rfl, ClsV.ty _, TyX.base TyOf.non, kt_NoneType_tuple, ?_⟩ | refine ⟨_, _, Value.type "list", Value.type "tuple", false, rfl, ClsV.ty _, tyx_L (by walk_at "sq"), kt_list_tuple, ?_⟩ | refine ⟨_, _, Value.type "tuple", Value.type "tuple", true, rfl, ClsV.ty _, tyx_T (by walk_at "sq"), kt_tuple_tuple, ?_⟩ | refine ⟨_, _, Value.type "int", Value.type "bool", false, rfl, ClsV.ty _, TyX.base (TyOf.int _), kt_int_bool, ?_⟩ | refine ⟨_, _, Value.type "bool", Value.type "bool", true, rfl, ClsV.ty _, TyX.base (TyOf.bl _), kt_bool_bool, ?_⟩ | refine ⟨_, _, Value.type "str", Value.type "bool", false, rfl, ClsV.ty _, TyX.base (TyOf.str _), kt_str_bool, ?_⟩ | refine ⟨_, _, Value.type "NoneType", Value.type "bool", false, rfl, ClsV.ty _, TyX.base TyOf.non, kt_NoneType_bool, ?_⟩ | refine ⟨_, _, Value.type "list", Value.type "bool", false, rfl, ClsV.ty _, tyx_L (by walk_at "sq"), kt_list_bool, ?_⟩ | refine ⟨_, _, Value.type "tuple", Value.type "bool", false, rfl, ClsV.ty _, tyx_T (by walk_at "sq"), kt_tuple_bool, ?_⟩ | refine ⟨_, _, Value.type "int", Value.type "int", true, rfl, ClsV.ty _, TyX.base (TyOf.int _), kt_int_int, ?_⟩ | refine ⟨_, _, Value.type "bool", Value.type "int", true, rfl, ClsV.ty _, TyX.base (TyOf.bl _), kt_bool_int, ?_⟩ | refine ⟨_, _, Value.type "str", Value.type "int", false, rfl, ClsV.ty _, TyX.base (TyOf.str _), kt_str_int, ?_⟩ | refine ⟨_, _, Value.type "NoneType", Value.type "int", false, rfl, ClsV.ty _, TyX.base TyOf.non, kt_NoneType_int, ?_⟩ | refine ⟨_, _, Value.type "list", Value.type "int", false, rfl, ClsV.ty _, tyx_L (by walk_at "sq"), kt_list_int, ?_⟩ | refine ⟨_, _, Value.type "tuple", Value.type "int", false, rfl, ClsV.ty _, tyx_T (by walk_at "sq"), kt_tuple_int, ?_⟩ | refine ⟨_, _, Value.type "int", Value.type "str", false, rfl, ClsV.ty _, TyX.base (TyOf.int _), kt_int_str, ?_⟩ | refine ⟨_, _, Value.type "bool", Value.type "str", false, rfl, ClsV.ty _, TyX.base (TyOf.bl _), kt_bool_str, ?_⟩ | refine ⟨_, _, Value.type "str", Value.type "str", true, rfl, ClsV.ty _, TyX.base (TyOf.str _), kt_str_str, ?_⟩ | refine ⟨_, _, Value.type "NoneType", Value.type "str", false, rfl, ClsV.ty _, TyX.base TyOf.non, kt_NoneType_str, ?_⟩ | refine ⟨_, _, Value.type "list", Value.type "str", false, rfl, ClsV.ty _, tyx_L (by walk_at "sq"), kt_list_str, ?_⟩ | refine ⟨_, _, Value.type "tuple", Value.type "str", false, rfl, ClsV.ty _, tyx_T (by walk_at "sq"), kt_tuple_str, ?_⟩)
local macro_rules | `(tactic| walk_at "go1") => `(tactic| first
  | (refine ⟨_, rfl, ?_⟩)
  | (refine ⟨_, _, rfl, rfl, ?_⟩)
  | (refine ⟨_, _, _, _, rfl, rfl, SqL.of (by walk_at "hp"), rfl, ?_⟩)
  | (refine Or.inl ⟨_, rfl, ?_⟩)
  | (refine ⟨rfl, ?_⟩)
  | (refine ⟨_, _, rfl, .inl (SqL.of (by walk_at "hp")), ?_⟩)
  | (refine ⟨_, _, rfl, Or.inl (by assumption), ?_⟩)
  | (refine ⟨_, _, rfl, Or.inr (by assumption), ?_⟩)
  | (refine ⟨(by walk_at "ok"), ?_⟩)
  | (refine ⟨_, _, _, _, rfl, rfl, (by walk_at "hp"), rfl, ?_⟩))
local macro_rules | `(tactic| walk_at "go") => `(tactic| repeat (walk_at "go1"))
local macro_rules | `(tactic| walk_at "gt") => `(tactic| repeat (first | walk_at "go1" | walk_at "ty"))

section
variable {P : Program} {w : World} {K : PySem.W.Frag} {mg : Str → Option Value} {base : Heap}
/-- lists of lists of ratios, and what the law sees of them -/
def Rss (K : PySem.W.Frag) (C : Addr) (H : Hp) (ps : List V) (ess : List (List (List Int))) : Prop := ps.length = ess.length ∧ ∀ (i : Nat) v, ps[i]? = some v → ∃ a rs es, v = .ref a ∧ ess[i]? = some es ∧ SqL K H a rs ∧ Ras K C H rs es ∧ es.length ≤ 1000
def Isss (K : PySem.W.Frag) (H : Hp) (ps : List V) (ess : List (List (List Int))) : Prop := ps.length = ess.length ∧ ∀ (i : Nat) v, ps[i]? = some v → ∃ a rs es, v = .ref a ∧ ess[i]? = some es ∧ SqL K H a rs ∧ Iss K H rs es
theorem Iss.same2 {H H' : Hp} {ps : List V} {es : List (List Int)} (h : Iss K H ps es) (s : Same H H') : Iss K H' ps es := ⟨h.1, fun i p hp => by
  obtain ⟨t, e, e1, e2, e3⟩ := h.2 i p hp
  exact ⟨t, e, e1, e2, seqT s e3⟩⟩
theorem Iss.lst2 {H : Hp} {g : Addr} {zs zs' : List V} {ps : List V} {es : List (List Int)} (hg : H g = some (.lst zs)) (h : Iss K H ps es) : Iss K (upd H g (.lst zs')) ps es := ⟨h.1, fun i p hp => by
  obtain ⟨t, e, e1, e2, e3⟩ := h.2 i p hp
  exact ⟨t, e, e1, e2, seqT_lst hg e3⟩⟩
section
variable {J : It} {n : Nat} {G : Hp → Prop} {Y : Nat → Hp → V → Hp → Prop} {D : Addr} {g : TG} {te : TE} {vs : List Nat} {σ : L2.St} {H0 : Hp} {Qd : Hp → Prop}
theorem lcs2 (w : Walk J n G Y) (P : Nat → V → Hp → Prop) (hP : ∀ i y H H', Same H H' → P i y H → P i y H') (hPD : ∀ i y H zs zs', H D = some (.lst zs) → P i y H → P i y (upd H D (.lst zs'))) (hz : n ≤ 100000) (hD : H0 D = none) (hG : ∀ H, Same H0 H → G H)
    (hs : ∀ i x H H', i < n → Same H0 H → (∃ zs : List V, H D = some (.lst zs)) → Y i H x H' → ∀ k : VK, (∀ y H4, Same H H4 → P i y H4 → k y H4) → g x (wipe σ vs) H' fun σ2 H2 => wipe σ2 vs = wipe σ vs ∧ te σ2 H2 k)
    (hd : ∀ (ys : List V) H, ys.length = n → (∀ (i : Nat) y, ys[i]? = some y → P i y H) → Same H0 H → H D = some (.lst ys) → Qd H) : LcGoal J g te vs σ H0 D Qd := by
  refine lc_it w (fun i H => Same H0 H ∧ ∃ ys : List V, H D = some (.lst ys) ∧ ys.length = i ∧ ∀ (t : Nat) y, ys[t]? = some y → P t y H) ⟨Same.new hD, [], upd_same, rfl, fun t y h => by cases h⟩ (fun i H _ h => hG H h.1) (fun i x H H' hi h hy => ?_) (fun H h => ?_)
  · obtain ⟨h1, ys, h3, h4, h5⟩ := h
    refine hs i x H H' hi h1 ⟨ys, h3⟩ hy _ fun y H4 s4 p => ⟨ys, s4 _ _ h3, ?_, fun c u q => ?_, ys ++ [y], upd_same, ?_, ?_⟩
    · exact Nat.lt_of_le_of_lt (by omega : ys.length ≤ 100000) (by decide)
    · rw [upd_ne (ne_of_none q hD)]
      exact s4 _ _ (h1 _ _ q)
    · rw [List.length_append, h4]
      rfl
    · intro t z hz
      refine hPD t z H4 ys _ (s4 _ _ h3) ?_
      rcases Nat.lt_or_ge t ys.length with q | q
      · rw [List.getElem?_append_left q] at hz
        exact hP _ _ _ _ s4 (h5 t z hz)
      · rw [List.getElem?_append_right q] at hz
        have e : t - ys.length = 0 := by
          have := (List.getElem?_eq_some_iff.mp hz).1
          simp at this
          omega
        rw [e] at hz
        obtain rfl : y = z := Option.some.inj hz
        have : t = i := by omega
        rw [this]
        exact p
  · obtain ⟨h1, ys, h3, h4, h5⟩ := h
    exact hd ys H h4 h5 h1 h3
end
/-- as spSeen1, and the list is new -/
def spSeen1f (K : PySem.W.Frag) (C : Addr) : Sp := fun vs H Q _ => ∃ (p : Addr) (ps : List V) (es : List (List Int)), vs = [.ref p] ∧ SqL K H p ps ∧ Ras K C H ps es ∧ es.length ≤ 1000 ∧ ∀ t qs H', H t = none → Same H H' → H' t = some (.lst qs) → Iss K H' qs es → Q (.ref t) H'
theorem ok_seen1f (T : Tx K mg) : FnOk P w K mg base CX0 2 T.f_l_seen T.d_l_seen ["_law_thing"] (spSeen1f K T.C_Ratio) := by
  have G_l_seen := ok_seen0 (P := P) (w := w) (base := base) T
  refine T.F_l_seen.ok sc_l_seen (fun vs H Q E h => ?_) (fun cdv A outer s H vs Q E hr h => ?_)
  · obtain ⟨p, ps, es, rfl, _⟩ := h
    rfl
  obtain ⟨p, ps, es, rfl, hp, hR, hz, q⟩ := h
  have nd := sc_l_seen.nd
  refine ⟨_, (pss_cons (ps_if (pt_val (pe_callB (show CallR _ _ (rIsi K) from call_isi) (by rfl) T.z_isinstance (by decide +kernel) (pa_cons (pv 0) (pa_cons (pe_glob (v := .ref T.C_Ratio) (by rfl) T.g_Ratio rfl) pa_nil)))) (pss_one (ps_ret (pe_tup (pa_cons pe_str (pa_cons (show PE _ _ (tFld K _ _) from pe_fld (pv 0) rfl) (pa_cons (show PE _ _ (tFld K _ _) from pe_fld (pv 0) rfl) pa_nil)))))) pss_nil)
    (pss_cons (ps_if (pt_val (pe_callB (show CallR _ _ (rIsi K) from call_isi) (by rfl) T.z_isinstance (by decide +kernel) (pa_cons (pv 0) (pa_cons (pe_bltn (v := .ty "list") (u := .type "list") (by rfl) T.z_list (by decide +kernel) rfl) pa_nil)))) (pss_one (ps_ret (pe_lc (own := [("_law_x", 1)]) (g := (gName 1)) rfl nd (show PI _ _ _ (iList K _) from pi_list (pv 0)) (blkOk_by (own := [("_law_x", 1)]) (N := N_l_seen) (sc := defScope s_l_seen) (by decide +kernel)) (fun _ _ _ _ _ => by exact (pg_name (i := 1) nd rfl (Or.inl rfl))) (fun _ _ _ _ _ => by exact pts_nil) (fun _ _ _ _ _ => by exact (pe_call G_l_seen hr (by rfl) T.m_l_seen T.F_l_seen.kp T.b_l_seen .nil pass0 (pa_cons (pv 1) pa_nil)))))) pss_nil)
    (pss_cons (ps_if (pt_val (pe_callB (show CallR _ _ (rIsi K) from call_isi) (by rfl) T.z_isinstance (by decide +kernel) (pa_cons (pv 0) (pa_cons (pe_bltn (v := .ty "tuple") (u := .type "tuple") (by rfl) T.z_tuple (by decide +kernel) rfl) pa_nil)))) (pss_one (ps_ret (pe_callTy (show CallR _ _ (rTup1 K) from call_tup1) (by rfl) T.z_tuple (by decide +kernel) (pa_cons (pe_lc (own := [("_law_x", 1)]) (g := (gName 1)) rfl nd (show PI _ _ _ (iList K _) from pi_list (pv 0)) (blkOk_by (own := [("_law_x", 1)]) (N := N_l_seen) (sc := defScope s_l_seen) (by decide +kernel)) (fun _ _ _ _ _ => by exact (pg_name (i := 1) nd rfl (Or.inl rfl))) (fun _ _ _ _ _ => by exact pts_nil) (fun _ _ _ _ _ => by exact (pe_call G_l_seen hr (by rfl) T.m_l_seen T.F_l_seen.kp T.b_l_seen .nil pass0 (pa_cons (pv 1) pa_nil)))) pa_nil)))) pss_nil)
    (pss_one (ps_ret (pv 0)))))), ?_⟩
  refine ⟨_, rfl, _, _, _, .ref T.C_Ratio, false, rfl, ClsV.own _, tyx_L hp, T.kList, ?_⟩
  refine ⟨_, rfl, ?_⟩
  refine ⟨_, rfl, _, _, .type "list", .type "list", true, rfl, ClsV.ty _, tyx_L hp, kt_list_list, _, rfl, ?_⟩
  refine ⟨_, rfl, p, rfl, ⟨ps, hp⟩, fun D hD => ?_⟩
  refine lcs (walk_list (K := K) (a := p) (xs := ps)) (fun i y H => ∃ t e, y = V.ref t ∧ es[i]? = some e ∧ IsAt K H t e) (fun i y H1 H2 s1 ⟨t, e, a1, a2, a3⟩ => ⟨t, e, a1, a2, seqT s1 a3⟩)
    (fun i y H1 zs zs' hz' ⟨t, e, a1, a2, a3⟩ => ⟨t, e, a1, a2, seqT_lst hz' a3⟩) (by rw [hR.1]; omega) hD (fun H1 s1 => s1.seq hp) ?_ fun ys H1 hl hys s1 hD1 => q D ys H1 hD s1 hD1 ⟨by rw [hl, hR.1], hys⟩
  rintro i x H1 H2 hi s1 ⟨rfl, hx⟩ k hk
  obtain ⟨t, e, rfl, he, ht⟩ := hR.2 i x hx
  refine ⟨rfl, ?_⟩
  exact ⟨_, rfl, t, e, rfl, ht.same s1, fun t2 H3 s3 h3 => hk _ H3 s3 ⟨t2, e, rfl, he, h3⟩⟩
def spSeen2 (K : PySem.W.Frag) (C : Addr) : Sp := fun vs H Q _ => ∃ (p : Addr) (ps : List V) (ess : List (List (List Int))), vs = [.ref p] ∧ SqL K H p ps ∧ Rss K C H ps ess ∧ ess.length ≤ 1000 ∧ ∀ t qs H', Same H H' → H' t = some (.lst qs) → Isss K H' qs ess → Q (.ref t) H'
theorem ok_seen2 (T : Tx K mg) : FnOk P w K mg base CX0 3 T.f_l_seen T.d_l_seen ["_law_thing"] (spSeen2 K T.C_Ratio) := by
  have G_l_seen := ok_seen1f (P := P) (w := w) (base := base) T
  refine T.F_l_seen.ok sc_l_seen (fun vs H Q E h => ?_) (fun cdv A outer s H vs Q E hr h => ?_)
  · obtain ⟨p, ps, es, rfl, _⟩ := h
    rfl
  obtain ⟨p, ps, ess, rfl, hp, hR, hz, q⟩ := h
  have nd := sc_l_seen.nd
  refine ⟨_, (pss_cons (ps_if (pt_val (pe_callB (show CallR _ _ (rIsi K) from call_isi) (by rfl) T.z_isinstance (by decide +kernel) (pa_cons (pv 0) (pa_cons (pe_glob (v := .ref T.C_Ratio) (by rfl) T.g_Ratio rfl) pa_nil)))) (pss_one (ps_ret (pe_tup (pa_cons pe_str (pa_cons (show PE _ _ (tFld K _ _) from pe_fld (pv 0) rfl) (pa_cons (show PE _ _ (tFld K _ _) from pe_fld (pv 0) rfl) pa_nil)))))) pss_nil)
    (pss_cons (ps_if (pt_val (pe_callB (show CallR _ _ (rIsi K) from call_isi) (by rfl) T.z_isinstance (by decide +kernel) (pa_cons (pv 0) (pa_cons (pe_bltn (v := .ty "list") (u := .type "list") (by rfl) T.z_list (by decide +kernel) rfl) pa_nil)))) (pss_one (ps_ret (pe_lc (own := [("_law_x", 1)]) (g := (gName 1)) rfl nd (show PI _ _ _ (iList K _) from pi_list (pv 0)) (blkOk_by (own := [("_law_x", 1)]) (N := N_l_seen) (sc := defScope s_l_seen) (by decide +kernel)) (fun _ _ _ _ _ => by exact (pg_name (i := 1) nd rfl (Or.inl rfl))) (fun _ _ _ _ _ => by exact pts_nil) (fun _ _ _ _ _ => by exact (pe_call G_l_seen hr (by rfl) T.m_l_seen T.F_l_seen.kp T.b_l_seen .nil pass0 (pa_cons (pv 1) pa_nil)))))) pss_nil)
    (pss_cons (ps_if (pt_val (pe_callB (show CallR _ _ (rIsi K) from call_isi) (by rfl) T.z_isinstance (by decide +kernel) (pa_cons (pv 0) (pa_cons (pe_bltn (v := .ty "tuple") (u := .type "tuple") (by rfl) T.z_tuple (by decide +kernel) rfl) pa_nil)))) (pss_one (ps_ret (pe_callTy (show CallR _ _ (rTup1 K) from call_tup1) (by rfl) T.z_tuple (by decide +kernel) (pa_cons (pe_lc (own := [("_law_x", 1)]) (g := (gName 1)) rfl nd (show PI _ _ _ (iList K _) from pi_list (pv 0)) (blkOk_by (own := [("_law_x", 1)]) (N := N_l_seen) (sc := defScope s_l_seen) (by decide +kernel)) (fun _ _ _ _ _ => by exact (pg_name (i := 1) nd rfl (Or.inl rfl))) (fun _ _ _ _ _ => by exact pts_nil) (fun _ _ _ _ _ => by exact (pe_call G_l_seen hr (by rfl) T.m_l_seen T.F_l_seen.kp T.b_l_seen .nil pass0 (pa_cons (pv 1) pa_nil)))) pa_nil)))) pss_nil)
    (pss_one (ps_ret (pv 0)))))), ?_⟩
  refine ⟨_, rfl, _, _, _, .ref T.C_Ratio, false, rfl, ClsV.own _, tyx_L hp, T.kList, ?_⟩
  refine ⟨_, rfl, ?_⟩
  refine ⟨_, rfl, _, _, .type "list", .type "list", true, rfl, ClsV.ty _, tyx_L hp, kt_list_list, _, rfl, ?_⟩
  refine ⟨_, rfl, p, rfl, ⟨ps, hp⟩, fun D hD => ?_⟩
  refine lcs2 (walk_list (K := K) (a := p) (xs := ps)) (fun i y H => ∃ b rs es, y = V.ref b ∧ ess[i]? = some es ∧ H b = some (.lst rs) ∧ Iss K H rs es ∧ b ≠ D) (fun i y H1 H2 s1 ⟨b, rs, es, a1, a2, a3, a4, a5⟩ => ⟨b, rs, es, a1, a2, s1 _ _ a3, a4.same2 s1, a5⟩)
    (fun i y H1 zs zs' hz' ⟨b, rs, es, a1, a2, a3, a4, a5⟩ => ⟨b, rs, es, a1, a2, by rw [upd_ne a5]; exact a3, a4.lst2 hz', a5⟩) (by rw [hR.1]; omega) hD (fun H1 s1 => s1.seq hp) ?_ fun ys H1 hl hys s1 hD1 => q D ys H1 s1 hD1 ⟨by rw [hl, hR.1], fun i v hv => by
      obtain ⟨b, rs, es, a1, a2, a3, a4, _⟩ := hys i v hv
      exact ⟨b, rs, es, a1, a2, SqL.of a3, a4⟩⟩
  rintro i x H1 H2 hi s1 ⟨zs, hzs⟩ ⟨rfl, hx⟩ k hk
  obtain ⟨a, rs, es, rfl, he, hs, hr', hz'⟩ := hR.2 i x hx
  refine ⟨rfl, ?_⟩
  exact ⟨_, rfl, a, rs, es, rfl, s1.seq hs, hr'.same s1, hz', fun t2 qs H3 n2 s3 h3 h4 => hk _ H3 s3 ⟨t2, qs, es, rfl, he, h3, h4, fun z => by rw [z, hzs] at n2; cases n2⟩⟩
end
end TL
namespace TL
open PySem L2
section
variable {P : Program} {w : World} {K : PySem.W.Frag} {mg : Str → Option Value} {base : Heap}
/-- the data of a fraction in a tuple -/
def dE (e : List Int) : PyData := .tuple [.tuple [.int ((up e : Nat) : Int), .int ((dn e : Nat) : Int)]]
theorem one_dp {H : Hp} {t : Addr} {e : List Int} (h : OneAt K H t e) : Dp K H (.ref t) (dE e) := by
  obtain ⟨p, h1, h2⟩ := h
  exact .tup h1 (.cons (.tup h2.ex (.cons (.int _) (.cons (.int _) .nil))) .nil)
theorem ones_dp {H : Hp} : ∀ {ps : List V} {es : List (List Int)}, Ones K H ps es → DpAll K H ps (es.map dE)
  | [], [], _ => .nil
  | [], _ :: _, h => absurd h.1 (by simp)
  | _ :: _, [], h => absurd h.1 (by simp)
  | p :: ps, e :: es, h => by
    obtain ⟨t, f, h1, h2, h3⟩ := h.2 0 p rfl
    cases h2
    subst h1
    exact .cons (one_dp h3) (ones_dp ⟨Nat.succ.inj h.1, fun i v hv => h.2 (i + 1) v hv⟩)
theorem eqv_dE {e f : List Int} (he : e.length = 6) (hf : f.length = 6) : PyData.eqv (dE e) (dE f) = decide (e = f) := by
  have h : PyData.eqv (dE e) (dE f) = (decide (((up e : Nat) : Int) = ((up f : Nat) : Int)) && decide (((dn e : Nat) : Int) = ((dn f : Nat) : Int))) := by
    simp only [dE, PyData.eqv, PyData.eqvAll, Bool.and_true]
    rfl
  rw [h]
  by_cases c : e = f
  · rw [decide_eq_true c, c]
    simp
  · rw [decide_eq_false c]
    cases h1 : decide (((up e : Nat) : Int) = ((up f : Nat) : Int))
    · rfl
    · cases h2 : decide (((dn e : Nat) : Int) = ((dn f : Nat) : Int))
      · rfl
      · have a := of_decide_eq_true h1
        have b := of_decide_eq_true h2
        exact absurd (e_inj he hf (by omega) (by omega)) c
theorem shaped_dE (e : List Int) : SeqAt.shaped (dE e) = true := rfl
theorem shaped_all : ∀ es : List (List Int), SeqAt.shaped (.list (es.map dE)) = true := by
  intro es
  have h : PyData.canLayAll0 (es.map dE) = true ∧ PyData.depthAll (es.map dE) ≤ 2 := by
    induction es with
    | nil => exact ⟨rfl, Nat.zero_le _⟩
    | cons e es ih =>
      refine ⟨?_, ?_⟩
      · rw [List.map_cons, PyData.canLayAll0, ih.1]
        rfl
      · rw [List.map_cons, PyData.depthAll]
        exact Nat.max_le.mpr ⟨Nat.le_refl 2, ih.2⟩
  unfold SeqAt.shaped
  rw [PyData.canLay0, PyData.depth, h.1, Bool.true_and]
  exact decide_eq_true (by omega)
end
end TL
namespace TL
open PySem L2

/-! ### steps of a reading -/
local macro_rules | `(tactic| walk_at "hp") => `(tactic| first | assumption | exact upd_same | (refine (upd_ne (by first | assumption | (exact Ne.symm (by assumption)))).trans ?_; walk_at "hp"))
local macro_rules | `(tactic| walk_at "ok") => `(tactic| first | (exact Or.inr ⟨by decide, by decide⟩) | (exact ⟨by decide, by decide⟩) | (exact ⟨by decide, by decide, by decide⟩) | (show _ ≠ _; omega) | (show _ ≠ _; decide) | (exact Or.inl ⟨by omega, by omega⟩) | decide)
local macro_rules | `(tactic| walk_at "sq") => `(tactic| first | assumption | exact SqL.of (by walk_at "hp") | exact SqT.of (by walk_at "hp"))
local macro_rules | `(tactic| walk_at "ty") => `(tactic| first | refine ⟨_, _, Value.type "int", Value.type "list", false, rfl, ClsV.ty _, TyX.base (TyOf.int _), kt_int_list, ?_⟩ | refine ⟨_, _, Value.type "bool", Value.type "list", false, rfl, ClsV.ty _, TyX.base (TyOf.bl _), kt_bool_list, ?_⟩ | refine ⟨_, _, Value.type "str", Value.type "list", false, rfl, ClsV.ty _, TyX.base (TyOf.str _), kt_str_list, ?_⟩ | refine ⟨_, _, Value.type "NoneType", Value.type "list", false, rfl, ClsV.ty _, TyX.base TyOf.non, kt_NoneType_list, ?_⟩ | refine ⟨_, _, Value.type "list", Value.type "list", true, rfl, ClsV.ty _, tyx_L (by walk_at "sq"), kt_list_list, ?_⟩ | refine ⟨_, _, Value.type "tuple", Value.type "list", false, rfl, ClsV.ty _, tyx_T (by walk_at "sq"), kt_tuple_list, ?_⟩ | refine ⟨_, _, Value.type "int", Value.type "tuple", false, rfl, ClsV.ty _, TyX.base (TyOf.int _), kt_int_tuple, ?_⟩ | refine ⟨_, _, Value.type "bool", Value.type "tuple", false, rfl, ClsV.ty _, TyX.base (TyOf.bl _), kt_bool_tuple, ?_⟩ | refine ⟨_, _, Value.type "str", Value.type "tuple", false, rfl, ClsV.ty _, TyX.base (TyOf.str _), kt_str_tuple, ?_⟩ | refine ⟨_, _, Value.type "NoneType", Value.type "tuple", false, rfl, ClsV.ty _, TyX.base TyOf.non, kt_NoneType_tuple, ?_⟩ | refine ⟨_, _, Value.type "list", Value.type "tuple", false, rfl, ClsV.ty _, tyx_L (by walk_at "sq"), kt_list_tuple, ?_⟩ | refine ⟨_, _, Value.type "tuple", Value.type "tuple", true, rfl, ClsV.ty _, tyx_T (by walk_at "sq"), kt_tuple_tuple, ?_⟩ | refine ⟨_, _, Value.type "int", Value.type "bool", false, rfl, ClsV.ty _, TyX.base (TyOf.int _), kt_int_bool, ?_⟩ | refine ⟨_, _, Value.type "bool", Value.type "bool", true, rfl, ClsV.ty _, TyX.base (TyOf.bl _), kt_bool_bool, ?_⟩ | refine ⟨_, _, Value.type "str", Value.type "bool", false, rfl, ClsV.ty _, TyX.base (TyOf.str _), kt_str_bool, ?_⟩ | refine ⟨_, _, Value.type "NoneType", Value.type "bool", false, rfl, ClsV.ty _, TyX.base TyOf.non, kt_NoneType_bool, ?_⟩ | refine ⟨_, _, Value.type "list", Value.type "bool", false, rfl, ClsV.ty _, tyx_L (by walk_at "sq"), kt_list_bool, ?_⟩ | refine ⟨_, _, Value.type "tuple", Value.type "bool", false, rfl, ClsV.ty _, tyx_T (by walk_at "sq"), kt_tuple_bool, ?_⟩ | refine ⟨_, _, Value.type "int", Value.type "int", true, rfl, ClsV.ty _, TyX.base (TyOf.int _), kt_int_int, ?_⟩ | refine ⟨_, _, Value.type "bool", Value.type "int", true, rfl, ClsV.ty _, TyX.base (TyOf.bl _), kt_bool_int, ?_⟩ | refine ⟨_, _, Value.type "str", Value.type "int", false, rfl, ClsV.ty _, TyX.base (TyOf.str _), kt_str_int, ?_⟩ | refine ⟨_, _, Value.type "NoneType", Value.type "int", false, rfl, ClsV.ty _, TyX.base TyOf.non, kt_NoneType_int, ?_⟩ | refine ⟨_, _, Value.type "list", Value.type "int", false, rfl, ClsV.ty _, tyx_L (by walk_at "sq"), kt_list_int, ?_⟩ | refine ⟨_, _, Value.type "tuple", Value.type "int", false, rfl, ClsV.ty _, tyx_T (by walk_at "sq"), kt_tuple_int, ?_⟩ | refine ⟨_, _, Value.type "int", Value.type "str", false, rfl, ClsV.ty _, TyX.base (TyOf.int _), kt_int_str, ?_⟩ | refine ⟨_, _, Value.type "bool", Value.type "str", false, rfl, ClsV.ty _, TyX.base (TyOf.bl _), kt_bool_str, ?_⟩ | refine ⟨_, _, Value.type "str", Value.type "str", true, rfl, ClsV.ty _, TyX.base (TyOf.str _), kt_str_str, ?_⟩ | refine ⟨_, _, Value.type "NoneType", Value.type "str", false, rfl, ClsV.ty _, TyX.base TyOf.non, kt_NoneType_str, ?_⟩ | refine ⟨_, _, Value.type "list", Value.type "str", false, rfl, ClsV.ty _, tyx_L (by walk_at "sq"), kt_list_str, ?_⟩ | refine ⟨_, _, Value.type "tuple", Value.type "str", false, rfl, ClsV.ty _, tyx_T (by walk_at "sq"), kt_tuple_str, ?_⟩)
local macro_rules | `(tactic| walk_at "go1") => `(tactic| first
  | (refine ⟨_, rfl, ?_⟩)
  | (refine ⟨_, _, rfl, rfl, ?_⟩)
  | (refine ⟨_, _, _, _, rfl, rfl, SqL.of (by walk_at "hp"), rfl, ?_⟩)
  | (refine Or.inl ⟨_, rfl, ?_⟩)
  | (refine ⟨rfl, ?_⟩)
  | (refine ⟨_, _, rfl, .inl (SqL.of (by walk_at "hp")), ?_⟩)
  | (refine ⟨_, _, rfl, Or.inl (by assumption), ?_⟩)
  | (refine ⟨_, _, rfl, Or.inr (by assumption), ?_⟩)
  | (refine ⟨(by walk_at "ok"), ?_⟩)
  | (refine ⟨_, _, _, _, rfl, rfl, (by walk_at "hp"), rfl, ?_⟩))
local macro_rules | `(tactic| walk_at "go") => `(tactic| repeat (walk_at "go1"))
local macro_rules | `(tactic| walk_at "gt") => `(tactic| repeat (first | walk_at "go1" | walk_at "ty"))

section
variable {P : Program} {w : World} {K : PySem.W.Frag} {mg : Str → Option Value} {base : Heap}
-- [0=_law_bag_here*, 1=_law_size, 2=_law_drawn, 3=_law_pool, 4=_law_turn, 5=_law_x, 6=_law_lot, 7=_law_kept, 8=_law_different, 9=_law_due, 10=_law_product_here, 11=_law_told, 12=_law_answer]
section
variable {J : It} {n : Nat} {G : Hp → Prop} {Y : Nat → Hp → V → Hp → Prop} {D : Addr} {g : TG} {te : TE} {vs : List Nat} {σ : L2.St} {H0 : Hp} {Qd : Hp → Prop}
/-- a comprehension whose turns change the bag, and give things that stand when the bag is changed -/
theorem lcbH {B : Bg} (w : Walk J n G Y) (P : Nat → V → Hp → Prop) (hP : ∀ i y H H', Bag B H → Kb B.b H H' → P i y H → P i y H') (hPD : ∀ i y H zs zs', H D = some (.lst zs) → P i y H → P i y (upd H D (.lst zs'))) (hz : n ≤ 100000) (hB : Bag B H0) (hD : H0 D = none) (hG : ∀ H, Bag B H → Kb B.b H0 H → G H)
    (hs : ∀ i x H H', i < n → Kb B.b H0 H → Bag B H → Y i H x H' → ∀ k : VK, (∀ y H4, P i y H4 → Kb B.b H H4 → Bag B H4 → k y H4) → g x (wipe σ vs) H' fun σ2 H2 => wipe σ2 vs = wipe σ vs ∧ te σ2 H2 k)
    (hd : ∀ (ys : List V) H, ys.length = n → (∀ (i : Nat) y, ys[i]? = some y → P i y H) → Kb B.b H0 H → Bag B H → H D = some (.lst ys) → Qd H) : LcGoal J g te vs σ H0 D Qd := by
  have nb := hB.nb hD
  have nL := hB.nL hD
  refine lc_it w (fun i H => Kb B.b H0 H ∧ Bag B H ∧ ∃ ys : List V, H D = some (.lst ys) ∧ ys.length = i ∧ ∀ (t : Nat) y, ys[t]? = some y → P t y H) ⟨Kb.same (Same.new hD), hB.new hD, [], upd_same, rfl, fun t y h => by cases h⟩ (fun i H _ h => hG H h.2.1 h.1) (fun i x H H' hi h hy => ?_) (fun H h => ?_)
  · obtain ⟨h1, h2, ys, h3, h4, h5⟩ := h
    refine hs i x H H' hi h1 h2 hy _ fun y H4 p kb b4 => ⟨ys, kb _ _ h3 nb, ?_, fun c u q ne => ?_, b4.upd nb nL, ys ++ [y], upd_same, ?_, ?_⟩
    · exact Nat.lt_of_le_of_lt (by omega : ys.length ≤ 100000) (by decide)
    · rw [upd_ne (ne_of_none q hD)]
      exact kb _ _ (h1 _ _ q ne) ne
    · rw [List.length_append, h4]
      rfl
    · intro t z hz
      refine hPD t z H4 ys _ (kb _ _ h3 nb) ?_
      rcases Nat.lt_or_ge t ys.length with q | q
      · rw [List.getElem?_append_left q] at hz
        exact hP _ _ _ _ h2 kb (h5 t z hz)
      · rw [List.getElem?_append_right q] at hz
        have e : t - ys.length = 0 := by
          have := (List.getElem?_eq_some_iff.mp hz).1
          simp at this
          omega
        rw [e] at hz
        obtain rfl : y = z := Option.some.inj hz
        have : t = i := by omega
        rw [this]
        exact p
  · obtain ⟨h1, h2, ys, h3, h4, h5⟩ := h
    exact hd ys H h4 h5 h1 h2 h3
end
theorem TasI.kb {B : Bg} {H H' : Hp} {ps : List V} {es : List (List Int)} (h : TasI K H ps es) (hB : Bag B H) (k : Kb B.b H H') : TasI K H' ps es := ⟨h.1, fun i p hp => by
  obtain ⟨t, e, e1, e2, e3⟩ := h.2 i p hp
  exact ⟨t, e, e1, e2, e3.kb hB k⟩⟩
theorem TasI.lst {g : Addr} {H : Hp} {ps : List V} {es : List (List Int)} {zs zs' : List V} (hg : H g = some (.lst zs)) (h : TasI K H ps es) : TasI K (upd H g (.lst zs')) ps es := ⟨h.1, fun i p hp => by
  obtain ⟨t, e, e1, e2, e3⟩ := h.2 i p hp
  exact ⟨t, e, e1, e2, e3.lst hg⟩⟩
theorem TasI.snoc {H : Hp} {ps : List V} {es : List (List Int)} {t : Addr} {e : List Int} (h : TasI K H ps es) (ht : TAt K H t e) : TasI K H (ps ++ [.ref t]) (es ++ [e]) := ⟨by rw [List.length_append, List.length_append, h.1]; rfl, fun i p hp => by
  by_cases q : i < ps.length
  · rw [List.getElem?_append_left q] at hp
    rw [List.getElem?_append_left (by rw [← h.1]; exact q)]
    exact h.2 i p hp
  · have q' : ps.length ≤ i := Nat.le_of_not_lt q
    rw [List.getElem?_append_right q'] at hp
    rw [List.getElem?_append_right (by rw [← h.1]; exact q'), ← h.1]
    match i - ps.length, hp with
    | 0, hp => exact ⟨t, e, (Option.some.inj hp).symm, rfl, ht⟩⟩
theorem TasI.one {H : Hp} {t : Addr} {e : List Int} (h : TAt K H t e) : TasI K H [.ref t] [e] := ⟨rfl, fun i v hv => by
  match i, hv with
  | 0, hv => exact ⟨t, e, (Option.some.inj hv).symm, rfl, h⟩⟩
/-- a small fraction -/
def Sl (e : List Int) : Prop := e.length = 6 ∧ Sm 625 e
theorem sl_neg {e : List Int} (h : Sl e) : Sl (negE e) := ⟨by simpa [negE] using h.1, ⟨by rw [up_neg]; exact h.2.2, by rw [dn_neg]; exact h.2.1⟩⟩
theorem Sl.fit {e : List Int} (h : Sl e) : Fit e := h.2.fit (Nat.lt_trans (by decide : 625 < 2 ^ 10) (Nat.pow_lt_pow_right (by decide) (by decide)))
theorem RAt.kbB {C : Addr} {B : Bg} {H H' : Hp} {t : Addr} {e : List Int} (h : RAt K C H t e) (hB : Bag B H) (k : Kb B.b H H') : RAt K C H' t e := h.kb hB k
theorem Iss.deq {n : Nat} {H : Hp} {a b : Addr} {ps qs : List V} {es : List (List Int)} (ha : SqL K H a ps) (hb : SqL K H b qs) (h1 : Iss K H ps es) (h2 : Iss K H qs es) (hz : es.length ≤ 1000) : DEq K H (n + 2) (.ref a) (.ref b) := .lst ha hb (by rw [h1.1]; omega) (by rw [h1.1, h2.1]) fun i x y hx hy => by
  obtain ⟨t, e, rfl, he, ht⟩ := h1.2 i x hx
  obtain ⟨u, f, rfl, hf, hu⟩ := h2.2 i y hy
  obtain rfl : e = f := Option.some.inj (he.symm.trans hf)
  exact is_deq ht hu
theorem sl_zero : Sl (List.replicate 6 (0 : Int)) := ⟨rfl, by decide, by decide⟩
/-- the list to draw from -/
def Pool (K : PySem.W.Frag) (H : Hp) (p : Addr) : Prop := ∃ qs, H p = some (.lst qs) ∧ qs.length = 3 ∧ ∀ (i : Nat) v, qs[i]? = some v → ∃ t e, v = V.ref t ∧ Sl e ∧ TAt K H t e
theorem Pool.kb {B : Bg} {H H' : Hp} {p : Addr} (h : Pool K H p) (hB : Bag B H) (n : p ≠ B.b) (k : Kb B.b H H') : Pool K H' p := by
  obtain ⟨qs, h1, h2, h3⟩ := h
  refine ⟨qs, k _ _ h1 n, h2, fun i v hv => ?_⟩
  obtain ⟨t, e, e1, e2, e3⟩ := h3 i v hv
  exact ⟨t, e, e1, e2, e3.kb hB k⟩
theorem Pool.same {H H' : Hp} {p : Addr} (h : Pool K H p) (s : Same H H') : Pool K H' p := by
  obtain ⟨qs, h1, h2, h3⟩ := h
  refine ⟨qs, s _ _ h1, h2, fun i v hv => ?_⟩
  obtain ⟨t, e, e1, e2, e3⟩ := h3 i v hv
  exact ⟨t, e, e1, e2, e3.same s⟩
theorem Pool.lst {g : Addr} {H : Hp} {p : Addr} {zs zs' : List V} (h : Pool K H p) (n : p ≠ g) (hg : H g = some (.lst zs)) : Pool K (upd H g (.lst zs')) p := by
  obtain ⟨qs, h1, h2, h3⟩ := h
  refine ⟨qs, by rw [upd_ne n]; exact h1, h2, fun i v hv => ?_⟩
  obtain ⟨t, e, e1, e2, e3⟩ := h3 i v hv
  exact ⟨t, e, e1, e2, e3.lst hg⟩
theorem any_dE {gs : List (List Int)} {e : List Int} (hg : ∀ g ∈ gs, g.length = 6) (he : e.length = 6) : ((gs.map dE).any fun z => PyData.eqv z (dE e)) = decide (e ∈ gs) := by
  induction gs with
  | nil => rfl
  | cons g gs ih =>
    rw [List.map_cons, List.any_cons, ih fun x hx => hg x (List.mem_cons_of_mem _ hx), eqv_dE (hg g (List.mem_cons_self ..)) he]
    by_cases c : g = e
    · rw [decide_eq_true c, Bool.true_or, decide_eq_true (by rw [c]; exact List.mem_cons_self ..)]
    · rw [decide_eq_false c, Bool.false_or]
      refine decide_eq_decide.mpr ⟨List.mem_cons_of_mem _, fun h => ?_⟩
      rcases List.mem_cons.mp h with z | z
      · exact absurd z.symm c
      · exact z
theorem asc_one : ∀ {as bs : List (List Int)}, (as.Pairwise fun x y => logE x < logE y) → (bs.Pairwise fun x y => logE x < logE y) → (∀ e, e ∈ as ↔ e ∈ bs) → as = bs
  | [], [], _, _, _ => rfl
  | [], b :: bs, _, _, h => absurd ((h b).mpr (List.mem_cons_self ..)) (by simp)
  | a :: as, [], _, _, h => absurd ((h a).mp (List.mem_cons_self ..)) (by simp)
  | a :: as, b :: bs, ha, hb, h => by
    rw [List.pairwise_cons] at ha hb
    have hab : a = b := by
      rcases List.mem_cons.mp ((h a).mp (List.mem_cons_self ..)) with z | z
      · exact z
      · rcases List.mem_cons.mp ((h b).mpr (List.mem_cons_self ..)) with y | y
        · exact y.symm
        · have := hb.1 a z
          have := ha.1 b y
          omega
    subst hab
    refine congrArg _ (asc_one ha.2 hb.2 fun e => ⟨fun z => ?_, fun z => ?_⟩)
    · rcases List.mem_cons.mp ((h e).mp (List.mem_cons_of_mem _ z)) with y | y
      · have := ha.1 e z
        rw [y] at this
        omega
      · exact y
    · rcases List.mem_cons.mp ((h e).mpr (List.mem_cons_of_mem _ z)) with y | y
      · have := hb.1 e z
        rw [y] at this
        omega
      · exact y
theorem wide_sl {es : List (List Int)} (h : ∀ e ∈ es, Sl e) (hz : es.length ≤ 100) : Wide es := by
  have hf := small_fit hz (sumE_small h).2
  have b : (2 : Nat) ^ 4000 < 2 ^ 100000 := Nat.pow_lt_pow_right (by decide) (by decide)
  exact ⟨fun e he => (h e he).1, Nat.lt_trans hf.1 b, Nat.lt_trans hf.2 b⟩
theorem Isss.deq {n : Nat} {H : Hp} {a b : Addr} {ps qs : List V} {ess : List (List (List Int))} (ha : SqL K H a ps) (hb : SqL K H b qs) (h1 : Isss K H ps ess) (h2 : Isss K H qs ess) (hz : ess.length ≤ 1000) (hz2 : ∀ es ∈ ess, es.length ≤ 1000) : DEq K H (n + 3) (.ref a) (.ref b) := .lst ha hb (by rw [h1.1]; omega) (by rw [h1.1, h2.1]) fun i x y hx hy => by
  obtain ⟨t, rs, es, rfl, he, ht, hI⟩ := h1.2 i x hx
  obtain ⟨u, rs2, es2, rfl, hf, hu, hJ⟩ := h2.2 i y hy
  obtain rfl : es = es2 := Option.some.inj (he.symm.trans hf)
  exact hI.deq ht hu hJ (hz2 es (List.mem_of_getElem? he))
theorem Isss.same2 {H H' : Hp} {ps : List V} {ess : List (List (List Int))} (h : Isss K H ps ess) (s : Same H H') : Isss K H' ps ess := ⟨h.1, fun i p hp => by
  obtain ⟨a, rs, es, e1, e2, e3, e4⟩ := h.2 i p hp
  exact ⟨a, rs, es, e1, e2, s.seq e3, e4.same2 s⟩⟩
theorem Ras.app {C : Addr} {H : Hp} {ps qs : List V} {es fs : List (List Int)} (h : Ras K C H ps es) (g : Ras K C H qs fs) : Ras K C H (ps ++ qs) (es ++ fs) := ⟨by rw [List.length_append, List.length_append, h.1, g.1], fun i v hv => by
  by_cases c : i < ps.length
  · rw [List.getElem?_append_left c] at hv
    rw [List.getElem?_append_left (by rw [← h.1]; exact c)]
    exact h.2 i v hv
  · have c' : ps.length ≤ i := Nat.le_of_not_lt c
    rw [List.getElem?_append_right c'] at hv
    rw [List.getElem?_append_right (by rw [← h.1]; exact c'), ← h.1]
    exact g.2 _ v hv⟩
theorem iss_nil {H : Hp} : Iss K H [] [] := ⟨rfl, fun i v hv => by cases hv⟩
theorem iss_cons {H : Hp} {t : Addr} {e : List Int} {ps : List V} {es : List (List Int)} (h : IsAt K H t e) (g : Iss K H ps es) : Iss K H (.ref t :: ps) (e :: es) := ⟨by rw [List.length_cons, List.length_cons, g.1], fun i v hv => by
  match i, hv with
  | 0, hv => exact ⟨t, e, (Option.some.inj hv).symm, rfl, h⟩
  | i + 1, hv => exact g.2 i v hv⟩
theorem ras_nil {C : Addr} {H : Hp} : Ras K C H [] [] := ⟨rfl, fun i v hv => by cases hv⟩
theorem ras_cons {C : Addr} {H : Hp} {t : Addr} {e : List Int} {ps : List V} {es : List (List Int)} (h : RAt K C H t e) (g : Ras K C H ps es) : Ras K C H (.ref t :: ps) (e :: es) := ⟨by rw [List.length_cons, List.length_cons, g.1], fun i v hv => by
  match i, hv with
  | 0, hv => exact ⟨t, e, (Option.some.inj hv).symm, rfl, h⟩
  | i + 1, hv => exact g.2 i v hv⟩
theorem isss_nil {H : Hp} : Isss K H [] [] := ⟨rfl, fun i v hv => by cases hv⟩
theorem isss_cons {H : Hp} {a : Addr} {rs : List V} {es : List (List Int)} {ps : List V} {ess : List (List (List Int))} (ha : SqL K H a rs) (h : Iss K H rs es) (g : Isss K H ps ess) : Isss K H (.ref a :: ps) (es :: ess) := ⟨by rw [List.length_cons, List.length_cons, g.1], fun i v hv => by
  match i, hv with
  | 0, hv => exact ⟨a, rs, es, (Option.some.inj hv).symm, rfl, ha, h⟩
  | i + 1, hv => exact g.2 i v hv⟩
theorem rss_nil {C : Addr} {H : Hp} : Rss K C H [] [] := ⟨rfl, fun i v hv => by cases hv⟩
theorem rss_cons {C : Addr} {H : Hp} {a : Addr} {rs : List V} {es : List (List Int)} {ps : List V} {ess : List (List (List Int))} (ha : SqL K H a rs) (h : Ras K C H rs es) (hz : es.length ≤ 1000) (g : Rss K C H ps ess) : Rss K C H (.ref a :: ps) (es :: ess) := ⟨by rw [List.length_cons, List.length_cons, g.1], fun i v hv => by
  match i, hv with
  | 0, hv => exact ⟨a, rs, es, (Option.some.inj hv).symm, rfl, ha, h, hz⟩
  | i + 1, hv => exact g.2 i v hv⟩
theorem u65 {k : Nat} {A : Around} (r : Room k A) : A.units + 65 < cLine := by
  have := r.un
  omega
def spListSo (K : PySem.W.Frag) : Sp := fun vs H Q _ => ∃ (B : Bg), vs = [.ref B.b] ∧ Bag B H ∧ ∀ H', Bag B H' → Kb B.b H H' → Q (.bl true) H'
theorem ok_l_list_so (T : Tx K mg) : FnOk P w K mg base CX0 9 T.f_l_list_so T.d_l_list_so ["_law_bag_here"] (spListSo K) := by
  have G_l_of := ok_of (P := P) (w := w) (base := base) T
  have G_l_draw := ok_draw (P := P) (w := w) (base := base) T
  have G_l_step := ok_l_step (P := P) (w := w) (base := base) T
  have G_l_length := ok_l_length (P := P) (w := w) (base := base) T
  have G_l_ratio := ok_l_ratio (P := P) (w := w) (base := base) T
  have G_l_same := ok_same (P := P) (w := w) (base := base) T 4
  have G_l_seen := FnOk.or2 ((ok_seen1 (P := P) (w := w) (base := base) T).mono (by decide)) (ok_seen2 (P := P) (w := w) (base := base) T)
  have G_l_ranked := ok_l_ranked (P := P) (w := w) (base := base) T
  have G_l_is := ok_l_is (P := P) (w := w) (base := base) T
  have G_l_product := ok_l_product (P := P) (w := w) (base := base) T
  have G_multiplied := FnOk.or2 (ok_multL (P := P) (w := w) (base := base) T) (ok_multT (P := P) (w := w) (base := base) T)
  have G_in_order := FnOk.or2 (ok_inL (P := P) (w := w) (base := base) T) (ok_inT (P := P) (w := w) (base := base) T)
  have G_Ratio_init := ok_rinit (P := P) (w := w) (base := base) T
  refine T.F_l_list_so.ok sc_l_list_so (fun vs H Q E h => ?_) (fun cdv A outer s H vs Q E hr h => ?_)
  · obtain ⟨B, rfl, _⟩ := h
    rfl
  obtain ⟨B, rfl, hB, q⟩ := h
  have nd := sc_l_list_so.nd
  refine ⟨_, (pss_cut (ps_set (i := 1) nd rfl (Or.inl rfl) (pe_ifExp (pt_cmpR op_eq (pe_call G_l_draw (hr.mono (by decide)) (by rfl) T.m_l_draw T.F_l_draw.kp T.b_l_draw .nil pass0 (pa_cons (pv 0) (pa_cons pe_int pa_nil))) pe_int (nomark _)) pe_int (pe_call G_l_draw (hr.mono (by decide)) (by rfl) T.m_l_draw T.F_l_draw.kp T.b_l_draw .nil pass0 (pa_cons (pv 0) (pa_cons pe_int pa_nil)))))
    (pss_cons (ps_par (i := 2) (j := 3) rfl nd rfl rfl (by decide) rfl rfl (pa_cons (pe_lst pa_nil) (pa_cons (pe_lst (pa_cons (pe_tup (pa_cons pe_int (pa_cons pe_int pa_nil))) (pa_cons (pe_call G_l_step (hr.mono (by decide)) (by rfl) T.m_l_step T.F_l_step.kp T.b_l_step .nil pass0 (pa_cons (pv 0) pa_nil)) (pa_cons (pe_call G_l_length (hr.mono (by decide)) (by rfl) T.m_l_length T.F_l_length.kp T.b_l_length .nil pass0 (pa_cons (pv 0) pa_nil)) pa_nil)))) pa_nil)) rfl)
    (pss_cut (ps_for PassesOwn.never rfl (pi_range1 (by rfl) T.z_range (pa_cons (pv 1) pa_nil)) (pg_name (i := 4) nd rfl (Or.inl rfl)) (pss_cut (ps_set (i := 5) nd rfl (Or.inl rfl) (pe_ifExp (PW.pt (pw_or (pt_cmpR op_eq (pe_call G_l_draw (hr.mono (by decide)) (by rfl) T.m_l_draw T.F_l_draw.kp T.b_l_draw .nil pass0 (pa_cons (pv 0) (pa_cons pe_int pa_nil))) pe_int (nomark _)) (pw_or1 (pt_cmpR op_eq (pv 1) pe_int (nomark _))))) (pe_call G_l_of (hr.mono (by decide)) (by rfl) T.m_l_of T.F_l_of.kp T.b_l_of .nil pass0 (pa_cons (pv 0) (pa_cons (pv 3) pa_nil))) (pe_call G_l_length (hr.mono (by decide)) (by rfl) T.m_l_length T.F_l_length.kp T.b_l_length .nil pass0 (pa_cons (pv 0) pa_nil))))
    (pss_one (ps_expr (pe_bm PySem.F.plainAttrs_list PySem.F.slot_list_append PySem.F.type_list_append mt_append (pv 2) (pa_cons (pe_ifExp (pt_cmpR op_eq (pe_call G_l_draw (hr.mono (by decide)) (by rfl) T.m_l_draw T.F_l_draw.kp T.b_l_draw .nil pass0 (pa_cons (pv 0) (pa_cons pe_int pa_nil))) pe_int (nomark _)) (pe_tup (pa_cons (pe_ix (show IxR _ (rIxT K) from ix_tup) (pv 5) pe_int (fun _ _ => rfl)) (pa_cons (pe_ix (show IxR _ (rIxT K) from ix_tup) (pv 5) pe_int (fun _ _ => rfl)) pa_nil))) (pv 5)) pa_nil))))))
    (pss_cons (ps_setLc (i := 6) (own := [("_law_x", 5)]) (g := (gName 5)) rfl nd rfl rfl (sw_true rfl rfl rfl (by decide +kernel)) (show PI _ _ _ (iList K _) from pi_list (pv 2)) (blkOk_by (own := [("_law_x", 5)]) (N := N_l_list_so) (sc := defScope s_l_list_so) (by decide +kernel)) (fun _ _ _ _ _ => by exact (pg_name (i := 5) nd rfl (Or.inl rfl))) (fun _ _ _ _ _ => by exact pts_nil) (fun _ _ _ _ _ => by exact (pe_call G_l_ratio (hr.mono (by decide)) (by rfl) T.m_l_ratio T.F_l_ratio.kp T.b_l_ratio .nil pass0 (pa_cons (pv 0) (pa_cons (pv 5) pa_nil)))))
    (pss_cons (ps_set (i := 7) nd rfl (Or.inl rfl) (pe_call G_l_seen (hr.mono (by decide)) (by rfl) T.m_l_seen T.F_l_seen.kp T.b_l_seen .nil pass0 (pa_cons (pv 6) pa_nil)))
    (pss_cons (ps_set (i := 8) nd rfl (Or.inl rfl) (pe_lst pa_nil))
    (pss_cut (ps_for PassesOwn.never rfl (show PI _ _ _ (iList K _) from pi_list (pv 2)) (pg_name (i := 5) nd rfl (Or.inl rfl)) (pss_one (ps_if (pt_cmpR (op_notInD (u65 hr)) (pe_tup (pa_cons (pv 5) pa_nil)) (pv 8) (by rfl)) (pss_one (ps_expr (pe_bm PySem.F.plainAttrs_list PySem.F.slot_list_append PySem.F.type_list_append mt_append (pv 8) (pa_cons (pe_tup (pa_cons (pv 5) pa_nil)) pa_nil)))) pss_nil)))
    (pss_cons (ps_setLc (i := 9) (own := [("_law_x", 5)]) (g := (gName 5)) rfl nd rfl rfl (sw_true rfl rfl rfl (by decide +kernel)) (show PI _ _ _ (iList K _) from pi_list (pe_call G_l_ranked (hr.mono (by decide)) (by rfl) T.m_l_ranked T.F_l_ranked.kp T.b_l_ranked .nil pass0 (pa_cons (pv 8) (pa_cons pe_int pa_nil)))) (blkOk_by (own := [("_law_x", 5)]) (N := N_l_list_so) (sc := defScope s_l_list_so) (by decide +kernel)) (fun _ _ _ _ _ => by exact (pg_name (i := 5) nd rfl (Or.inl rfl))) (fun _ _ _ _ _ => by exact pts_nil) (fun _ _ _ _ _ => by exact (pe_call G_l_is (hr.mono (by decide)) (by rfl) T.m_l_is T.F_l_is.kp T.b_l_is .nil pass0 (pa_cons (pe_ix (show IxR _ (rIxT K) from ix_tup) (pv 5) pe_int (fun _ _ => rfl)) pa_nil))))
    (pss_cons (ps_set (i := 10) nd rfl (Or.inl rfl) (pe_call G_l_is (hr.mono (by decide)) (by rfl) T.m_l_is T.F_l_is.kp T.b_l_is .nil pass0 (pa_cons (pe_call G_l_product (hr.mono (by decide)) (by rfl) T.m_l_product T.F_l_product.kp T.b_l_product .nil pass0 (pa_cons (pv 2) pa_nil)) pa_nil)))
    (pss_cons (ps_set (i := 11) nd rfl (Or.inl rfl) (pe_lst (pa_cons (pe_call G_multiplied (hr.mono (by decide)) (by rfl) T.m_multiplied T.F_multiplied.kp T.b_multiplied .nil pass0 (pa_cons (pv 6) pa_nil)) (pa_cons (pe_call G_multiplied (hr.mono (by decide)) (by rfl) T.m_multiplied T.F_multiplied.kp T.b_multiplied .nil pass0 (pa_cons (pe_callTy (show CallR _ _ (rTup1 K) from call_tup1) (by rfl) T.z_tuple (by decide +kernel) (pa_cons (pv 6) pa_nil)) pa_nil)) (pa_cons (pe_callK0 G_multiplied (hr.mono (by decide)) (by rfl) T.m_multiplied T.F_multiplied.kp T.kb_multiplied pass0 (pk_cons (pv 6) pk_nil)) (pa_cons (pe_call G_multiplied (hr.mono (by decide)) (by rfl) T.m_multiplied T.F_multiplied.kp T.b_multiplied .nil pass0 (pa_cons (pe_lst pa_nil) pa_nil)) pa_nil))))))
    (pss_cons (ps_if (pt_not (pt_val (pe_call G_l_same (hr.mono (by decide)) (by rfl) T.m_l_same T.F_l_same.kp T.b_l_same .nil pass0 (pa_cons (pe_call G_l_seen (hr.mono (by decide)) (by rfl) T.m_l_seen T.F_l_seen.kp T.b_l_seen .nil pass0 (pa_cons (pv 11) pa_nil)) (pa_cons (pe_lst (pa_cons (pv 10) (pa_cons (pv 10) (pa_cons (pv 10) (pa_cons (pe_tup (pa_cons pe_str (pa_cons pe_int (pa_cons pe_int pa_nil)))) pa_nil))))) pa_nil))))) (pss_one (ps_ret pe_bl)) pss_nil)
    (pss_cons (ps_set (i := 12) nd rfl (Or.inl rfl) (pe_call G_in_order (hr.mono (by decide)) (by rfl) T.m_in_order T.F_in_order.kp T.b_in_order .nil pass0 (pa_cons (pv 6) pa_nil)))
    (pss_cons (ps_if (pt_not (pt_val (pe_call G_l_same (hr.mono (by decide)) (by rfl) T.m_l_same T.F_l_same.kp T.b_l_same .nil pass0 (pa_cons (pe_call G_l_seen (hr.mono (by decide)) (by rfl) T.m_l_seen T.F_l_seen.kp T.b_l_seen .nil pass0 (pa_cons (pe_lst (pa_cons (pv 12) (pa_cons (pe_callK0 G_in_order (hr.mono (by decide)) (by rfl) T.m_in_order T.F_in_order.kp T.kb_in_order pass0 (pk_cons (pe_callTy (show CallR _ _ (rTup1 K) from call_tup1) (by rfl) T.z_tuple (by decide +kernel) (pa_cons (pv 6) pa_nil)) pk_nil)) (pa_cons (pe_call G_in_order (hr.mono (by decide)) (by rfl) T.m_in_order T.F_in_order.kp T.b_in_order .nil pass0 (pa_cons (pe_lst pa_nil) pa_nil)) pa_nil)))) pa_nil)) (pa_cons (pe_lst (pa_cons (pv 9) (pa_cons (pv 9) (pa_cons (pe_lst pa_nil) pa_nil)))) pa_nil))))) (pss_one (ps_ret pe_bl)) pss_nil)
    (pss_cons (ps_if (pt_not (pt_val (pe_call G_l_same (hr.mono (by decide)) (by rfl) T.m_l_same T.F_l_same.kp T.b_l_same .nil pass0 (pa_cons (pe_call G_l_seen (hr.mono (by decide)) (by rfl) T.m_l_seen T.F_l_seen.kp T.b_l_seen .nil pass0 (pa_cons (pe_lst (pa_cons (pe_call G_in_order (hr.mono (by decide)) (by rfl) T.m_in_order T.F_in_order.kp T.b_in_order .nil pass0 (pa_cons (pv 12) pa_nil)) (pa_cons (pe_call G_in_order (hr.mono (by decide)) (by rfl) T.m_in_order T.F_in_order.kp T.b_in_order .nil pass0 (pa_cons (pe_op op_cat (pv 6) (pv 12)) pa_nil)) pa_nil))) pa_nil)) (pa_cons (pe_lst (pa_cons (pv 9) (pa_cons (pv 9) pa_nil))) pa_nil))))) (pss_one (ps_ret pe_bl)) pss_nil)
    (pss_cons (ps_expr (pe_bm PySem.F.plainAttrs_list PySem.F.slot_list_append PySem.F.type_list_append mt_append (pv 12) (pa_cons (pe_make T.k_Ratio G_Ratio_init (hr.mono (by decide)) (by rfl) T.g_Ratio T.b1_Ratio_init T.v_Ratio_init pass0 (pa_cons pe_int pa_nil)) pa_nil)))
    (pss_cons (ps_expr (pe_bm0 PySem.F.plainAttrs_list PySem.F.slot_list_reverse PySem.F.type_list_reverse mt_reverse (pv 12)))
    (pss_one (ps_ret (pe_call G_l_same (hr.mono (by decide)) (by rfl) T.m_l_same T.F_l_same.kp T.b_l_same .nil pass0 (pa_cons (pe_call G_l_seen (hr.mono (by decide)) (by rfl) T.m_l_seen T.F_l_seen.kp T.b_l_seen .nil pass0 (pa_cons (pe_lst (pa_cons (pe_call G_in_order (hr.mono (by decide)) (by rfl) T.m_in_order T.F_in_order.kp T.b_in_order .nil pass0 (pa_cons (pv 6) pa_nil)) (pa_cons (pv 6) pa_nil))) pa_nil)) (pa_cons (pe_lst (pa_cons (pv 9) (pa_cons (pv 7) pa_nil))) pa_nil))))))))))))))))))))), ?_⟩
  refine ⟨fun σ H' => ∃ n : Nat, n ≤ 40 ∧ σ = [some (.ref B.b), some (.int (n : Int)), none, none, none, none, none, none, none, none, none, none, none] ∧ Bag B H' ∧ Kb B.b H H', ?_, ?_⟩
  · refine ⟨_, rfl, B, 8, rfl, by decide, by decide, hB, fun d H1 d0 d1 hB1 kb1 => ⟨rfl, _, rfl, ?_⟩⟩
    refine ite2 (fun c => ?_) (fun c => ?_)
    · exact ⟨40, Nat.le_refl _, rfl, hB1, kb1⟩
    · refine ⟨_, rfl, B, 9, rfl, by decide, by decide, hB1, fun d2 H2 e0 e1 hB2 kb2 => ⟨d2.toNat, by omega, ?_, hB2, kb1.trans kb2⟩⟩
      rw [Int.toNat_of_nonneg e0]
      rfl
  rintro σ H1 ⟨n, hn, rfl, hB1, kb1⟩
  -- the drawn list, the pool
  refine ⟨(by show 0 ≤ sizeLine; decide), fun pd hpd => ?_⟩
  have s1 := Same.new (o := .lst []) hpd
  refine ⟨(by show 2 ≤ sizeLine; decide), fun po hpo => ?_⟩
  have s2 := s1.trans (Same.new (o := .tup [V.int 1, V.int 1]) hpo)
  have nd1 : pd ≠ B.b := hB1.nb hpd
  have npo : pd ≠ po := ne_of_none upd_same hpo
  have hpd2 : (upd (upd H1 pd (.lst [])) po (.tup [V.int 1, V.int 1])) pd = some (.lst []) := by rw [upd_ne npo, upd_same]
  have hto : TAt K (upd (upd H1 pd (.lst [])) po (.tup [V.int 1, V.int 1])) po (List.replicate 6 0) := ⟨SqT.of upd_same, rfl⟩
  have hBs2 := hB1.same s2
  refine ⟨_, rfl, B, rfl, hBs2, fun ta ea H2 hB2 kb2 hta hea => ?_⟩
  refine ⟨_, rfl, B, rfl, hB2, fun tb eb H3 hB3 kb3 htb heb => ?_⟩
  refine ⟨(by show 3 ≤ sizeLine; decide), fun pp hpp => ⟨_, _, rfl, ?_⟩⟩
  have s4 := Same.new (o := .lst [.ref po, .ref ta, .ref tb]) hpp
  have hT : Pool K (upd H3 pp (.lst [.ref po, .ref ta, .ref tb])) pp := ⟨[.ref po, .ref ta, .ref tb], upd_same, rfl, fun i v hv => by
    match i, hv with
    | 0, hv => exact ⟨po, _, (Option.some.inj hv).symm, sl_zero, ((hto.kb hBs2 kb2).kb hB2 kb3).same s4⟩
    | 1, hv => exact ⟨ta, ea, (Option.some.inj hv).symm, ⟨hta.len, ⟨Nat.le_trans hea.1 (by decide), Nat.le_trans hea.2 (by decide)⟩⟩, (hta.kb hB2 kb3).same s4⟩
    | 2, hv => exact ⟨tb, eb, (Option.some.inj hv).symm, ⟨htb.len, heb⟩, htb.same s4⟩⟩
  have npp : pd ≠ pp := ne_of_none (kb3 _ _ (kb2 _ _ hpd2 nd1) nd1) hpp
  have hpd4 : (upd H3 pp (.lst [.ref po, .ref ta, .ref tb])) pd = some (.lst []) := by rw [upd_ne npp]; exact kb3 _ _ (kb2 _ _ hpd2 nd1) nd1
  have hB4 := hB3.same s4
  have kb4 : Kb B.b H (upd H3 pp (.lst [.ref po, .ref ta, .ref tb])) := ((kb1.trans (Kb.same s2)).trans (kb2.trans kb3)).trans (Kb.same s4)
  have npB : pp ≠ B.b := hB3.nb hpp
  have hpdN : ∀ c o, H c = some o → c ≠ B.b → c ≠ pd := fun c o h n => by
    exact ne_of_none (kb1 _ _ h n) hpd
  have nLd : pd ≠ B.L := hB1.nL hpd
  clear hpd hpo hpd2 hto hBs2 hB2 kb2 hta hea hB3 kb3 htb heb hpp s1 s2 s4 hB1 kb1 npo
  generalize upd H3 pp (.lst [.ref po, .ref ta, .ref tb]) = H4 at *
  clear H3 H2 ea eb ta tb po H1
  refine ⟨fun σ H' => ∃ a4 a5 ps es, σ = [some (.ref B.b), some (.int (n : Int)), some (.ref pd), some (.ref pp), a4, a5, none, none, none, none, none, none, none] ∧ Bag B H' ∧ Kb B.b H H' ∧ H' pd = some (.lst ps) ∧ TasI K H' ps es ∧ (∀ e ∈ es, Sl e) ∧ es.length ≤ 40 ∧ Pool K H' pp, ?_, ?_⟩
  · refine ⟨_, rfl, (n : Int), rfl, by omega, by omega, for_it (walk_range (lo := 0) (n := n)) (fun i σ H' => ∃ a4 a5 ps es, σ = [some (.ref B.b), some (.int (n : Int)), some (.ref pd), some (.ref pp), a4, a5, none, none, none, none, none, none, none] ∧ Bag B H' ∧ Kb B.b H H' ∧ H' pd = some (.lst ps) ∧ TasI K H' ps es ∧ (∀ e ∈ es, Sl e) ∧ es.length = i ∧ Pool K H' pp) ⟨none, none, [], [], rfl, hB4, kb4, hpd4, ⟨rfl, fun i v hv => by cases hv⟩, (fun e he => by cases he), rfl, hT⟩ (fun _ _ _ _ _ => trivial) ?_ ?_⟩
    · clear hT hpd4 hB4 kb4 H4
      rintro i v σ H4 H5 hi ⟨a4, a5, ps, es, rfl, hB4, kb4, hps, hes, hsl, hl, hP⟩ ⟨rfl, rfl⟩
      refine ⟨fun σ H' => ∃ px x, σ = [some (.ref B.b), some (.int (n : Int)), some (.ref pd), some (.ref pp), some (.int (0 + (i : Int))), some (.ref px), none, none, none, none, none, none, none] ∧ TAt K H' px x ∧ Sl x ∧ Bag B H' ∧ Kb B.b H H' ∧ H' pd = some (.lst ps) ∧ TasI K H' ps es ∧ Pool K H' pp, ?_, ?_⟩
      · have ofc : ∀ H6, Bag B H6 → Kb B.b H5 H6 → ∀ (k : VK), (∀ px x H', TAt K H' px x → Sl x → Bag B H' → Kb B.b H H' → H' pd = some (.lst ps) → TasI K H' ps es → Pool K H' pp → k (.ref px) H') → spOf K [.ref B.b, .ref pp] H6 k E0 := fun H6 hB6 kb6 k hk => by
          obtain ⟨qs, h1, h2, h3⟩ := hP.kb hB4 npB kb6
          refine ⟨B, pp, qs, rfl, SqL.of h1, npB, by omega, by omega, hB6, fun j v H7 hv hB7 kb7 => ?_⟩
          obtain ⟨t, e, rfl, he, ht⟩ := h3 j v hv
          have k57 := kb6.trans kb7
          exact hk t e H7 (ht.kb hB6 kb7) he hB7 (kb4.trans k57) (k57 _ _ hps nd1) (hes.kb hB4 k57) (hP.kb hB4 npB k57)
        refine ⟨_, rfl, B, 3, rfl, by decide, by decide, hB4, fun d H6 d0 d1 hB6 kb6 => ⟨rfl, _, rfl, ?_⟩⟩
        refine ite2 (fun c => ?_) (fun c => ?_)
        · exact ⟨_, rfl, _, rfl, ofc H6 hB6 kb6 _ fun px x H7 ht hx hB7 kb7 hp7 hd7 hP7 => ⟨px, x, rfl, ht, hx, hB7, kb7, hp7, hd7, hP7⟩⟩
        · refine ⟨_, rfl, rfl, _, rfl, ?_⟩
          refine ite2 (fun c2 => ?_) (fun c2 => ?_)
          · exact ⟨_, rfl, _, rfl, ofc H6 hB6 kb6 _ fun px x H7 ht hx hB7 kb7 hp7 hd7 hP7 => ⟨px, x, rfl, ht, hx, hB7, kb7, hp7, hd7, hP7⟩⟩
          · refine ⟨_, rfl, B, rfl, hB6, fun t e H7 hB7 kb7 ht he => ?_⟩
            have k57 := kb6.trans kb7
            exact ⟨t, e, rfl, ht, ⟨ht.len, he⟩, hB7, kb4.trans k57, k57 _ _ hps nd1, hes.kb hB4 k57, hP.kb hB4 npB k57⟩
      · clear hes hps hP hB4 kb4 H5
        rintro σ H5 ⟨px, x, rfl, hx, hxs, hB5, kb5, hps, hes, hP⟩
        have hpl : ps.length < sizeLine := by
          rw [hes.1]
          exact small1000 (by omega)
        refine ⟨_, rfl, .inl ⟨rfl, _, SqL.of hps⟩, ?_⟩
        refine ⟨_, rfl, B, 3, rfl, by decide, by decide, hB5, fun d H6 d0 d1 hB6 kb6 => ⟨rfl, _, rfl, ?_⟩⟩
        have hps6 := kb6 _ _ hps nd1
        have hes6 := hes.kb hB5 kb6
        have hx6 := hx.kb hB5 kb6
        have hP6 := hP.kb hB5 npB kb6
        have fin : ∀ H7 t e, Same H6 H7 → TAt K H7 t e → Sl e → ∀ W : L2.St → Hp → Prop, (∀ σ H', (∃ a4 a5 ps es, σ = [some (V.ref B.b), some (V.int (n : Int)), some (V.ref pd), some (V.ref pp), a4, a5, none, none, none, none, none, none, none] ∧ Bag B H' ∧ Kb B.b H H' ∧ H' pd = some (.lst ps) ∧ TasI K H' ps es ∧ (∀ e ∈ es, Sl e) ∧ es.length = i + 1 ∧ Pool K H' pp) → W σ H') → H7 pd = some (.lst ps) ∧ W [some (V.ref B.b), some (V.int (n : Int)), some (V.ref pd), some (V.ref pp), some (.int (0 + (i : Int))), some (.ref px), none, none, none, none, none, none, none] (upd H7 pd (.lst (ps ++ [.ref t]))) := fun H7 t e s7 ht he W hW => by
          have hp7 := s7 _ _ hps6
          have hB7 := hB6.same s7
          refine ⟨hp7, hW _ _ ⟨_, _, ps ++ [.ref t], es ++ [e], rfl, hB7.upd nd1 nLd, fun c o h nn => ?_, upd_same, ((hes6.same s7).lst hp7).snoc (ht.lst hp7), fun f hf => ?_, by rw [List.length_append, hl]; rfl, (hP6.same s7).lst (Ne.symm npp) hp7⟩⟩
          · rw [upd_ne (hpdN c o h nn)]
            exact s7 _ _ (kb6 _ _ (kb5 _ _ h nn) nn)
          · rcases List.mem_append.mp hf with z | z
            · exact hsl f z
            · rw [List.mem_singleton.mp z]
              exact he
        refine ite2 (fun c => ?_) (fun c => ?_)
        · refine ⟨_, rfl, _, _, _, _, rfl, rfl, hx6.ex, rfl, _, rfl, _, _, _, _, rfl, rfl, hx6.ex, rfl, (by show 2 ≤ sizeLine; decide), fun t ht => ?_⟩
          have s7 := Same.new (o := .tup [.int ((dn x : Nat) : Int), .int ((up x : Nat) : Int)]) ht
          have := fin _ t (negE x) s7 ⟨SqT.of (by rw [up_neg, dn_neg]; exact upd_same), by simpa [negE] using hx6.len⟩ (sl_neg hxs) _ (fun _ _ h => h)
          exact ⟨pd, ps, _, rfl, rfl, this.1, hpl, this.2⟩
        · have := fin _ px x (Same.refl _) hx6 hxs _ (fun _ _ h => h)
          exact ⟨_, rfl, pd, ps, _, rfl, rfl, this.1, hpl, this.2⟩
    · rintro σ H' ⟨a4, a5, ps, es, rfl, h1, h2, h3, h4, h5, h6, h7⟩
      exact ⟨a4, a5, ps, es, rfl, h1, h2, h3, h4, h5, by omega, h7⟩
  clear hT hpd4 hB4 kb4 H4
  rintro σ H4 ⟨a4, a5, ps, es, rfl, hB4, kb4, hps, hes, hsl, hl, hP⟩
  -- the lot
  refine ⟨_, rfl, pd, rfl, ⟨_, SqL.of hps⟩, fun D hD => ?_⟩
  refine lcbH (walk_list (K := K) (a := pd) (xs := ps)) (fun i y H => ∃ t e, y = V.ref t ∧ es[i]? = some e ∧ RAt K T.C_Ratio H t e) (fun i y H H' hB k ⟨t, e, a1, a2, a3⟩ => ⟨t, e, a1, a2, a3.kbB hB k⟩) (fun i y H zs zs' hz ⟨t, e, a1, a2, a3⟩ => ⟨t, e, a1, a2, a3.lst hz⟩) (by rw [hes.1]; omega) hB4 hD (fun H' _ kb => SqL.of (kb _ _ hps nd1)) ?_ ?_
  · rintro i x H5 H6 hi kb5 hB5 ⟨rfl, hx⟩ k hk
    obtain ⟨t, e, rfl, he, ht⟩ := hes.2 i x hx
    refine ⟨rfl, ?_⟩
    exact ⟨_, rfl, _, rfl, B, t, e, rfl, hB5, ht.kb hB4 kb5, (hsl e (List.mem_of_getElem? he)).fit, fun t2 H7 hB7 kb7 h7 => hk _ H7 ⟨t2, e, rfl, he, h7⟩ kb7 hB7⟩
  intro ys H5 hyl hys kb5 hB5 hD5
  have hR : Ras K T.C_Ratio H5 ys es := ⟨by rw [hyl, hes.1], hys⟩
  have hps5 := kb5 _ _ hps nd1
  have hes5 := hes.kb hB4 kb5
  have kbH5 := kb4.trans kb5
  clear hys hyl hD hes hps hB4 kb4 kb5 hP H4
  have h40 : es.length ≤ 1000 := by omega
  have hS : Smalls es := hsl
  have hF : Far es := far_small hS
  -- what was seen
  refine ⟨_, rfl, .inl ⟨D, ys, es, rfl, SqL.of hD5, hR, h40, fun tk ks H6 s6 hks hkI => ?_⟩⟩
  have hR6 := hR.same s6
  have hD6 := s6 _ _ hD5
  have hps6 := s6 _ _ hps5
  have hes6 := hes5.same s6
  have hB6 := hB5.same s6
  have kbH6 := kbH5.trans (Kb.same s6)
  clear hR hD5 hps5 hes5 hB5 kbH5 s6 H5
  -- the different ones
  refine ⟨(by show 0 ≤ sizeLine; decide), fun p8 hp8 => ?_⟩
  refine ⟨fun σ H' => ∃ a5 os gs, σ = [some (.ref B.b), some (.int (n : Int)), some (.ref pd), some (.ref pp), a4, a5, some (.ref D), some (.ref tk), some (.ref p8), none, none, none, none] ∧ Same H6 H' ∧ H' p8 = some (.lst os) ∧ Ones K H' os gs ∧ gs.Nodup ∧ gs.length ≤ 40 ∧ ∀ e, e ∈ gs ↔ e ∈ es, ?_, ?_⟩
  · refine ⟨_, rfl, pd, rfl, ⟨_, (Same.new hp8).seq (SqL.of hps6)⟩, for_it (walk_list (K := K) (a := pd) (xs := ps)) (fun i σ H' => ∃ a5 os gs, σ = [some (.ref B.b), some (.int (n : Int)), some (.ref pd), some (.ref pp), a4, a5, some (.ref D), some (.ref tk), some (.ref p8), none, none, none, none] ∧ Same H6 H' ∧ H' p8 = some (.lst os) ∧ Ones K H' os gs ∧ gs.Nodup ∧ gs.length ≤ i ∧ ∀ e, e ∈ gs ↔ e ∈ es.take i) ⟨_, [], [], rfl, Same.new hp8, upd_same, ⟨rfl, fun i v hv => by cases hv⟩, List.nodup_nil, Nat.le_refl _, fun e => by rw [List.take_zero]⟩ (fun _ _ _ _ h => by obtain ⟨_, _, _, _, s, _⟩ := h; exact s.seq (SqL.of hps6)) ?_ ?_⟩
    · rintro i v σ H7 H8 hi ⟨a5, os, gs, rfl, s7, hos, hO, hN, hgl, hM⟩ ⟨rfl, hv⟩
      obtain ⟨t, e, rfl, he, ht⟩ := hes6.2 i v hv
      have hel := (hS e (List.mem_of_getElem? he)).1
      have hg6 : ∀ g ∈ gs, g.length = 6 := fun g hg => (hS g (List.mem_of_mem_take ((hM g).mp hg))).1
      refine ⟨_, rfl, (by show 1 ≤ sizeLine; decide), fun tp htp => ?_⟩
      have s8 := Same.new (o := .tup [.ref t]) htp
      have h1 : OneAt K (upd H8 tp (.tup [.ref t])) tp e := ⟨t, SqT.of upd_same, (ht.same s7).same s8⟩
      refine ⟨_, rfl, dE e, gs.map dE, one_dp h1, .lst (SqL.of (s8 _ _ hos)) (ones_dp (hO.same s8)), shaped_dE e, shaped_all gs, ?_⟩
      rw [any_dE hg6 hel]
      refine ⟨_, rfl, ?_⟩
      refine ite2 (fun c => ?_) (fun c => ?_)
      · have hne : e ∉ gs := fun z => by
          rw [decide_eq_true z] at c
          cases c
        refine ⟨_, rfl, .inl ⟨rfl, _, SqL.of (s8 _ _ hos)⟩, _, rfl, (by show 1 ≤ sizeLine; decide), fun tq htq => ?_⟩
        have s9 := s8.trans (Same.new (o := .tup [.ref t]) htq)
        have h2 : OneAt K (upd (upd H8 tp (.tup [.ref t])) tq (.tup [.ref t])) tq e := ⟨t, SqT.of upd_same, (ht.same s7).same s9⟩
        have hos9 := s9 _ _ hos
        refine ⟨p8, os, _, rfl, rfl, hos9, small1000 (by rw [hO.1]; have : es.length ≤ 40 := hl; have : ps.length = es.length := hes6.1; omega), ?_⟩
        refine ⟨_, os ++ [.ref tq], gs ++ [e], rfl, fun c o h => ?_, upd_same, ((hO.same s9).lst hos9).append (Ones.one (h2.lst hos9)), ?_, ?_, fun f => ?_⟩
        · rw [upd_ne (ne_of_none h hp8)]
          exact s9 _ _ (s7 _ _ h)
        · rw [List.nodup_append]
          exact ⟨hN, (by simp), fun a ha b hb z => hne (by rw [List.mem_singleton.mp hb] at z; exact z ▸ ha)⟩
        · rw [List.length_append, List.length_singleton]
          omega
        · rw [take_snoc he, List.mem_append, List.mem_append, hM]
      · have hin : e ∈ gs := Decidable.byContradiction fun z => by
          rw [decide_eq_false z] at c
          exact c rfl
        refine ⟨_, os, gs, rfl, s7.trans s8, s8 _ _ hos, hO.same s8, hN, by omega, fun f => ?_⟩
        rw [take_snoc he, List.mem_append, ← hM, List.mem_singleton]
        exact ⟨.inl, fun z => z.elim id fun z => z ▸ hin⟩
    · rintro σ H7 ⟨a5, os, gs, rfl, s7, hos, hO, hN, hgl, hM⟩
      have ew : es.take ps.length = es := by rw [hes6.1, List.take_length]
      rw [ew] at hM
      exact ⟨a5, os, gs, rfl, s7, hos, hO, hN, by have : ps.length = es.length := hes6.1; omega, hM⟩
  rintro σ H7 ⟨a5, os, gs, rfl, s7, hos, hO, hN, hgl, hM⟩
  have hR7 := hR6.same s7
  have hD7 := s7 _ _ hD6
  have hps7 := s7 _ _ hps6
  have hes7 := hes6.same s7
  have hB7 := hB6.same s7
  have kbH7 := kbH6.trans (Kb.same s7)
  have hks7 := s7 _ _ hks
  have hkI7 := hkI.same2 s7
  clear hR6 hD6 hps6 hes6 hB6 kbH6 s7 hp8 hks hkI H6
  -- what is due
  have hSg : Smalls gs := fun g hg => hS g ((hM g).mp hg)
  refine ⟨_, rfl, p8, os, gs, rfl, SqL.of hos, hO, by omega, hSg, hN, fun tr rs hs H8 s8 hrs hOr hA hAl => ?_⟩
  have hA2 : Asc es hs := ⟨hA.asc, fun e => by rw [hA.mem, hM]⟩
  refine ⟨tr, rfl, ⟨_, SqL.of hrs⟩, fun D9 hD9 => ?_⟩
  refine lcs (walk_list (K := K) (a := tr) (xs := rs)) (fun i y H => ∃ t e, y = V.ref t ∧ hs[i]? = some e ∧ IsAt K H t e) (fun i y H1 H2 s1 ⟨t, e, a1, a2, a3⟩ => ⟨t, e, a1, a2, seqT s1 a3⟩) (fun i y H1 zs zs' hz' ⟨t, e, a1, a2, a3⟩ => ⟨t, e, a1, a2, seqT_lst hz' a3⟩) (by rw [hOr.1, hAl]; omega) hD9 (fun H1 s1 => s1.seq (SqL.of hrs)) ?_ ?_
  · rintro i x H9 H10 hi s9 ⟨rfl, hx⟩ k hk
    obtain ⟨t, e, rfl, he, p, ht1, ht2⟩ := hOr.2 i x hx
    refine ⟨rfl, ?_⟩
    exact ⟨_, rfl, t, _, _, _, rfl, rfl, seqT s9 ht1, rfl, p, e, rfl, ht2.same s9, fun t2 H11 s11 h11 => hk _ H11 s11 ⟨t2, e, rfl, he, h11⟩⟩
  intro zs H9 hzl hzs s9 hD9'
  have hI9 : Iss K H9 zs hs := ⟨by rw [hzl, hOr.1], hzs⟩
  have s79 := s8.trans s9
  have hR9 := hR7.same s79
  have hDD := s79 _ _ hD7
  have hps9 := s79 _ _ hps7
  have hes9 := hes7.same s79
  have hB9 := hB7.same s79
  have kbH9 := kbH7.trans (Kb.same s79)
  have hks9 := s79 _ _ hks7
  have hkI9 := hkI7.same2 s79
  clear hR7 hD7 hps7 hes7 hB7 kbH7 s79 s8 s9 hks7 hkI7 hzs hzl hD9 hrs hOr hos hO hSg hA H7
  have hhl : hs.length ≤ 40 := by omega
  -- the product
  refine ⟨_, rfl, pd, ps, es, rfl, SqL.of hps9, hes9, by omega, hS, fun tS H10 s10 htS => ?_⟩
  refine ⟨tS, sumE es, rfl, htS, fun tP H11 s11 htP => ?_⟩
  have s911 := s10.trans s11
  have hR := hR9.same s911
  have hDD1 := s911 _ _ hDD
  have hW := wide_sl hsl (by omega)
  have hW0 : Wide [] := wide_sl (fun e he => by cases he) (Nat.zero_le _)
  -- what is told
  refine ⟨_, rfl, .inl ⟨D, ys, es, rfl, SqL.of hDD1, hR, h40, hW, fun m1 H12 s12 hm1 => ?_⟩⟩
  refine ⟨_, rfl, D, ys, rfl, .inl (SqL.of (s12 _ _ hDD1)), fun dt H13 s13 hdt => ?_⟩
  have s1113 := s12.trans s13
  refine .inr ⟨dt, ys, es, rfl, hdt, hR.same s1113, h40, hW, fun m2 H14 s14 hm2 => ?_⟩
  have s1114 := s1113.trans s14
  refine ⟨_, rfl, .inl ⟨D, ys, es, rfl, SqL.of (s1114 _ _ hDD1), hR.same s1114, h40, hW, fun m3 H15 s15 hm3 => ?_⟩⟩
  have s1115 := s1114.trans s15
  refine ⟨(by show 0 ≤ sizeLine; decide), fun d0 hd0 => ?_⟩
  have s1116 := s1115.trans (Same.new (o := .lst []) hd0)
  refine .inl ⟨d0, [], [], rfl, SqL.of upd_same, ras_nil, by decide, hW0, fun m4 H17 s17 hm4 => ?_⟩
  refine ⟨(by show 4 ≤ sizeLine; decide), fun p11 hp11 => ?_⟩
  have sx := Same.new (o := .lst [.ref m1, .ref m2, .ref m3, .ref m4]) hp11
  have sA := s1116.trans (s17.trans sx)
  have hm : Ras K T.C_Ratio (upd H17 p11 (.lst [.ref m1, .ref m2, .ref m3, .ref m4])) [.ref m1, .ref m2, .ref m3, .ref m4] [sumE es, sumE es, sumE es, sumE []] :=
    ras_cons (hm1.same ((s13.trans s14).trans (s15.trans ((Same.new hd0).trans (s17.trans sx))))) (ras_cons (hm2.same (s15.trans ((Same.new hd0).trans (s17.trans sx)))) (ras_cons (hm3.same ((Same.new hd0).trans (s17.trans sx))) (ras_cons (hm4.same sx) ras_nil)))
  refine ⟨_, rfl, .inl ⟨p11, _, _, rfl, SqL.of upd_same, hm, (by show 4 ≤ 1000; decide), fun ts qs H18 s18 hqs hI => ?_⟩⟩
  refine ⟨_, rfl, _, rfl, _, rfl, (by show 3 ≤ sizeLine; decide), fun p1 hp1 => ⟨(by show 4 ≤ sizeLine; decide), fun p2 hp2 => ?_⟩⟩
  have sB := (Same.new (o := .tup [.str (Str.ofString "is"), .int 1, .int 1]) hp1).trans (Same.new (o := .lst [.ref tP, .ref tP, .ref tP, .ref p1]) hp2)
  have hP1 : IsAt K (upd (upd H18 p1 (.tup [.str (Str.ofString "is"), .int 1, .int 1])) p2 (.lst [.ref tP, .ref tP, .ref tP, .ref p1])) p1 (sumE []) := seqT (Same.new hp2) (SqT.of upd_same)
  have hP11 := seqT (sA.trans (s18.trans sB)) htP
  refine ⟨3, _, _, rfl, by decide, Iss.deq (n := 1) (SqL.of (sB _ _ hqs)) (SqL.of upd_same) (hI.same2 sB) (iss_cons hP11 (iss_cons hP11 (iss_cons hP11 (iss_cons hP1 iss_nil)))) (by show 4 ≤ 1000; decide), fun H19 s19 => ⟨true, rfl, ?_⟩⟩
  refine iteF' (c := !true) rfl ?_
  unfold tNext
  dsimp only
  have sT := (sA.trans (s18.trans sB)).trans s19
  have sT9 := s911.trans sT
  have hR19 := hR.same sT
  have hD19 := sT _ _ hDD1
  have hI19 := hI9.same2 sT9
  have hz19 := sT9 _ _ hD9'
  have hB19 := hB9.same sT9
  have kb19 := kbH9.trans (Kb.same sT9)
  have hks19 := sT9 _ _ hks9
  have hkI19 := hkI9.same2 sT9
  clear hP1 hP11 hm hm1 hm2 hm3 hm4 hdt hqs hI htP htS hR hDD1 hW hW0 s911 s10 s11 s12 s13 s14 s15 s17 s18 s1113 s1114 s1115 s1116 sx sA sB s19 sT sT9 hR9 hDD hes9 hps9 hB9 kbH9 hks9 hkI9 hI9 hD9' hd0 hp11 hp1 hp2
  -- the order
  refine ⟨_, rfl, .inl ⟨D, ys, es, rfl, SqL.of hD19, hR19, h40, hF, fun ta fs gs' H20 s20 hfs hta hfR hfA => ?_⟩⟩
  obtain rfl : gs' = hs := asc_one hfA.asc hA2.asc fun e => by rw [hfA.mem, hA2.mem]
  have hR20 := hR19.same s20
  have hD20 := s20 _ _ hD19
  have hI20 := hI19.same2 s20
  have hz20 := s20 _ _ hz19
  have hB20 := hB19.same s20
  have kb20 := kb19.trans (Kb.same s20)
  have hks20 := s20 _ _ hks19
  have hkI20 := hkI19.same2 s20
  have ntB : ta ≠ B.b := hB19.nb hta
  have ntL : ta ≠ B.L := hB19.nL hta
  have ntD : D ≠ ta := ne_of_none hD19 hta
  have ntz : D9 ≠ ta := ne_of_none hz19 hta
  have ntk : tk ≠ ta := ne_of_none hks19 hta
  have hta0 : H ta = none ∨ ta = B.b := by
    by_cases c : ta = B.b
    · exact .inr c
    · cases e : H ta with
      | none => exact .inl rfl
      | some o =>
        have := kb19 _ _ e c
        rw [hta] at this
        cases this
  clear hR19 hD19 hI19 hz19 hB19 kb19 hks19 hkI19 s20 hta
  have hsS : Smalls gs' := fun g hg => hS g ((hA2.mem g).mp hg)
  have hsF : Far gs' := far_small hsS
  have hs1000 : gs'.length ≤ 1000 := by omega
  have hfl0 : fs.length < sizeLine := small1000 (by rw [hfR.1]; omega)
  -- the first question
  refine ⟨_, rfl, _, rfl, D, ys, rfl, .inl (SqL.of hD20), fun dt H21 s21 hdt => ?_⟩
  refine .inr ⟨dt, ys, es, rfl, hdt, hR20.same s21, h40, hF, fun u1 us1 g1 H22 s22 hu1 _ huR1 huA1 => ?_⟩
  obtain rfl : g1 = gs' := asc_one huA1.asc hA2.asc fun e => by rw [huA1.mem, hA2.mem]
  refine ⟨(by show 0 ≤ sizeLine; decide), fun d0 hd0 => ?_⟩
  refine .inl ⟨d0, [], [], rfl, SqL.of upd_same, ras_nil, by decide, far_small (fun e he => by cases he), fun u2 us2 g2 H24 s24 hu2 _ huR2 huA2 => ?_⟩
  obtain rfl : g2 = [] := asc_one huA2.asc List.Pairwise.nil fun e => huA2.mem e
  have s2224 := (Same.new (o := .lst []) hd0).trans s24
  refine ⟨(by show 3 ≤ sizeLine; decide), fun p3 hp3 => ?_⟩
  have sx := Same.new (o := .lst [.ref ta, .ref u1, .ref u2]) hp3
  have sA := (s21.trans s22).trans (s2224.trans sx)
  refine .inr ⟨p3, [.ref ta, .ref u1, .ref u2], [g1, g1, []], rfl, SqL.of upd_same, rss_cons (SqL.of (sA _ _ hfs)) (hfR.same sA) hs1000 (rss_cons (SqL.of ((s2224.trans sx) _ _ hu1)) (huR1.same (s2224.trans sx)) hs1000 (rss_cons (SqL.of (sx _ _ hu2)) (huR2.same sx) (by decide) rss_nil)), (by show 3 ≤ 1000; decide), fun ts qs H25 s25 hqs hI => ?_⟩
  refine ⟨_, rfl, _, rfl, (by show 0 ≤ sizeLine; decide), fun p4 hp4 => ⟨(by show 3 ≤ sizeLine; decide), fun p5 hp5 => ?_⟩⟩
  have sB := (Same.new (o := .lst []) hp4).trans (Same.new (o := .lst [.ref D9, .ref D9, .ref p4]) hp5)
  have sT := sA.trans (s25.trans sB)
  have hIz := hI20.same2 sT
  have hzz := SqL.of (K := K) (sT _ _ hz20)
  refine ⟨3, _, _, rfl, by decide, Isss.deq (n := 0) (SqL.of (sB _ _ hqs)) (SqL.of upd_same) (hI.same2 sB) (isss_cons hzz hIz (isss_cons hzz hIz (isss_cons (SqL.of ((Same.new hp5) _ _ upd_same)) iss_nil isss_nil))) (by show 3 ≤ 1000; decide) (by intro es he; simp only [List.mem_cons, List.not_mem_nil, or_false] at he; rcases he with rfl | rfl | rfl; exact hs1000; exact hs1000; decide), fun H26 s26 => ⟨true, rfl, ?_⟩⟩
  refine iteF' (c := !true) rfl ?_
  dsimp only
  have sU := sT.trans s26
  have hR26 := hR20.same sU
  have hD26 := sU _ _ hD20
  have hI26 := hI20.same2 sU
  have hz26 := sU _ _ hz20
  have hB26 := hB20.same sU
  have kb26 := kb20.trans (Kb.same sU)
  have hks26 := sU _ _ hks20
  have hkI26 := hkI20.same2 sU
  have hfs26 := sU _ _ hfs
  have hfR26 := hfR.same sU
  clear hR20 hD20 hI20 hz20 hB20 kb20 hks20 hkI20 hfs hfR hI hqs huR1 huR2 hu1 hu2 hdt hIz hzz s21 s22 s2224 s24 s25 s26 sx sA sB sT sU hd0 hp3 hp4 hp5 huA1 huA2
  -- the second question
  refine ⟨_, rfl, .inl ⟨ta, fs, g1, rfl, SqL.of hfs26, hfR26, hs1000, hsF, fun u1 us1 g3 H27 s27 hu1 _ huR1 huA1 => ?_⟩⟩
  obtain rfl : g3 = g1 := asc_one huA1.asc hA2.asc fun e => by rw [huA1.mem, hA2.mem]
  refine ⟨_, rfl, _, rfl, D, ta, ys, fs, rfl, rfl, s27 _ _ hD26, s27 _ _ hfs26, ?_, fun pc hpc => ?_⟩
  · rw [hR26.1, hfR26.1]
    exact Nat.le_of_lt (small1000 (by omega))
  have s28 := Same.new (o := .lst (ys ++ fs)) hpc
  have hRc : Ras K T.C_Ratio (upd H27 pc (.lst (ys ++ fs))) (ys ++ fs) (es ++ g3) := (hR26.same (s27.trans s28)).app (hfR26.same (s27.trans s28))
  have hFc : Far (es ++ g3) := far_small fun e he => (List.mem_append.mp he).elim (hS e) (hsS e)
  refine .inl ⟨pc, ys ++ fs, es ++ g3, rfl, SqL.of upd_same, hRc, by rw [List.length_append]; omega, hFc, fun u2 us2 g4 H29 s29 hu2 _ huR2 huA2 => ?_⟩
  obtain rfl : g4 = g3 := asc_one huA2.asc hA2.asc fun e => by
    rw [huA2.mem, List.mem_append, hA2.mem]
    exact ⟨fun h => h.elim id id, .inl⟩
  refine ⟨(by show 2 ≤ sizeLine; decide), fun p3 hp3 => ?_⟩
  have sx := Same.new (o := .lst [.ref u1, .ref u2]) hp3
  have sA := s27.trans ((s28.trans s29).trans sx)
  refine .inr ⟨p3, [.ref u1, .ref u2], [g4, g4], rfl, SqL.of upd_same, rss_cons (SqL.of (((s28.trans s29).trans sx) _ _ hu1)) (huR1.same ((s28.trans s29).trans sx)) hs1000 (rss_cons (SqL.of (sx _ _ hu2)) (huR2.same sx) hs1000 rss_nil), (by show 2 ≤ 1000; decide), fun ts qs H30 s30 hqs hI => ?_⟩
  refine ⟨_, rfl, _, rfl, (by show 2 ≤ sizeLine; decide), fun p5 hp5 => ?_⟩
  have sB := Same.new (o := .lst [.ref D9, .ref D9]) hp5
  have sT := sA.trans (s30.trans sB)
  have hIz := hI26.same2 sT
  have hzz := SqL.of (K := K) (sT _ _ hz26)
  refine ⟨3, _, _, rfl, by decide, Isss.deq (n := 0) (SqL.of (sB _ _ hqs)) (SqL.of upd_same) (hI.same2 sB) (isss_cons hzz hIz (isss_cons hzz hIz isss_nil)) (by show 2 ≤ 1000; decide) (by intro es he; simp only [List.mem_cons, List.not_mem_nil, or_false] at he; rcases he with rfl | rfl <;> exact hs1000), fun H31 s31 => ⟨true, rfl, ?_⟩⟩
  refine iteF' (c := !true) rfl ?_
  dsimp only
  have sU := sT.trans s31
  replace hR26 := hR26.same sU
  replace hD26 := sU _ _ hD26
  replace hI26 := hI26.same2 sU
  replace hz26 := sU _ _ hz26
  replace hB26 := hB26.same sU
  replace kb26 := kb26.trans (Kb.same sU)
  replace hks26 := sU _ _ hks26
  replace hkI26 := hkI26.same2 sU
  replace hfs26 := sU _ _ hfs26
  clear hI hqs huR1 huR2 hu1 hu2 hIz hzz s27 s28 s29 s30 s31 sx sA sB sT sU hpc hp3 hp5 huA1 huA2 hfR26 hRc hFc
  -- the answer is changed
  refine ⟨_, rfl, .inl ⟨rfl, _, SqL.of hfs26⟩, ?_⟩
  intro x dx nx ndx nex
  refine ⟨x, dx, 1, one2, rfl, upd_same, by decide, Nat.lt_trans (by decide : 1 < 2 ^ 1) (Nat.pow_lt_pow_right (by decide) (by decide)), rfl, fun H32 r2 kp => ⟨rfl, ?_⟩⟩
  have s0 : Same H31 (upd (upd H31 dx (.own x)) x (.ins T.C_Ratio dx [])) := fun b o z => by
    rw [upd_ne (ne_of_none z nx), upd_ne (ne_of_none z ndx)]
    exact z
  have s32 : Same H31 H32 := fun b o z => kp b o (s0 b o z) (ne_of_none z nx)
  refine ⟨ta, fs, _, rfl, rfl, s32 _ _ hfs26, hfl0, ?_⟩
  refine ⟨_, rfl, .inl ⟨rfl, _, SqL.of upd_same⟩, ta, _, rfl, rfl, upd_same, ?_⟩
  dsimp only
  have hT1 : ∀ c o, H32 c = some o → c ≠ ta → (upd (upd H32 ta (.lst (fs ++ [V.ref x]))) ta (.lst (fs ++ [V.ref x]).reverse)) c = some o := fun c o h n => by
    rw [upd_ne n, upd_ne n]
    exact h
  have hg : (upd H32 ta (.lst (fs ++ [V.ref x]))) ta = some (.lst (fs ++ [V.ref x])) := upd_same
  have hR := ((hR26.same s32).lst (zs' := fs ++ [V.ref x]) (s32 _ _ hfs26)).lst (zs' := (fs ++ [V.ref x]).reverse) hg
  have hI := ((hI26.same2 s32).lst2 (zs' := fs ++ [V.ref x]) (s32 _ _ hfs26)).lst2 (zs' := (fs ++ [V.ref x]).reverse) hg
  have hkI := ((hkI26.same2 s32).lst2 (zs' := fs ++ [V.ref x]) (s32 _ _ hfs26)).lst2 (zs' := (fs ++ [V.ref x]).reverse) hg
  have hD := hT1 _ _ (s32 _ _ hD26) ntD
  have hz := hT1 _ _ (s32 _ _ hz26) ntz
  have hks := hT1 _ _ (s32 _ _ hks26) ntk
  have hB := ((hB26.same s32).upd (o := .lst (fs ++ [V.ref x])) ntB ntL).upd (o := .lst (fs ++ [V.ref x]).reverse) ntB ntL
  have kb : Kb B.b H (upd (upd H32 ta (.lst (fs ++ [V.ref x]))) ta (.lst (fs ++ [V.ref x]).reverse)) := fun c o h n => by
    refine hT1 c o (s32 _ _ (kb26 _ _ h n)) fun z => ?_
    rcases hta0 with e | e
    · rw [z, e] at h
      cases h
    · exact ntB e
  clear hT1 hg hR26 hI26 hkI26 hD26 hz26 hks26 hB26 kb26 hfs26 s32 s0 kp r2 nex nx ndx hfl0
  generalize upd (upd H32 ta (.lst (fs ++ [V.ref x]))) ta (.lst (fs ++ [V.ref x]).reverse) = H33 at *
  refine ⟨_, rfl, .inl ⟨D, ys, es, rfl, SqL.of hD, hR, h40, hF, fun u1 us1 g3 H34 s34 hu1 _ huR1 huA1 => ?_⟩⟩
  obtain rfl : g3 = g4 := asc_one huA1.asc hA2.asc fun e => by rw [huA1.mem, hA2.mem]
  refine ⟨_, rfl, (by show 2 ≤ sizeLine; decide), fun p3 hp3 => ?_⟩
  have sx := Same.new (o := .lst [.ref u1, .ref D]) hp3
  have sA := s34.trans sx
  refine .inr ⟨p3, [.ref u1, .ref D], [g3, es], rfl, SqL.of upd_same, rss_cons (SqL.of (sx _ _ hu1)) (huR1.same sx) hs1000 (rss_cons (SqL.of (sA _ _ hD)) (hR.same sA) h40 rss_nil), (by show 2 ≤ 1000; decide), fun ts qs H35 s35 hqs hJ => ?_⟩
  refine ⟨_, rfl, _, rfl, (by show 2 ≤ sizeLine; decide), fun p5 hp5 => ?_⟩
  have sB := Same.new (o := .lst [.ref D9, .ref tk]) hp5
  have sT := sA.trans (s35.trans sB)
  refine ⟨3, _, _, rfl, by decide, Isss.deq (n := 0) (SqL.of (sB _ _ hqs)) (SqL.of upd_same) (hJ.same2 sB) (isss_cons (SqL.of (sT _ _ hz)) (hI.same2 sT) (isss_cons (SqL.of (sT _ _ hks)) (hkI.same2 sT) isss_nil)) (by show 2 ≤ 1000; decide) (by intro es he; simp only [List.mem_cons, List.not_mem_nil, or_false] at he; rcases he with rfl | rfl; exact hs1000; exact h40), fun H36 s36 => ?_⟩
  exact q H36 (hB.same (sT.trans s36)) (kb.trans (Kb.same (sT.trans s36)))
end
end TL
namespace TL
open PySem
theorem kit_no {K : PySem.W.Frag} {t : String} {C : Addr} (h1 : PySem.W.isClsIn K C = true) (h2 : PySem.W.typeIn K (.ref C) = some (.type "type")) (h3 : PySem.W.subIn K (.type t) (.ref C) = some false) : PySem.W.kitOne K (.type t) (.ref C) = some false := by
  unfold PySem.W.kitOne
  have hn : ¬ (Value.type t == Value.ref C) = true := fun e => by cases (beq_iff_eq.mp e)
  rw [if_neg hn]
  show (if ((PySem.W.clsIn K C).isSome && PySem.W.typeIn K (.ref C) == some (.type "type")) = true then PySem.W.subIn K (.type t) (.ref C) else none) = _
  rw [if_pos ?_, h3]
  rw [h2, show (PySem.W.clsIn K C).isSome = true from h1, beq_self_eq_true]
  rfl
end TL
namespace TL
open PySem L2

/-! ### steps of a reading -/
local macro_rules | `(tactic| walk_at "hp") => `(tactic| first | assumption | exact upd_same | (refine (upd_ne (by first | assumption | (exact Ne.symm (by assumption)))).trans ?_; walk_at "hp"))
local macro_rules | `(tactic| walk_at "ok") => `(tactic| first | (exact Or.inr ⟨by decide, by decide⟩) | (exact ⟨by decide, by decide⟩) | (exact ⟨by decide, by decide, by decide⟩) | (show _ ≠ _; omega) | (show _ ≠ _; decide) | (exact Or.inl ⟨by omega, by omega⟩) | decide)
local macro_rules | `(tactic| walk_at "sq") => `(tactic| first | assumption | exact SqL.of (by walk_at "hp") | exact SqT.of (by walk_at "hp"))
local macro_rules | `(tactic| walk_at "ty") => `(tactic| first | refine ⟨_, _, Value.type "int", Value.type "list", false, rfl, ClsV.ty _, TyX.base (TyOf.int _), kt_int_list, ?_⟩ | refine ⟨_, _, Value.type "bool", Value.type "list", false, rfl, ClsV.ty _, TyX.base (TyOf.bl _), kt_bool_list, ?_⟩ | refine ⟨_, _, Value.type "str", Value.type "list", false, rfl, ClsV.ty _, TyX.base (TyOf.str _), kt_str_list, ?_⟩ | refine ⟨_, _, Value.type "NoneType", Value.type "list", false, rfl, ClsV.ty _, TyX.base TyOf.non, kt_NoneType_list, ?_⟩ | refine ⟨_, _, Value.type "list", Value.type "list", true, rfl, ClsV.ty _, tyx_L (by walk_at "sq"), kt_list_list, ?_⟩ | refine ⟨_, _, Value.type "tuple", Value.type "list", false, rfl, ClsV.ty _, tyx_T (by walk_at "sq"), kt_tuple_list, ?_⟩ | refine ⟨_, _, Value.type "int", Value.type "tuple", false, rfl, ClsV.ty _, TyX.base (TyOf.int _), kt_int_tuple, ?_⟩ | refine ⟨_, _, Value.type "bool", Value.type "tuple", false, rfl, ClsV.ty _, TyX.base (TyOf.bl _), kt_bool_tuple, ?_⟩ | refine ⟨_, _, Value.type "str", Value.type "tuple", false, rfl, ClsV.ty _, TyX.base (TyOf.str _), kt_str_tuple, ?_⟩ | refine ⟨_, _, Value.type "NoneType", Value.type "tuple", false, rfl, ClsV.ty _, TyX.base TyOf.non, kt_NoneType_tuple, ?_⟩ | refine ⟨_, _, Value.type "list", Value.type "tuple", false, rfl, ClsV.ty _, tyx_L (by walk_at "sq"), kt_list_tuple, ?_⟩ | refine ⟨_, _, Value.type "tuple", Value.type "tuple", true, rfl, ClsV.ty _, tyx_T (by walk_at "sq"), kt_tuple_tuple, ?_⟩ | refine ⟨_, _, Value.type "int", Value.type "bool", false, rfl, ClsV.ty _, TyX.base (TyOf.int _), kt_int_bool, ?_⟩ | refine ⟨_, _, Value.type "bool", Value.type "bool", true, rfl, ClsV.ty _, TyX.base (TyOf.bl _), kt_bool_bool, ?_⟩ | refine ⟨_, _, Value.type "str", Value.type "bool", false, rfl, ClsV.ty _, TyX.base (TyOf.str _), kt_str_bool, ?_⟩ | refine ⟨_, _, Value.type "NoneType", Value.type "bool", false, rfl, ClsV.ty _, TyX.base TyOf.non, kt_NoneType_bool, ?_⟩ | refine ⟨_, _, Value.type "list", Value.type "bool", false, rfl, ClsV.ty _, tyx_L (by walk_at "sq"), kt_list_bool, ?_⟩ | refine ⟨_, _, Value.type "tuple", Value.type "bool", false, rfl, ClsV.ty _, tyx_T (by walk_at "sq"), kt_tuple_bool, ?_⟩ | refine ⟨_, _, Value.type "int", Value.type "int", true, rfl, ClsV.ty _, TyX.base (TyOf.int _), kt_int_int, ?_⟩ | refine ⟨_, _, Value.type "bool", Value.type "int", true, rfl, ClsV.ty _, TyX.base (TyOf.bl _), kt_bool_int, ?_⟩ | refine ⟨_, _, Value.type "str", Value.type "int", false, rfl, ClsV.ty _, TyX.base (TyOf.str _), kt_str_int, ?_⟩ | refine ⟨_, _, Value.type "NoneType", Value.type "int", false, rfl, ClsV.ty _, TyX.base TyOf.non, kt_NoneType_int, ?_⟩ | refine ⟨_, _, Value.type "list", Value.type "int", false, rfl, ClsV.ty _, tyx_L (by walk_at "sq"), kt_list_int, ?_⟩ | refine ⟨_, _, Value.type "tuple", Value.type "int", false, rfl, ClsV.ty _, tyx_T (by walk_at "sq"), kt_tuple_int, ?_⟩ | refine ⟨_, _, Value.type "int", Value.type "str", false, rfl, ClsV.ty _, TyX.base (TyOf.int _), kt_int_str, ?_⟩ | refine ⟨_, _, Value.type "bool", Value.type "str", false, rfl, ClsV.ty _, TyX.base (TyOf.bl _), kt_bool_str, ?_⟩ | refine ⟨_, _, Value.type "str", Value.type "str", true, rfl, ClsV.ty _, TyX.base (TyOf.str _), kt_str_str, ?_⟩ | refine ⟨_, _, Value.type "NoneType", Value.type "str", false, rfl, ClsV.ty _, TyX.base TyOf.non, kt_NoneType_str, ?_⟩ | refine ⟨_, _, Value.type "list", Value.type "str", false, rfl, ClsV.ty _, tyx_L (by walk_at "sq"), kt_list_str, ?_⟩ | refine ⟨_, _, Value.type "tuple", Value.type "str", false, rfl, ClsV.ty _, tyx_T (by walk_at "sq"), kt_tuple_str, ?_⟩)
local macro_rules | `(tactic| walk_at "go1") => `(tactic| first
  | (refine ⟨_, rfl, ?_⟩)
  | (refine ⟨_, _, rfl, rfl, ?_⟩)
  | (refine ⟨_, _, _, _, rfl, rfl, SqL.of (by walk_at "hp"), rfl, ?_⟩)
  | (refine Or.inl ⟨_, rfl, ?_⟩)
  | (refine ⟨rfl, ?_⟩)
  | (refine ⟨_, _, rfl, .inl (SqL.of (by walk_at "hp")), ?_⟩)
  | (refine ⟨_, _, rfl, Or.inl (by assumption), ?_⟩)
  | (refine ⟨_, _, rfl, Or.inr (by assumption), ?_⟩)
  | (refine ⟨(by walk_at "ok"), ?_⟩)
  | (refine ⟨_, _, _, _, rfl, rfl, (by walk_at "hp"), rfl, ?_⟩))
local macro_rules | `(tactic| walk_at "go") => `(tactic| repeat (walk_at "go1"))
local macro_rules | `(tactic| walk_at "gt") => `(tactic| repeat (first | walk_at "go1" | walk_at "ty"))

section
variable {P : Program} {w : World} {K : PySem.W.Frag} {mg : Str → Option Value} {base : Heap}
def spLaw (K : PySem.W.Frag) : Sp := fun vs H Q _ => ∃ (a : Addr) (ns : List Int), vs = [.ref a] ∧ SqL K H a (ns.map V.int) ∧ ns.length ≤ 63 ∧ ∀ H', Q (.bl true) H'
-- [0=_law_script, 1=_law_bag_here, 2=_law_turn]
theorem ok_law (T : Tx K mg) : FnOk P w K mg base CX0 10 T.f_law T.d_law ["_law_script"] (spLaw K) := by
  have G_l_bag := ok_bag (P := P) (w := w) (base := base) T
  have G_l_list_so := ok_l_list_so (P := P) (w := w) (base := base) T
  have G_l_tone_so := ok_l_tone_so (P := P) (w := w) (base := base) T
  refine T.F_law.ok sc_law (fun vs H Q E h => ?_) (fun cdv A outer s H vs Q E hr h => ?_)
  · obtain ⟨a, ns, rfl, _⟩ := h
    rfl
  obtain ⟨a, ns, rfl, hS, h63, q⟩ := h
  have nd := sc_law.nd
  refine ⟨_, (pss_cons (ps_set (i := 1) nd rfl (Or.inl rfl) (pe_call G_l_bag (hr.mono (by decide)) (by rfl) T.m_l_bag T.F_l_bag.kp T.b_l_bag .nil pass0 (pa_cons (pv 0) pa_nil)))
    (pss_cons (ps_if (pt_not (pt_val (pe_call G_l_list_so hr (by rfl) T.m_l_list_so T.F_l_list_so.kp T.b_l_list_so .nil pass0 (pa_cons (pv 1) pa_nil)))) (pss_one (ps_ret pe_bl)) pss_nil)
    (pss_cons (ps_for PassesOwn.never rfl (pi_range1 (by rfl) T.z_range (pa_cons pe_int pa_nil)) (pg_name (i := 2) nd rfl (Or.inl rfl)) (pss_one (ps_if (pt_not (pt_val (pe_call G_l_tone_so hr (by rfl) T.m_l_tone_so T.F_l_tone_so.kp T.b_l_tone_so .nil pass0 (pa_cons (pv 1) pa_nil)))) (pss_one (ps_ret pe_bl)) pss_nil)))
    (pss_one (ps_ret (pe_call G_l_list_so hr (by rfl) T.m_l_list_so T.F_l_list_so.kp T.b_l_list_so .nil pass0 (pa_cons (pv 1) pa_nil))))))), ?_⟩
  refine ⟨_, rfl, a, ns, rfl, hS, h63, fun B H1 s1 hB1 _ => ?_⟩
  refine ⟨_, rfl, B, rfl, hB1, fun H2 hB2 _ => ⟨true, rfl, ?_⟩⟩
  refine iteF' (c := !true) rfl ?_
  refine ⟨6, rfl, by decide, by decide, for_it (walk_range (lo := 0) (n := 6)) (fun i σ H' => (∃ a2, σ = [some (.ref a), some (.ref B.b), a2]) ∧ Bag B H') ⟨⟨_, rfl⟩, hB2⟩ (fun _ _ _ _ _ => trivial) ?_ ?_⟩
  · rintro i v σ H3 H4 hi ⟨⟨a2, rfl⟩, hB3⟩ ⟨rfl, rfl⟩
    refine ⟨_, rfl, B, rfl, hB3, fun H4 hB4 _ => ⟨true, rfl, ?_⟩⟩
    refine iteF' (c := !true) rfl ?_
    exact ⟨⟨_, rfl⟩, hB4⟩
  · rintro σ H3 ⟨⟨a2, rfl⟩, hB3⟩
    exact ⟨_, rfl, B, rfl, hB3, fun H4 hB4 _ => q H4⟩
end
end TL
namespace TL
open PySem L2
/-! ### the end -/
def TupO (o : Obj) (xs : List V) : Prop := ∃ (its : Array Value) (n : Nat), o.cls = .type "tuple" ∧ o.data = .seq its n ∧ its.size ≤ sizeLine ∧ Vals xs its.toList
theorem tupO_sq {K : PySem.W.Frag} {H : Hp} {a : Addr} {o : Obj} {xs : List V} (l : K.lookup a = some o) (v : TupO o xs) : SqT K H a xs := by
  obtain ⟨its, n, h1, h2, h3, h4⟩ := v
  exact .inr ⟨o, its, n, l, h1, h2, h3, h4⟩
set_option maxHeartbeats 0 in
theorem all_mk {P : Program} {w : World} {K : PySem.W.Frag} {h : Heap} {mg : Str → Option Value} {fa : Addr} {C_Ratio : Addr} {e_PRIMES : Addr} {o_PRIMES : Obj} {e_NO_POWERS : Addr} {o_NO_POWERS : Obj} {e_LOGS : Addr} {o_LOGS : Obj} {t_SLACK : Tok} {t_MANY : Tok} {f1 : Addr} {od1 an1 : Option Addr} {sl1 : Array (Option Value)} {oc1 kV1 dc1 pm1 cd1 ct1 : Value} {f2 : Addr} {od2 an2 : Option Addr} {sl2 : Array (Option Value)} {oc2 kV2 dc2 pm2 cd2 ct2 : Value} {f3 : Addr} {od3 an3 : Option Addr} {sl3 : Array (Option Value)} {oc3 kV3 dc3 pm3 cd3 ct3 : Value} {f4 : Addr} {od4 an4 : Option Addr} {sl4 : Array (Option Value)} {oc4 kV4 dc4 pm4 cd4 ct4 : Value} {dT4 : Addr} {oT4 : Obj} {f5 : Addr} {od5 an5 : Option Addr} {sl5 : Array (Option Value)} {oc5 kV5 dc5 pm5 cd5 ct5 : Value} {f6 : Addr} {od6 an6 : Option Addr} {sl6 : Array (Option Value)} {oc6 kV6 dc6 pm6 cd6 ct6 : Value} {f7 : Addr} {od7 an7 : Option Addr} {sl7 : Array (Option Value)} {oc7 kV7 dc7 pm7 cd7 ct7 : Value} {f8 : Addr} {od8 an8 : Option Addr} {sl8 : Array (Option Value)} {oc8 kV8 dc8 pm8 cd8 ct8 : Value} {f9 : Addr} {od9 an9 : Option Addr} {sl9 : Array (Option Value)} {oc9 kV9 dc9 pm9 cd9 ct9 : Value} {f10 : Addr} {od10 an10 : Option Addr} {sl10 : Array (Option Value)} {oc10 kV10 dc10 pm10 cd10 ct10 : Value} {f11 : Addr} {od11 an11 : Option Addr} {sl11 : Array (Option Value)} {oc11 kV11 dc11 pm11 cd11 ct11 : Value} {f12 : Addr} {od12 an12 : Option Addr} {sl12 : Array (Option Value)} {oc12 kV12 dc12 pm12 cd12 ct12 : Value} {f13 : Addr} {od13 an13 : Option Addr} {sl13 : Array (Option Value)} {oc13 kV13 dc13 pm13 cd13 ct13 : Value} {f14 : Addr} {od14 an14 : Option Addr} {sl14 : Array (Option Value)} {oc14 kV14 dc14 pm14 cd14 ct14 : Value} {f15 : Addr} {od15 an15 : Option Addr} {sl15 : Array (Option Value)} {oc15 kV15 dc15 pm15 cd15 ct15 : Value} {f16 : Addr} {od16 an16 : Option Addr} {sl16 : Array (Option Value)} {oc16 kV16 dc16 pm16 cd16 ct16 : Value} {f17 : Addr} {od17 an17 : Option Addr} {sl17 : Array (Option Value)} {oc17 kV17 dc17 pm17 cd17 ct17 : Value} {f18 : Addr} {od18 an18 : Option Addr} {sl18 : Array (Option Value)} {oc18 kV18 dc18 pm18 cd18 ct18 : Value} {f19 : Addr} {od19 an19 : Option Addr} {sl19 : Array (Option Value)} {oc19 kV19 dc19 pm19 cd19 ct19 : Value} {f20 : Addr} {od20 an20 : Option Addr} {sl20 : Array (Option Value)} {oc20 kV20 dc20 pm20 cd20 ct20 : Value} {f21 : Addr} {od21 an21 : Option Addr} {sl21 : Array (Option Value)} {oc21 kV21 dc21 pm21 cd21 ct21 : Value} {f22 : Addr} {od22 an22 : Option Addr} {sl22 : Array (Option Value)} {oc22 kV22 dc22 pm22 cd22 ct22 : Value} {f23 : Addr} {od23 an23 : Option Addr} {sl23 : Array (Option Value)} {oc23 kV23 dc23 pm23 cd23 ct23 : Value} {f24 : Addr} {od24 an24 : Option Addr} {sl24 : Array (Option Value)} {oc24 kV24 dc24 pm24 cd24 ct24 : Value} {f25 : Addr} {od25 an25 : Option Addr} {sl25 : Array (Option Value)} {oc25 kV25 dc25 pm25 cd25 ct25 : Value} {f26 : Addr} {od26 an26 : Option Addr} {sl26 : Array (Option Value)} {oc26 kV26 dc26 pm26 cd26 ct26 : Value} {f27 : Addr} {od27 an27 : Option Addr} {sl27 : Array (Option Value)} {oc27 kV27 dc27 pm27 cd27 ct27 : Value} {f28 : Addr} {od28 an28 : Option Addr} {sl28 : Array (Option Value)} {oc28 kV28 dc28 pm28 cd28 ct28 : Value} {f29 : Addr} {od29 an29 : Option Addr} {sl29 : Array (Option Value)} {oc29 kV29 dc29 pm29 cd29 ct29 : Value} {f30 : Addr} {od30 an30 : Option Addr} {sl30 : Array (Option Value)} {oc30 kV30 dc30 pm30 cd30 ct30 : Value} {f31 : Addr} {od31 an31 : Option Addr} {sl31 : Array (Option Value)} {oc31 kV31 dc31 pm31 cd31 ct31 : Value} {f32 : Addr} {od32 an32 : Option Addr} {sl32 : Array (Option Value)} {oc32 kV32 dc32 pm32 cd32 ct32 : Value} {f33 : Addr} {od33 an33 : Option Addr} {sl33 : Array (Option Value)} {oc33 kV33 dc33 pm33 cd33 ct33 : Value} {f34 : Addr} {od34 an34 : Option Addr} {sl34 : Array (Option Value)} {oc34 kV34 dc34 pm34 cd34 ct34 : Value} {f35 : Addr} {od35 an35 : Option Addr} {sl35 : Array (Option Value)} {oc35 kV35 dc35 pm35 cd35 ct35 : Value} {f36 : Addr} {od36 an36 : Option Addr} {sl36 : Array (Option Value)} {oc36 kV36 dc36 pm36 cd36 ct36 : Value} {f37 : Addr} {od37 an37 : Option Addr} {sl37 : Array (Option Value)} {oc37 kV37 dc37 pm37 cd37 ct37 : Value} {f38 : Addr} {od38 an38 : Option Addr} {sl38 : Array (Option Value)} {oc38 kV38 dc38 pm38 cd38 ct38 : Value} {f39 : Addr} {od39 an39 : Option Addr} {sl39 : Array (Option Value)} {oc39 kV39 dc39 pm39 cd39 ct39 : Value} {f40 : Addr} {od40 an40 : Option Addr} {sl40 : Array (Option Value)} {oc40 kV40 dc40 pm40 cd40 ct40 : Value} (X : K.In h) (G : h.Ns mainGlobals mg) (hfa : mg "law" = some (.ref fa))
    (z_len : PySem.W.nsIn K mainGlobals "len" = some none)
    (z_abs : PySem.W.nsIn K mainGlobals "abs" = some none)
    (z_int : PySem.W.nsIn K mainGlobals "int" = some none)
    (z_isinstance : PySem.W.nsIn K mainGlobals "isinstance" = some none)
    (z_list : PySem.W.nsIn K mainGlobals "list" = some none)
    (z_tuple : PySem.W.nsIn K mainGlobals "tuple" = some none)
    (z_bool : PySem.W.nsIn K mainGlobals "bool" = some none)
    (z_str : PySem.W.nsIn K mainGlobals "str" = some none)
    (z_all : PySem.W.nsIn K mainGlobals "all" = some none)
    (z_zip : PySem.W.nsIn K mainGlobals "zip" = some none)
    (z_range : PySem.W.nsIn K mainGlobals "range" = some none)
    (z_enumerate : PySem.W.nsIn K mainGlobals "enumerate" = some none)
    (z_divmod : PySem.W.nsIn K mainGlobals "divmod" = some none)
    (z_max : PySem.W.nsIn K mainGlobals "max" = some none)
    (z_min : PySem.W.nsIn K mainGlobals "min" = some none)
    (z_reversed : PySem.W.nsIn K mainGlobals "reversed" = some none)
    (z_sum : PySem.W.nsIn K mainGlobals "sum" = some none)
    (z_sorted : PySem.W.nsIn K mainGlobals "sorted" = some none)
    (aC_Ratio : PySem.W.nsIn K mainGlobals "Ratio" = some (some (.ref C_Ratio)))
    (pg_Ratio : PySem.W.plainGet K C_Ratio Str.empty = true)
    (hd_Ratio : PySem.W.hasDictIn K C_Ratio = true)
    (po_Ratio : PySem.W.plainOver K C_Ratio = true)
    (sa_Ratio : PySem.W.findIn K (.ref C_Ratio) "__setattr__" = some (some (.builtin "object.__setattr__")))
    (n_Ratio_over : PySem.W.findIn K (.ref C_Ratio) "over" = some none)
    (n_Ratio_under : PySem.W.findIn K (.ref C_Ratio) "under" = some none)
    (n_Ratio_powers : PySem.W.findIn K (.ref C_Ratio) "_powers" = some none)
    (ca_Ratio : PySem.W.findIn K (.ref C_Ratio) "__class__" = some (some (.builtin "object.__class__")))
    (cm_Ratio : PySem.W.mroIn K C_Ratio (.type "object") = some true)
    (cn_Ratio : PySem.W.specialIn K (.builtin "object.__class__") "__get__" = some (some (.builtin "getset_descriptor.__get__")))
    (ct_Ratio : PySem.W.takesIn K (.builtin "object.__class__") = some true)
    (aE_PRIMES : PySem.W.nsIn K mainGlobals "PRIMES" = some (some (.ref e_PRIMES)))
    (lE_PRIMES : K.lookup e_PRIMES = some o_PRIMES)
    (vE_PRIMES : TupO o_PRIMES [.int 2, .int 3, .int 5, .int 7, .int 11, .int 13])
    (aE_NO_POWERS : PySem.W.nsIn K mainGlobals "NO_POWERS" = some (some (.ref e_NO_POWERS)))
    (lE_NO_POWERS : K.lookup e_NO_POWERS = some o_NO_POWERS)
    (vE_NO_POWERS : TupO o_NO_POWERS [.int 0, .int 0, .int 0, .int 0, .int 0, .int 0])
    (aE_LOGS : PySem.W.nsIn K mainGlobals "LOGS" = some (some (.ref e_LOGS)))
    (lE_LOGS : K.lookup e_LOGS = some o_LOGS)
    (vE_LOGS : TupO o_LOGS [.int 69314718055994530941723212145817656807550013436025, .int 109861228866810969139524523692252570464749055782274, .int 160943791243410037460075933322618763952560135426851, .int 194591014905531330510535274344317972963708472958186, .int 239789527279837054406194357796512929982170685393741, .int 256494935746153673605348744156531860480526794476020])
    (gb_gcd : PySem.W.nsIn K mainGlobals "gcd" = some (some (.builtin "math.gcd")))
    (gi_SLACK : PySem.W.nsIn K mainGlobals "SLACK" = some (some (.int 1000000000000 t_SLACK)))
    (gi_MANY : PySem.W.nsIn K mainGlobals "MANY" = some (some (.int 500 t_MANY)))
    (ic_C_Ratio : PySem.W.isClsIn K C_Ratio = true)
    (it_C_Ratio : PySem.W.typeIn K (.ref C_Ratio) = some (.type "type"))
    (h_kList : PySem.W.subIn K (.type "list") (.ref C_Ratio) = some false)
    (a1 : PySem.W.nsIn K mainGlobals "log_of" = some (some (.ref f1)))
    (l1 : K.lookup f1 = some ⟨oc1, od1, .func (PySem.W.fnOf "log_of" "log_of" (defArgs s_log_of) (defBody s_log_of) (defScope s_log_of) .none kV1 dc1 pm1 an1 cd1 ct1), sl1⟩)
    (c1 : PySem.W.codeIn K cd1 "log_of" = true)
    (k1 : PySem.W.keepIn K (.ref f1) = true)
    (a2 : PySem.W.nsIn K mainGlobals "is_number" = some (some (.ref f2)))
    (l2 : K.lookup f2 = some ⟨oc2, od2, .func (PySem.W.fnOf "is_number" "is_number" (defArgs s_is_number) (defBody s_is_number) (defScope s_is_number) .none kV2 dc2 pm2 an2 cd2 ct2), sl2⟩)
    (c2 : PySem.W.codeIn K cd2 "is_number" = true)
    (k2 : PySem.W.keepIn K (.ref f2) = true)
    (a3 : PySem.W.nsIn K mainGlobals "tone_of" = some (some (.ref f3)))
    (l3 : K.lookup f3 = some ⟨oc3, od3, .func (PySem.W.fnOf "tone_of" "tone_of" (defArgs s_tone_of) (defBody s_tone_of) (defScope s_tone_of) .none kV3 dc3 pm3 an3 cd3 ct3), sl3⟩)
    (c3 : PySem.W.codeIn K cd3 "tone_of" = true)
    (k3 : PySem.W.keepIn K (.ref f3) = true)
    (a4 : PySem.W.findIn K (.ref C_Ratio) "__init__" = some (some (.ref f4)))
    (i4 : PySem.W.isFn K (.ref f4) = true)
    (l4 : K.lookup f4 = some ⟨oc4, od4, .func (PySem.W.fnOf "__init__" "Ratio.__init__" (defArgs s_Ratio_init) (defBody s_Ratio_init) (defScope s_Ratio_init) (.ref dT4) kV4 dc4 pm4 an4 cd4 ct4), sl4⟩)
    (c4 : PySem.W.codeIn K cd4 "Ratio.__init__" = true)
    (k4 : PySem.W.keepIn K (.ref f4) = true)
    (lT4 : K.lookup dT4 = some oT4)
    (vT4 : ∃ its n, oT4.data = .seq (List.toArray its) n ∧ Vals [V.int 1] its)
    (mk_Ratio : PySem.W.makesIn K C_Ratio = true)
    (kc_Ratio : PySem.W.keepIn K (.ref C_Ratio) = true)
    (a5 : PySem.W.findIn K (.ref C_Ratio) "powers" = some (some (.ref f5)))
    (i5 : PySem.W.isFn K (.ref f5) = true)
    (l5 : K.lookup f5 = some ⟨oc5, od5, .func (PySem.W.fnOf "powers" "Ratio.powers" (defArgs s_Ratio_powers) (defBody s_Ratio_powers) (defScope s_Ratio_powers) .none kV5 dc5 pm5 an5 cd5 ct5), sl5⟩)
    (c5 : PySem.W.codeIn K cd5 "Ratio.powers" = true)
    (k5 : PySem.W.keepIn K (.ref f5) = true)
    (a6 : PySem.W.findIn K (.ref C_Ratio) "__mul__" = some (some (.ref f6)))
    (i6 : PySem.W.isFn K (.ref f6) = true)
    (l6 : K.lookup f6 = some ⟨oc6, od6, .func (PySem.W.fnOf "__mul__" "Ratio.__mul__" (defArgs s_Ratio_mul) (defBody s_Ratio_mul) (defScope s_Ratio_mul) .none kV6 dc6 pm6 an6 cd6 ct6), sl6⟩)
    (c6 : PySem.W.codeIn K cd6 "Ratio.__mul__" = true)
    (k6 : PySem.W.keepIn K (.ref f6) = true)
    (a7 : PySem.W.findIn K (.ref C_Ratio) "__eq__" = some (some (.ref f7)))
    (i7 : PySem.W.isFn K (.ref f7) = true)
    (l7 : K.lookup f7 = some ⟨oc7, od7, .func (PySem.W.fnOf "__eq__" "Ratio.__eq__" (defArgs s_Ratio_eq) (defBody s_Ratio_eq) (defScope s_Ratio_eq) .none kV7 dc7 pm7 an7 cd7 ct7), sl7⟩)
    (c7 : PySem.W.codeIn K cd7 "Ratio.__eq__" = true)
    (k7 : PySem.W.keepIn K (.ref f7) = true)
    (a8 : PySem.W.nsIn K mainGlobals "_raised" = some (some (.ref f8)))
    (l8 : K.lookup f8 = some ⟨oc8, od8, .func (PySem.W.fnOf "_raised" "_raised" (defArgs s__raised) (defBody s__raised) (defScope s__raised) .none kV8 dc8 pm8 an8 cd8 ct8), sl8⟩)
    (c8 : PySem.W.codeIn K cd8 "_raised" = true)
    (k8 : PySem.W.keepIn K (.ref f8) = true)
    (a9 : PySem.W.nsIn K mainGlobals "_made_of" = some (some (.ref f9)))
    (l9 : K.lookup f9 = some ⟨oc9, od9, .func (PySem.W.fnOf "_made_of" "_made_of" (defArgs s__made_of) (defBody s__made_of) (defScope s__made_of) .none kV9 dc9 pm9 an9 cd9 ct9), sl9⟩)
    (c9 : PySem.W.codeIn K cd9 "_made_of" = true)
    (k9 : PySem.W.keepIn K (.ref f9) = true)
    (a10 : PySem.W.nsIn K mainGlobals "_fraction_of" = some (some (.ref f10)))
    (l10 : K.lookup f10 = some ⟨oc10, od10, .func (PySem.W.fnOf "_fraction_of" "_fraction_of" (defArgs s__fraction_of) (defBody s__fraction_of) (defScope s__fraction_of) .none kV10 dc10 pm10 an10 cd10 ct10), sl10⟩)
    (c10 : PySem.W.codeIn K cd10 "_fraction_of" = true)
    (k10 : PySem.W.keepIn K (.ref f10) = true)
    (a11 : PySem.W.nsIn K mainGlobals "ratio_with" = some (some (.ref f11)))
    (l11 : K.lookup f11 = some ⟨oc11, od11, .func (PySem.W.fnOf "ratio_with" "ratio_with" (defArgs s_ratio_with) (defBody s_ratio_with) (defScope s_ratio_with) .none kV11 dc11 pm11 an11 cd11 ct11), sl11⟩)
    (c11 : PySem.W.codeIn K cd11 "ratio_with" = true)
    (k11 : PySem.W.keepIn K (.ref f11) = true)
    (a12 : PySem.W.nsIn K mainGlobals "_split" = some (some (.ref f12)))
    (l12 : K.lookup f12 = some ⟨oc12, od12, .func (PySem.W.fnOf "_split" "_split" (defArgs s__split) (defBody s__split) (defScope s__split) .none kV12 dc12 pm12 an12 cd12 ct12), sl12⟩)
    (c12 : PySem.W.codeIn K cd12 "_split" = true)
    (k12 : PySem.W.keepIn K (.ref f12) = true)
    (a13 : PySem.W.nsIn K mainGlobals "_powers_in" = some (some (.ref f13)))
    (l13 : K.lookup f13 = some ⟨oc13, od13, .func (PySem.W.fnOf "_powers_in" "_powers_in" (defArgs s__powers_in) (defBody s__powers_in) (defScope s__powers_in) .none kV13 dc13 pm13 an13 cd13 ct13), sl13⟩)
    (c13 : PySem.W.codeIn K cd13 "_powers_in" = true)
    (k13 : PySem.W.keepIn K (.ref f13) = true)
    (a14 : PySem.W.nsIn K mainGlobals "_powers_of" = some (some (.ref f14)))
    (l14 : K.lookup f14 = some ⟨oc14, od14, .func (PySem.W.fnOf "_powers_of" "_powers_of" (defArgs s__powers_of) (defBody s__powers_of) (defScope s__powers_of) .none kV14 dc14 pm14 an14 cd14 ct14), sl14⟩)
    (c14 : PySem.W.codeIn K cd14 "_powers_of" = true)
    (k14 : PySem.W.keepIn K (.ref f14) = true)
    (a15 : PySem.W.nsIn K mainGlobals "multiplied" = some (some (.ref f15)))
    (l15 : K.lookup f15 = some ⟨oc15, od15, .func (PySem.W.fnOf "multiplied" "multiplied" (defArgs s_multiplied) (defBody s_multiplied) (defScope s_multiplied) .none kV15 dc15 pm15 an15 cd15 ct15), sl15⟩)
    (c15 : PySem.W.codeIn K cd15 "multiplied" = true)
    (k15 : PySem.W.keepIn K (.ref f15) = true)
    (a16 : PySem.W.nsIn K mainGlobals "_exact_order" = some (some (.ref f16)))
    (l16 : K.lookup f16 = some ⟨oc16, od16, .func (PySem.W.fnOf "_exact_order" "_exact_order" (defArgs s__exact_order) (defBody s__exact_order) (defScope s__exact_order) .none kV16 dc16 pm16 an16 cd16 ct16), sl16⟩)
    (c16 : PySem.W.codeIn K cd16 "_exact_order" = true)
    (k16 : PySem.W.keepIn K (.ref f16) = true)
    (a17 : PySem.W.nsIn K mainGlobals "order_of" = some (some (.ref f17)))
    (l17 : K.lookup f17 = some ⟨oc17, od17, .func (PySem.W.fnOf "order_of" "order_of" (defArgs s_order_of) (defBody s_order_of) (defScope s_order_of) .none kV17 dc17 pm17 an17 cd17 ct17), sl17⟩)
    (c17 : PySem.W.codeIn K cd17 "order_of" = true)
    (k17 : PySem.W.keepIn K (.ref f17) = true)
    (a18 : PySem.W.nsIn K mainGlobals "in_order" = some (some (.ref f18)))
    (l18 : K.lookup f18 = some ⟨oc18, od18, .func (PySem.W.fnOf "in_order" "in_order" (defArgs s_in_order) (defBody s_in_order) (defScope s_in_order) .none kV18 dc18 pm18 an18 cd18 ct18), sl18⟩)
    (c18 : PySem.W.codeIn K cd18 "in_order" = true)
    (k18 : PySem.W.keepIn K (.ref f18) = true)
    (a19 : PySem.W.nsIn K mainGlobals "led" = some (some (.ref f19)))
    (l19 : K.lookup f19 = some ⟨oc19, od19, .func (PySem.W.fnOf "led" "led" (defArgs s_led) (defBody s_led) (defScope s_led) .none kV19 dc19 pm19 an19 cd19 ct19), sl19⟩)
    (c19 : PySem.W.codeIn K cd19 "led" = true)
    (k19 : PySem.W.keepIn K (.ref f19) = true)
    (a20 : PySem.W.nsIn K mainGlobals "compared" = some (some (.ref f20)))
    (l20 : K.lookup f20 = some ⟨oc20, od20, .func (PySem.W.fnOf "compared" "compared" (defArgs s_compared) (defBody s_compared) (defScope s_compared) .none kV20 dc20 pm20 an20 cd20 ct20), sl20⟩)
    (c20 : PySem.W.codeIn K cd20 "compared" = true)
    (k20 : PySem.W.keepIn K (.ref f20) = true)
    (a21 : PySem.W.nsIn K mainGlobals "within" = some (some (.ref f21)))
    (l21 : K.lookup f21 = some ⟨oc21, od21, .func (PySem.W.fnOf "within" "within" (defArgs s_within) (defBody s_within) (defScope s_within) .none kV21 dc21 pm21 an21 cd21 ct21), sl21⟩)
    (c21 : PySem.W.codeIn K cd21 "within" = true)
    (k21 : PySem.W.keepIn K (.ref f21) = true)
    (a22 : PySem.W.nsIn K mainGlobals "_law_bag" = some (some (.ref f22)))
    (l22 : K.lookup f22 = some ⟨oc22, od22, .func (PySem.W.fnOf "_law_bag" "_law_bag" (defArgs s_l_bag) (defBody s_l_bag) (defScope s_l_bag) .none kV22 dc22 pm22 an22 cd22 ct22), sl22⟩)
    (c22 : PySem.W.codeIn K cd22 "_law_bag" = true)
    (k22 : PySem.W.keepIn K (.ref f22) = true)
    (a23 : PySem.W.nsIn K mainGlobals "_law_draw" = some (some (.ref f23)))
    (l23 : K.lookup f23 = some ⟨oc23, od23, .func (PySem.W.fnOf "_law_draw" "_law_draw" (defArgs s_l_draw) (defBody s_l_draw) (defScope s_l_draw) .none kV23 dc23 pm23 an23 cd23 ct23), sl23⟩)
    (c23 : PySem.W.codeIn K cd23 "_law_draw" = true)
    (k23 : PySem.W.keepIn K (.ref f23) = true)
    (a24 : PySem.W.nsIn K mainGlobals "_law_of" = some (some (.ref f24)))
    (l24 : K.lookup f24 = some ⟨oc24, od24, .func (PySem.W.fnOf "_law_of" "_law_of" (defArgs s_l_of) (defBody s_l_of) (defScope s_l_of) .none kV24 dc24 pm24 an24 cd24 ct24), sl24⟩)
    (c24 : PySem.W.codeIn K cd24 "_law_of" = true)
    (k24 : PySem.W.keepIn K (.ref f24) = true)
    (a25 : PySem.W.nsIn K mainGlobals "_law_same" = some (some (.ref f25)))
    (l25 : K.lookup f25 = some ⟨oc25, od25, .func (PySem.W.fnOf "_law_same" "_law_same" (defArgs s_l_same) (defBody s_l_same) (defScope s_l_same) .none kV25 dc25 pm25 an25 cd25 ct25), sl25⟩)
    (c25 : PySem.W.codeIn K cd25 "_law_same" = true)
    (k25 : PySem.W.keepIn K (.ref f25) = true)
    (a26 : PySem.W.nsIn K mainGlobals "_law_gcd" = some (some (.ref f26)))
    (l26 : K.lookup f26 = some ⟨oc26, od26, .func (PySem.W.fnOf "_law_gcd" "_law_gcd" (defArgs s_l_gcd) (defBody s_l_gcd) (defScope s_l_gcd) .none kV26 dc26 pm26 an26 cd26 ct26), sl26⟩)
    (c26 : PySem.W.codeIn K cd26 "_law_gcd" = true)
    (k26 : PySem.W.keepIn K (.ref f26) = true)
    (a27 : PySem.W.nsIn K mainGlobals "_law_low" = some (some (.ref f27)))
    (l27 : K.lookup f27 = some ⟨oc27, od27, .func (PySem.W.fnOf "_law_low" "_law_low" (defArgs s_l_low) (defBody s_l_low) (defScope s_l_low) .none kV27 dc27 pm27 an27 cd27 ct27), sl27⟩)
    (c27 : PySem.W.codeIn K cd27 "_law_low" = true)
    (k27 : PySem.W.keepIn K (.ref f27) = true)
    (a28 : PySem.W.nsIn K mainGlobals "_law_mul" = some (some (.ref f28)))
    (l28 : K.lookup f28 = some ⟨oc28, od28, .func (PySem.W.fnOf "_law_mul" "_law_mul" (defArgs s_l_mul) (defBody s_l_mul) (defScope s_l_mul) .none kV28 dc28 pm28 an28 cd28 ct28), sl28⟩)
    (c28 : PySem.W.codeIn K cd28 "_law_mul" = true)
    (k28 : PySem.W.keepIn K (.ref f28) = true)
    (a29 : PySem.W.nsIn K mainGlobals "_law_less" = some (some (.ref f29)))
    (l29 : K.lookup f29 = some ⟨oc29, od29, .func (PySem.W.fnOf "_law_less" "_law_less" (defArgs s_l_less) (defBody s_l_less) (defScope s_l_less) .none kV29 dc29 pm29 an29 cd29 ct29), sl29⟩)
    (c29 : PySem.W.codeIn K cd29 "_law_less" = true)
    (k29 : PySem.W.keepIn K (.ref f29) = true)
    (a30 : PySem.W.nsIn K mainGlobals "_law_product" = some (some (.ref f30)))
    (l30 : K.lookup f30 = some ⟨oc30, od30, .func (PySem.W.fnOf "_law_product" "_law_product" (defArgs s_l_product) (defBody s_l_product) (defScope s_l_product) .none kV30 dc30 pm30 an30 cd30 ct30), sl30⟩)
    (c30 : PySem.W.codeIn K cd30 "_law_product" = true)
    (k30 : PySem.W.keepIn K (.ref f30) = true)
    (a31 : PySem.W.nsIn K mainGlobals "_law_step" = some (some (.ref f31)))
    (l31 : K.lookup f31 = some ⟨oc31, od31, .func (PySem.W.fnOf "_law_step" "_law_step" (defArgs s_l_step) (defBody s_l_step) (defScope s_l_step) .none kV31 dc31 pm31 an31 cd31 ct31), sl31⟩)
    (c31 : PySem.W.codeIn K cd31 "_law_step" = true)
    (k31 : PySem.W.keepIn K (.ref f31) = true)
    (a32 : PySem.W.nsIn K mainGlobals "_law_length" = some (some (.ref f32)))
    (l32 : K.lookup f32 = some ⟨oc32, od32, .func (PySem.W.fnOf "_law_length" "_law_length" (defArgs s_l_length) (defBody s_l_length) (defScope s_l_length) .none kV32 dc32 pm32 an32 cd32 ct32), sl32⟩)
    (c32 : PySem.W.codeIn K cd32 "_law_length" = true)
    (k32 : PySem.W.keepIn K (.ref f32) = true)
    (a33 : PySem.W.nsIn K mainGlobals "_law_ratio" = some (some (.ref f33)))
    (l33 : K.lookup f33 = some ⟨oc33, od33, .func (PySem.W.fnOf "_law_ratio" "_law_ratio" (defArgs s_l_ratio) (defBody s_l_ratio) (defScope s_l_ratio) .none kV33 dc33 pm33 an33 cd33 ct33), sl33⟩)
    (c33 : PySem.W.codeIn K cd33 "_law_ratio" = true)
    (k33 : PySem.W.keepIn K (.ref f33) = true)
    (a34 : PySem.W.nsIn K mainGlobals "_law_is" = some (some (.ref f34)))
    (l34 : K.lookup f34 = some ⟨oc34, od34, .func (PySem.W.fnOf "_law_is" "_law_is" (defArgs s_l_is) (defBody s_l_is) (defScope s_l_is) .none kV34 dc34 pm34 an34 cd34 ct34), sl34⟩)
    (c34 : PySem.W.codeIn K cd34 "_law_is" = true)
    (k34 : PySem.W.keepIn K (.ref f34) = true)
    (a35 : PySem.W.nsIn K mainGlobals "_law_seen" = some (some (.ref f35)))
    (l35 : K.lookup f35 = some ⟨oc35, od35, .func (PySem.W.fnOf "_law_seen" "_law_seen" (defArgs s_l_seen) (defBody s_l_seen) (defScope s_l_seen) .none kV35 dc35 pm35 an35 cd35 ct35), sl35⟩)
    (c35 : PySem.W.codeIn K cd35 "_law_seen" = true)
    (k35 : PySem.W.keepIn K (.ref f35) = true)
    (a36 : PySem.W.nsIn K mainGlobals "_law_ranked" = some (some (.ref f36)))
    (l36 : K.lookup f36 = some ⟨oc36, od36, .func (PySem.W.fnOf "_law_ranked" "_law_ranked" (defArgs s_l_ranked) (defBody s_l_ranked) (defScope s_l_ranked) .none kV36 dc36 pm36 an36 cd36 ct36), sl36⟩)
    (c36 : PySem.W.codeIn K cd36 "_law_ranked" = true)
    (k36 : PySem.W.keepIn K (.ref f36) = true)
    (a37 : PySem.W.nsIn K mainGlobals "_law_list_so" = some (some (.ref f37)))
    (l37 : K.lookup f37 = some ⟨oc37, od37, .func (PySem.W.fnOf "_law_list_so" "_law_list_so" (defArgs s_l_list_so) (defBody s_l_list_so) (defScope s_l_list_so) .none kV37 dc37 pm37 an37 cd37 ct37), sl37⟩)
    (c37 : PySem.W.codeIn K cd37 "_law_list_so" = true)
    (k37 : PySem.W.keepIn K (.ref f37) = true)
    (a38 : PySem.W.nsIn K mainGlobals "_law_beside" = some (some (.ref f38)))
    (l38 : K.lookup f38 = some ⟨oc38, od38, .func (PySem.W.fnOf "_law_beside" "_law_beside" (defArgs s_l_beside) (defBody s_l_beside) (defScope s_l_beside) .none kV38 dc38 pm38 an38 cd38 ct38), sl38⟩)
    (c38 : PySem.W.codeIn K cd38 "_law_beside" = true)
    (k38 : PySem.W.keepIn K (.ref f38) = true)
    (a39 : PySem.W.nsIn K mainGlobals "_law_tone_so" = some (some (.ref f39)))
    (l39 : K.lookup f39 = some ⟨oc39, od39, .func (PySem.W.fnOf "_law_tone_so" "_law_tone_so" (defArgs s_l_tone_so) (defBody s_l_tone_so) (defScope s_l_tone_so) .none kV39 dc39 pm39 an39 cd39 ct39), sl39⟩)
    (c39 : PySem.W.codeIn K cd39 "_law_tone_so" = true)
    (k39 : PySem.W.keepIn K (.ref f39) = true)
    (a40 : PySem.W.nsIn K mainGlobals "law" = some (some (.ref f40)))
    (l40 : K.lookup f40 = some ⟨oc40, od40, .func (PySem.W.fnOf "law" "law" (defArgs s_law) (defBody s_law) (defScope s_law) .none kV40 dc40 pm40 an40 cd40 ct40), sl40⟩)
    (c40 : PySem.W.codeIn K cd40 "law" = true)
    (k40 : PySem.W.keepIn K (.ref f40) = true)
    (h_sfR : PySem.W.selfFirst K C_Ratio = true)
    (h_ne_Ratio : PySem.W.findIn K (.ref C_Ratio) "__ne__" = some (some (.builtin "object.__ne__")))
    : ∃ fd : FuncData, (∀ (s : Shared) (v : Value), BindsTo s fd ⟨[v], []⟩ [("_law_script", v)]) ∧ ∀ base : Heap, K.In base → base.Ns mainGlobals mg → FnOk P w K mg base CX0 10 fa fd ["_law_script"] (spLaw K) := by
  have e := hfa.symm.trans (PySem.W.mg_of X G a40)
  cases e
  have F1 := fun_mk (st := s_log_of) l1 c1 k1
  have b1 := F1.binds (ps := ["powers"]) fun _ _ _ _ _ _ us hl => match us, hl with | [_], _ => rfl
  have F2 := fun_mk (st := s_is_number) l2 c2 k2
  have b2 := F2.binds (ps := ["value"]) fun _ _ _ _ _ _ us hl => match us, hl with | [_], _ => rfl
  have F3 := fun_mk (st := s_tone_of) l3 c3 k3
  have b3 := F3.binds (ps := ["over", "under"]) fun _ _ _ _ _ _ us hl => match us, hl with | [_, _], _ => rfl
  have F4 : FunD K "__init__" "Ratio.__init__" (defArgs s_Ratio_init) (defBody s_Ratio_init) (defScope s_Ratio_init) [V.int 1] [] f4 (PySem.W.fnOf "__init__" "Ratio.__init__" (defArgs s_Ratio_init) (defBody s_Ratio_init) (defScope s_Ratio_init) (.ref dT4) kV4 dc4 pm4 an4 cd4 ct4) := by
    obtain ⟨its, n, e1, e2⟩ := vT4
    exact ⟨⟨_, _, _, _, _, _, _, _, _, _, rfl, l4, c4, .inr ⟨by simp, dT4, _, its, n, rfl, lT4, e1, e2⟩, .inl rfl⟩, k4⟩
  obtain ⟨ds0_4, v0_4, b4⟩ := F4.binds1 (ps := ["self", "over", "under"]) 3 1 (by simp) rfl fun _ _ _ _ _ _ _ us its hu hi => match us, its, hu, hi with | [_, _, _], [_], _, _ => ⟨_, rfl, rfl⟩
  cases v0_4
  obtain ⟨ds1_4, v1_4, bb4⟩ := F4.binds1 (ps := ["self", "over", "under"]) 2 0 (by simp) rfl fun _ _ _ _ _ _ _ us its hu hi => match us, its, hu, hi with | [_, _], [_], _, _ => ⟨_, rfl, rfl⟩
  have F5 := fun_mk (st := s_Ratio_powers) l5 c5 k5
  have b5 := F5.binds (ps := ["self"]) fun _ _ _ _ _ _ us hl => match us, hl with | [_], _ => rfl
  have F6 := fun_mk (st := s_Ratio_mul) l6 c6 k6
  have b6 := F6.binds (ps := ["self", "other"]) fun _ _ _ _ _ _ us hl => match us, hl with | [_, _], _ => rfl
  have F7 := fun_mk (st := s_Ratio_eq) l7 c7 k7
  have b7 := F7.binds (ps := ["self", "other"]) fun _ _ _ _ _ _ us hl => match us, hl with | [_, _], _ => rfl
  have F8 := fun_mk (st := s__raised) l8 c8 k8
  have b8 := F8.binds (ps := ["base", "exponent"]) fun _ _ _ _ _ _ us hl => match us, hl with | [_, _], _ => rfl
  have F9 := fun_mk (st := s__made_of) l9 c9 k9
  have b9 := F9.binds (ps := ["powers"]) fun _ _ _ _ _ _ us hl => match us, hl with | [_], _ => rfl
  have F10 := fun_mk (st := s__fraction_of) l10 c10 k10
  have b10 := F10.binds (ps := ["powers"]) fun _ _ _ _ _ _ us hl => match us, hl with | [_], _ => rfl
  have F11 := fun_mk (st := s_ratio_with) l11 c11 k11
  have b11 := F11.binds (ps := ["powers"]) fun _ _ _ _ _ _ us hl => match us, hl with | [_], _ => rfl
  have F12 := fun_mk (st := s__split) l12 c12 k12
  have b12 := F12.binds (ps := ["number", "divisor"]) fun _ _ _ _ _ _ us hl => match us, hl with | [_, _], _ => rfl
  have F13 := fun_mk (st := s__powers_in) l13 c13 k13
  have b13 := F13.binds (ps := ["number"]) fun _ _ _ _ _ _ us hl => match us, hl with | [_], _ => rfl
  have F14 := fun_mk (st := s__powers_of) l14 c14 k14
  have b14 := F14.binds (ps := ["over", "under"]) fun _ _ _ _ _ _ us hl => match us, hl with | [_, _], _ => rfl
  have F15 := fun_mk (st := s_multiplied) l15 c15 k15
  have b15 := F15.binds (ps := ["ratios"]) fun _ _ _ _ _ _ us hl => match us, hl with | [_], _ => rfl
  have F16 := fun_mk (st := s__exact_order) l16 c16 k16
  have b16 := F16.binds (ps := ["ratios"]) fun _ _ _ _ _ _ us hl => match us, hl with | [_], _ => rfl
  have F17 := fun_mk (st := s_order_of) l17 c17 k17
  have b17 := F17.binds (ps := ["ratios"]) fun _ _ _ _ _ _ us hl => match us, hl with | [_], _ => rfl
  have F18 := fun_mk (st := s_in_order) l18 c18 k18
  have b18 := F18.binds (ps := ["ratios"]) fun _ _ _ _ _ _ us hl => match us, hl with | [_], _ => rfl
  have F19 := fun_mk (st := s_led) l19 c19 k19
  have b19 := F19.binds (ps := ["tone", "ratio"]) fun _ _ _ _ _ _ us hl => match us, hl with | [_, _], _ => rfl
  have F20 := fun_mk (st := s_compared) l20 c20 k20
  have b20 := F20.binds (ps := ["tone", "ratio"]) fun _ _ _ _ _ _ us hl => match us, hl with | [_, _], _ => rfl
  have F21 := fun_mk (st := s_within) l21 c21 k21
  have b21 := F21.binds (ps := ["tone", "start", "length"]) fun _ _ _ _ _ _ us hl => match us, hl with | [_, _, _], _ => rfl
  have F22 := fun_mk (st := s_l_bag) l22 c22 k22
  have b22 := F22.binds (ps := ["_law_script"]) fun _ _ _ _ _ _ us hl => match us, hl with | [_], _ => rfl
  have F23 := fun_mk (st := s_l_draw) l23 c23 k23
  have b23 := F23.binds (ps := ["_law_bag_here", "_law_sides"]) fun _ _ _ _ _ _ us hl => match us, hl with | [_, _], _ => rfl
  have F24 := fun_mk (st := s_l_of) l24 c24 k24
  have b24 := F24.binds (ps := ["_law_bag_here", "_law_things"]) fun _ _ _ _ _ _ us hl => match us, hl with | [_, _], _ => rfl
  have F25 := fun_mk (st := s_l_same) l25 c25 k25
  have b25 := F25.binds (ps := ["_law_found", "_law_due"]) fun _ _ _ _ _ _ us hl => match us, hl with | [_, _], _ => rfl
  have F26 := fun_mk (st := s_l_gcd) l26 c26 k26
  have b26 := F26.binds (ps := ["_law_x", "_law_y"]) fun _ _ _ _ _ _ us hl => match us, hl with | [_, _], _ => rfl
  have F27 := fun_mk (st := s_l_low) l27 c27 k27
  have b27 := F27.binds (ps := ["_law_num", "_law_den"]) fun _ _ _ _ _ _ us hl => match us, hl with | [_, _], _ => rfl
  have F28 := fun_mk (st := s_l_mul) l28 c28 k28
  have b28 := F28.binds (ps := ["_law_x", "_law_y"]) fun _ _ _ _ _ _ us hl => match us, hl with | [_, _], _ => rfl
  have F29 := fun_mk (st := s_l_less) l29 c29 k29
  have b29 := F29.binds (ps := ["_law_x", "_law_y"]) fun _ _ _ _ _ _ us hl => match us, hl with | [_, _], _ => rfl
  have F30 := fun_mk (st := s_l_product) l30 c30 k30
  have b30 := F30.binds (ps := ["_law_things"]) fun _ _ _ _ _ _ us hl => match us, hl with | [_], _ => rfl
  have F31 := fun_mk (st := s_l_step) l31 c31 k31
  have b31 := F31.binds (ps := ["_law_bag_here"]) fun _ _ _ _ _ _ us hl => match us, hl with | [_], _ => rfl
  have F32 := fun_mk (st := s_l_length) l32 c32 k32
  have b32 := F32.binds (ps := ["_law_bag_here"]) fun _ _ _ _ _ _ us hl => match us, hl with | [_], _ => rfl
  have F33 := fun_mk (st := s_l_ratio) l33 c33 k33
  have b33 := F33.binds (ps := ["_law_bag_here", "_law_x"]) fun _ _ _ _ _ _ us hl => match us, hl with | [_, _], _ => rfl
  have F34 := fun_mk (st := s_l_is) l34 c34 k34
  have b34 := F34.binds (ps := ["_law_x"]) fun _ _ _ _ _ _ us hl => match us, hl with | [_], _ => rfl
  have F35 := fun_mk (st := s_l_seen) l35 c35 k35
  have b35 := F35.binds (ps := ["_law_thing"]) fun _ _ _ _ _ _ us hl => match us, hl with | [_], _ => rfl
  have F36 := fun_mk (st := s_l_ranked) l36 c36 k36
  have b36 := F36.binds (ps := ["_law_things", "_law_spot"]) fun _ _ _ _ _ _ us hl => match us, hl with | [_, _], _ => rfl
  have F37 := fun_mk (st := s_l_list_so) l37 c37 k37
  have b37 := F37.binds (ps := ["_law_bag_here"]) fun _ _ _ _ _ _ us hl => match us, hl with | [_], _ => rfl
  have F38 := fun_mk (st := s_l_beside) l38 c38 k38
  have b38 := F38.binds (ps := ["_law_bag_here", "_law_x"]) fun _ _ _ _ _ _ us hl => match us, hl with | [_, _], _ => rfl
  have F39 := fun_mk (st := s_l_tone_so) l39 c39 k39
  have b39 := F39.binds (ps := ["_law_bag_here"]) fun _ _ _ _ _ _ us hl => match us, hl with | [_], _ => rfl
  have F40 := fun_mk (st := s_law) l40 c40 k40
  have b40 := F40.binds (ps := ["_law_script"]) fun _ _ _ _ _ _ us hl => match us, hl with | [_], _ => rfl
  have kb_multiplied : KBinds K _ ["ratios"] ["ratios"] g01 g01 := Fun.kb01 F15 fun _ _ _ _ _ _ _ => rfl
  have kb_in_order : KBinds K _ ["ratios"] ["ratios"] g01 g01 := Fun.kb01 F18 fun _ _ _ _ _ _ _ => rfl
  have kb_led : KBinds K _ ["tone", "ratio"] ["tone", "ratio"] g02 g02 := Fun.kb02 F19 fun _ _ _ _ _ _ _ _ => rfl
  have kb_compared : KBinds K _ ["tone", "ratio"] ["ratio", "tone"] g02s g02s := Fun.kb02s F20 fun _ _ _ _ _ _ _ _ => rfl
  have kb_within : KBinds K _ ["tone", "start", "length"] ["tone", "length", "start"] g03s g03s := Fun.kb03s F21 fun _ _ _ _ _ _ _ _ _ => rfl
  exact ⟨PySem.W.fnOf "law" "law" (defArgs s_law) (defBody s_law) (defScope s_law) .none kV40 dc40 pm40 an40 cd40 ct40, fun s v => .of_eq rfl, fun base _ _ => ok_law (T := {
    z_len := PySem.W.mg_none_of X G z_len
    z_abs := PySem.W.mg_none_of X G z_abs
    z_int := PySem.W.mg_none_of X G z_int
    z_isinstance := PySem.W.mg_none_of X G z_isinstance
    z_list := PySem.W.mg_none_of X G z_list
    z_tuple := PySem.W.mg_none_of X G z_tuple
    z_bool := PySem.W.mg_none_of X G z_bool
    z_str := PySem.W.mg_none_of X G z_str
    z_all := PySem.W.mg_none_of X G z_all
    z_zip := PySem.W.mg_none_of X G z_zip
    z_range := PySem.W.mg_none_of X G z_range
    z_enumerate := PySem.W.mg_none_of X G z_enumerate
    z_divmod := PySem.W.mg_none_of X G z_divmod
    z_max := PySem.W.mg_none_of X G z_max
    z_min := PySem.W.mg_none_of X G z_min
    z_reversed := PySem.W.mg_none_of X G z_reversed
    z_sum := PySem.W.mg_none_of X G z_sum
    z_sorted := PySem.W.mg_none_of X G z_sorted
    C_Ratio := C_Ratio
    c_Ratio := ⟨pg_Ratio, hd_Ratio, po_Ratio, sa_Ratio⟩
    g_Ratio := PySem.W.mg_of X G aC_Ratio
    n_Ratio_over := n_Ratio_over
    n_Ratio_under := n_Ratio_under
    n_Ratio_powers := n_Ratio_powers
    i_Ratio := ⟨ca_Ratio, cn_Ratio, ct_Ratio, cm_Ratio, if_pos (beq_self_eq_true _)⟩
    e_PRIMES := e_PRIMES
    m_PRIMES := PySem.W.mg_of X G aE_PRIMES
    q_PRIMES := fun H => tupO_sq lE_PRIMES vE_PRIMES
    e_NO_POWERS := e_NO_POWERS
    m_NO_POWERS := PySem.W.mg_of X G aE_NO_POWERS
    q_NO_POWERS := fun H => tupO_sq lE_NO_POWERS vE_NO_POWERS
    e_LOGS := e_LOGS
    m_LOGS := PySem.W.mg_of X G aE_LOGS
    q_LOGS := fun H => tupO_sq lE_LOGS vE_LOGS
    m_gcd := PySem.W.mg_of X G gb_gcd
    t_SLACK := t_SLACK
    m_SLACK := PySem.W.mg_of X G gi_SLACK
    t_MANY := t_MANY
    m_MANY := PySem.W.mg_of X G gi_MANY
    f_log_of := f1
    d_log_of := PySem.W.fnOf "log_of" "log_of" (defArgs s_log_of) (defBody s_log_of) (defScope s_log_of) .none kV1 dc1 pm1 an1 cd1 ct1
    F_log_of := F1
    b_log_of := b1
    m_log_of := PySem.W.mg_of X G a1
    f_is_number := f2
    d_is_number := PySem.W.fnOf "is_number" "is_number" (defArgs s_is_number) (defBody s_is_number) (defScope s_is_number) .none kV2 dc2 pm2 an2 cd2 ct2
    F_is_number := F2
    b_is_number := b2
    m_is_number := PySem.W.mg_of X G a2
    f_tone_of := f3
    d_tone_of := PySem.W.fnOf "tone_of" "tone_of" (defArgs s_tone_of) (defBody s_tone_of) (defScope s_tone_of) .none kV3 dc3 pm3 an3 cd3 ct3
    F_tone_of := F3
    b_tone_of := b3
    m_tone_of := PySem.W.mg_of X G a3
    f_Ratio_init := f4
    d_Ratio_init := PySem.W.fnOf "__init__" "Ratio.__init__" (defArgs s_Ratio_init) (defBody s_Ratio_init) (defScope s_Ratio_init) (.ref dT4) kV4 dc4 pm4 an4 cd4 ct4
    F_Ratio_init := F4
    ds_Ratio_init := ds1_4
    v_Ratio_init := v1_4
    b_Ratio_init := b4
    b1_Ratio_init := bb4
    k_Ratio := ⟨mk_Ratio, a4, i4, kc_Ratio⟩
    f_Ratio_powers := f5
    d_Ratio_powers := PySem.W.fnOf "powers" "Ratio.powers" (defArgs s_Ratio_powers) (defBody s_Ratio_powers) (defScope s_Ratio_powers) .none kV5 dc5 pm5 an5 cd5 ct5
    F_Ratio_powers := F5
    b_Ratio_powers := b5
    a_Ratio_powers := ⟨a5, i5, k5⟩
    f_Ratio_mul := f6
    d_Ratio_mul := PySem.W.fnOf "__mul__" "Ratio.__mul__" (defArgs s_Ratio_mul) (defBody s_Ratio_mul) (defScope s_Ratio_mul) .none kV6 dc6 pm6 an6 cd6 ct6
    F_Ratio_mul := F6
    b_Ratio_mul := b6
    a_Ratio_mul := ⟨a6, i6, k6⟩
    f_Ratio_eq := f7
    d_Ratio_eq := PySem.W.fnOf "__eq__" "Ratio.__eq__" (defArgs s_Ratio_eq) (defBody s_Ratio_eq) (defScope s_Ratio_eq) .none kV7 dc7 pm7 an7 cd7 ct7
    F_Ratio_eq := F7
    b_Ratio_eq := b7
    a_Ratio_eq := ⟨a7, i7, k7⟩
    f__raised := f8
    d__raised := PySem.W.fnOf "_raised" "_raised" (defArgs s__raised) (defBody s__raised) (defScope s__raised) .none kV8 dc8 pm8 an8 cd8 ct8
    F__raised := F8
    b__raised := b8
    m__raised := PySem.W.mg_of X G a8
    f__made_of := f9
    d__made_of := PySem.W.fnOf "_made_of" "_made_of" (defArgs s__made_of) (defBody s__made_of) (defScope s__made_of) .none kV9 dc9 pm9 an9 cd9 ct9
    F__made_of := F9
    b__made_of := b9
    m__made_of := PySem.W.mg_of X G a9
    f__fraction_of := f10
    d__fraction_of := PySem.W.fnOf "_fraction_of" "_fraction_of" (defArgs s__fraction_of) (defBody s__fraction_of) (defScope s__fraction_of) .none kV10 dc10 pm10 an10 cd10 ct10
    F__fraction_of := F10
    b__fraction_of := b10
    m__fraction_of := PySem.W.mg_of X G a10
    f_ratio_with := f11
    d_ratio_with := PySem.W.fnOf "ratio_with" "ratio_with" (defArgs s_ratio_with) (defBody s_ratio_with) (defScope s_ratio_with) .none kV11 dc11 pm11 an11 cd11 ct11
    F_ratio_with := F11
    b_ratio_with := b11
    m_ratio_with := PySem.W.mg_of X G a11
    f__split := f12
    d__split := PySem.W.fnOf "_split" "_split" (defArgs s__split) (defBody s__split) (defScope s__split) .none kV12 dc12 pm12 an12 cd12 ct12
    F__split := F12
    b__split := b12
    m__split := PySem.W.mg_of X G a12
    f__powers_in := f13
    d__powers_in := PySem.W.fnOf "_powers_in" "_powers_in" (defArgs s__powers_in) (defBody s__powers_in) (defScope s__powers_in) .none kV13 dc13 pm13 an13 cd13 ct13
    F__powers_in := F13
    b__powers_in := b13
    m__powers_in := PySem.W.mg_of X G a13
    f__powers_of := f14
    d__powers_of := PySem.W.fnOf "_powers_of" "_powers_of" (defArgs s__powers_of) (defBody s__powers_of) (defScope s__powers_of) .none kV14 dc14 pm14 an14 cd14 ct14
    F__powers_of := F14
    b__powers_of := b14
    m__powers_of := PySem.W.mg_of X G a14
    f_multiplied := f15
    d_multiplied := PySem.W.fnOf "multiplied" "multiplied" (defArgs s_multiplied) (defBody s_multiplied) (defScope s_multiplied) .none kV15 dc15 pm15 an15 cd15 ct15
    F_multiplied := F15
    b_multiplied := b15
    m_multiplied := PySem.W.mg_of X G a15
    f__exact_order := f16
    d__exact_order := PySem.W.fnOf "_exact_order" "_exact_order" (defArgs s__exact_order) (defBody s__exact_order) (defScope s__exact_order) .none kV16 dc16 pm16 an16 cd16 ct16
    F__exact_order := F16
    b__exact_order := b16
    m__exact_order := PySem.W.mg_of X G a16
    f_order_of := f17
    d_order_of := PySem.W.fnOf "order_of" "order_of" (defArgs s_order_of) (defBody s_order_of) (defScope s_order_of) .none kV17 dc17 pm17 an17 cd17 ct17
    F_order_of := F17
    b_order_of := b17
    m_order_of := PySem.W.mg_of X G a17
    f_in_order := f18
    d_in_order := PySem.W.fnOf "in_order" "in_order" (defArgs s_in_order) (defBody s_in_order) (defScope s_in_order) .none kV18 dc18 pm18 an18 cd18 ct18
    F_in_order := F18
    b_in_order := b18
    m_in_order := PySem.W.mg_of X G a18
    f_led := f19
    d_led := PySem.W.fnOf "led" "led" (defArgs s_led) (defBody s_led) (defScope s_led) .none kV19 dc19 pm19 an19 cd19 ct19
    F_led := F19
    b_led := b19
    m_led := PySem.W.mg_of X G a19
    f_compared := f20
    d_compared := PySem.W.fnOf "compared" "compared" (defArgs s_compared) (defBody s_compared) (defScope s_compared) .none kV20 dc20 pm20 an20 cd20 ct20
    F_compared := F20
    b_compared := b20
    m_compared := PySem.W.mg_of X G a20
    f_within := f21
    d_within := PySem.W.fnOf "within" "within" (defArgs s_within) (defBody s_within) (defScope s_within) .none kV21 dc21 pm21 an21 cd21 ct21
    F_within := F21
    b_within := b21
    m_within := PySem.W.mg_of X G a21
    f_l_bag := f22
    d_l_bag := PySem.W.fnOf "_law_bag" "_law_bag" (defArgs s_l_bag) (defBody s_l_bag) (defScope s_l_bag) .none kV22 dc22 pm22 an22 cd22 ct22
    F_l_bag := F22
    b_l_bag := b22
    m_l_bag := PySem.W.mg_of X G a22
    f_l_draw := f23
    d_l_draw := PySem.W.fnOf "_law_draw" "_law_draw" (defArgs s_l_draw) (defBody s_l_draw) (defScope s_l_draw) .none kV23 dc23 pm23 an23 cd23 ct23
    F_l_draw := F23
    b_l_draw := b23
    m_l_draw := PySem.W.mg_of X G a23
    f_l_of := f24
    d_l_of := PySem.W.fnOf "_law_of" "_law_of" (defArgs s_l_of) (defBody s_l_of) (defScope s_l_of) .none kV24 dc24 pm24 an24 cd24 ct24
    F_l_of := F24
    b_l_of := b24
    m_l_of := PySem.W.mg_of X G a24
    f_l_same := f25
    d_l_same := PySem.W.fnOf "_law_same" "_law_same" (defArgs s_l_same) (defBody s_l_same) (defScope s_l_same) .none kV25 dc25 pm25 an25 cd25 ct25
    F_l_same := F25
    b_l_same := b25
    m_l_same := PySem.W.mg_of X G a25
    f_l_gcd := f26
    d_l_gcd := PySem.W.fnOf "_law_gcd" "_law_gcd" (defArgs s_l_gcd) (defBody s_l_gcd) (defScope s_l_gcd) .none kV26 dc26 pm26 an26 cd26 ct26
    F_l_gcd := F26
    b_l_gcd := b26
    m_l_gcd := PySem.W.mg_of X G a26
    f_l_low := f27
    d_l_low := PySem.W.fnOf "_law_low" "_law_low" (defArgs s_l_low) (defBody s_l_low) (defScope s_l_low) .none kV27 dc27 pm27 an27 cd27 ct27
    F_l_low := F27
    b_l_low := b27
    m_l_low := PySem.W.mg_of X G a27
    f_l_mul := f28
    d_l_mul := PySem.W.fnOf "_law_mul" "_law_mul" (defArgs s_l_mul) (defBody s_l_mul) (defScope s_l_mul) .none kV28 dc28 pm28 an28 cd28 ct28
    F_l_mul := F28
    b_l_mul := b28
    m_l_mul := PySem.W.mg_of X G a28
    f_l_less := f29
    d_l_less := PySem.W.fnOf "_law_less" "_law_less" (defArgs s_l_less) (defBody s_l_less) (defScope s_l_less) .none kV29 dc29 pm29 an29 cd29 ct29
    F_l_less := F29
    b_l_less := b29
    m_l_less := PySem.W.mg_of X G a29
    f_l_product := f30
    d_l_product := PySem.W.fnOf "_law_product" "_law_product" (defArgs s_l_product) (defBody s_l_product) (defScope s_l_product) .none kV30 dc30 pm30 an30 cd30 ct30
    F_l_product := F30
    b_l_product := b30
    m_l_product := PySem.W.mg_of X G a30
    f_l_step := f31
    d_l_step := PySem.W.fnOf "_law_step" "_law_step" (defArgs s_l_step) (defBody s_l_step) (defScope s_l_step) .none kV31 dc31 pm31 an31 cd31 ct31
    F_l_step := F31
    b_l_step := b31
    m_l_step := PySem.W.mg_of X G a31
    f_l_length := f32
    d_l_length := PySem.W.fnOf "_law_length" "_law_length" (defArgs s_l_length) (defBody s_l_length) (defScope s_l_length) .none kV32 dc32 pm32 an32 cd32 ct32
    F_l_length := F32
    b_l_length := b32
    m_l_length := PySem.W.mg_of X G a32
    f_l_ratio := f33
    d_l_ratio := PySem.W.fnOf "_law_ratio" "_law_ratio" (defArgs s_l_ratio) (defBody s_l_ratio) (defScope s_l_ratio) .none kV33 dc33 pm33 an33 cd33 ct33
    F_l_ratio := F33
    b_l_ratio := b33
    m_l_ratio := PySem.W.mg_of X G a33
    f_l_is := f34
    d_l_is := PySem.W.fnOf "_law_is" "_law_is" (defArgs s_l_is) (defBody s_l_is) (defScope s_l_is) .none kV34 dc34 pm34 an34 cd34 ct34
    F_l_is := F34
    b_l_is := b34
    m_l_is := PySem.W.mg_of X G a34
    f_l_seen := f35
    d_l_seen := PySem.W.fnOf "_law_seen" "_law_seen" (defArgs s_l_seen) (defBody s_l_seen) (defScope s_l_seen) .none kV35 dc35 pm35 an35 cd35 ct35
    F_l_seen := F35
    b_l_seen := b35
    m_l_seen := PySem.W.mg_of X G a35
    f_l_ranked := f36
    d_l_ranked := PySem.W.fnOf "_law_ranked" "_law_ranked" (defArgs s_l_ranked) (defBody s_l_ranked) (defScope s_l_ranked) .none kV36 dc36 pm36 an36 cd36 ct36
    F_l_ranked := F36
    b_l_ranked := b36
    m_l_ranked := PySem.W.mg_of X G a36
    f_l_list_so := f37
    d_l_list_so := PySem.W.fnOf "_law_list_so" "_law_list_so" (defArgs s_l_list_so) (defBody s_l_list_so) (defScope s_l_list_so) .none kV37 dc37 pm37 an37 cd37 ct37
    F_l_list_so := F37
    b_l_list_so := b37
    m_l_list_so := PySem.W.mg_of X G a37
    f_l_beside := f38
    d_l_beside := PySem.W.fnOf "_law_beside" "_law_beside" (defArgs s_l_beside) (defBody s_l_beside) (defScope s_l_beside) .none kV38 dc38 pm38 an38 cd38 ct38
    F_l_beside := F38
    b_l_beside := b38
    m_l_beside := PySem.W.mg_of X G a38
    f_l_tone_so := f39
    d_l_tone_so := PySem.W.fnOf "_law_tone_so" "_law_tone_so" (defArgs s_l_tone_so) (defBody s_l_tone_so) (defScope s_l_tone_so) .none kV39 dc39 pm39 an39 cd39 ct39
    F_l_tone_so := F39
    b_l_tone_so := b39
    m_l_tone_so := PySem.W.mg_of X G a39
    f_law := fa
    d_law := PySem.W.fnOf "law" "law" (defArgs s_law) (defBody s_law) (defScope s_law) .none kV40 dc40 pm40 an40 cd40 ct40
    F_law := F40
    b_law := b40
    m_law := PySem.W.mg_of X G a40
    sfR := h_sfR
    ne_Ratio := h_ne_Ratio
    kList := kit_no ic_C_Ratio it_C_Ratio h_kList
    kb_multiplied := kb_multiplied
    kb_in_order := kb_in_order
    kb_led := kb_led
    kb_compared := kb_compared
    kb_within := kb_within
  } )⟩
theorem walk {l : PySem.W.OpenLaw} {q : Program} {loose : List Str} {XP : (Str → Option Value) → Heap → Prop} {YP : World → Heap → Prop} {d : DefRec} {K : Params → PySem.W.Frag} (hn : l.most = some 63) (hdf : d.params.defaults = [])
    (hY : ∀ (w : World) (h : Heap), YP w h → (K w.params).In h)
    (F : ∀ (w : World) (mg : Str → Option Value) (fa : Addr) (h : Heap), (K w.params).In h → h.Ns mainGlobals mg → mg d.name = some (.ref fa) →
      ∃ fd : FuncData, (∀ (s : Shared) (u : Value), BindsTo s fd ⟨[u], []⟩ [("_law_script", u)]) ∧ ∀ base : Heap, (K w.params).In base → base.Ns mainGlobals mg → FnOk l.prog w (K w.params) mg base CX0 10 fa fd ["_law_script"] (spLaw (K w.params))) :
    PySem.W.WalkO q loose XP YP l.row.toRowW d [] (fun f vs => PySem.call f vs) :=
  L2.walk_of (n := 63) (k := 10) (x := "_law_script") (CX := fun _ => CX0) (sp := fun w => spLaw (K w.params)) hn (by decide) hdf ⟨rfl, by decide, by decide⟩ hY F (fun _ _ a ns hl _ hS => ⟨a, ns, rfl, hS, hl, fun _ => rfl⟩) fun _ _ _ _ _ z => z
end TL
open PySem PySem.W PyProof.Rows
set_option maxRecDepth 100000 in
set_option maxHeartbeats 0 in
theorem PySem.Challenge.cw_turnsleft_k04_lists_of_ratios_and_tones_holds : PySem.Challenge.rw_turnsleft_k04_lists_of_ratios_and_tones.Holds := by
  w_on; o_law; k_head; (case hw => w_witness2)
  k_fill
  refine TL.walk (l := PySem.Challenge.rw_turnsleft_k04_lists_of_ratios_and_tones) rfl rfl (fun w h Y => PySem.W.kIn_of Y) ?F
  case F =>
    intro w mg fa h KX G hmg
    refine' TL.all_mk KX G hmg ?z_len ?z_abs ?z_int ?z_isinstance ?z_list ?z_tuple ?z_bool ?z_str ?z_all ?z_zip ?z_range ?z_enumerate ?z_divmod ?z_max ?z_min ?z_reversed ?z_sum ?z_sorted ?aC_Ratio ?pg_Ratio ?hd_Ratio ?po_Ratio ?sa_Ratio ?n_Ratio_over ?n_Ratio_under ?n_Ratio_powers ?ca_Ratio ?cm_Ratio ?cn_Ratio ?ct_Ratio ?aE_PRIMES ?lE_PRIMES ?vE_PRIMES ?aE_NO_POWERS ?lE_NO_POWERS ?vE_NO_POWERS ?aE_LOGS ?lE_LOGS ?vE_LOGS ?gb_gcd ?gi_SLACK ?gi_MANY ?ic_C_Ratio ?it_C_Ratio ?h_kList ?a1 ?l1 ?c1 ?k1 ?a2 ?l2 ?c2 ?k2 ?a3 ?l3 ?c3 ?k3 ?a4 ?i4 ?l4 ?c4 ?k4 ?lT4 ?vT4 ?mk_Ratio ?kc_Ratio ?a5 ?i5 ?l5 ?c5 ?k5 ?a6 ?i6 ?l6 ?c6 ?k6 ?a7 ?i7 ?l7 ?c7 ?k7 ?a8 ?l8 ?c8 ?k8 ?a9 ?l9 ?c9 ?k9 ?a10 ?l10 ?c10 ?k10 ?a11 ?l11 ?c11 ?k11 ?a12 ?l12 ?c12 ?k12 ?a13 ?l13 ?c13 ?k13 ?a14 ?l14 ?c14 ?k14 ?a15 ?l15 ?c15 ?k15 ?a16 ?l16 ?c16 ?k16 ?a17 ?l17 ?c17 ?k17 ?a18 ?l18 ?c18 ?k18 ?a19 ?l19 ?c19 ?k19 ?a20 ?l20 ?c20 ?k20 ?a21 ?l21 ?c21 ?k21 ?a22 ?l22 ?c22 ?k22 ?a23 ?l23 ?c23 ?k23 ?a24 ?l24 ?c24 ?k24 ?a25 ?l25 ?c25 ?k25 ?a26 ?l26 ?c26 ?k26 ?a27 ?l27 ?c27 ?k27 ?a28 ?l28 ?c28 ?k28 ?a29 ?l29 ?c29 ?k29 ?a30 ?l30 ?c30 ?k30 ?a31 ?l31 ?c31 ?k31 ?a32 ?l32 ?c32 ?k32 ?a33 ?l33 ?c33 ?k33 ?a34 ?l34 ?c34 ?k34 ?a35 ?l35 ?c35 ?k35 ?a36 ?l36 ?c36 ?k36 ?a37 ?l37 ?c37 ?k37 ?a38 ?l38 ?c38 ?k38 ?a39 ?l39 ?c39 ?k39 ?a40 ?l40 ?c40 ?k40 ?h_sfR ?h_ne_Ratio
    (case z_len => k_is)
    (case z_abs => k_is)
    (case z_int => k_is)
    (case z_isinstance => k_is)
    (case z_list => k_is)
    (case z_tuple => k_is)
    (case z_bool => k_is)
    (case z_str => k_is)
    (case z_all => k_is)
    (case z_zip => k_is)
    (case z_range => k_is)
    (case z_enumerate => k_is)
    (case z_divmod => k_is)
    (case z_max => k_is)
    (case z_min => k_is)
    (case z_reversed => k_is)
    (case z_sum => k_is)
    (case z_sorted => k_is)
    (case aC_Ratio => k_is)
    (case pg_Ratio => k_is)
    (case hd_Ratio => k_is)
    (case po_Ratio => k_is)
    (case sa_Ratio => k_is)
    (case n_Ratio_over => k_is)
    (case n_Ratio_under => k_is)
    (case n_Ratio_powers => k_is)
    (case ca_Ratio => k_is)
    (case cm_Ratio => k_is)
    (case cn_Ratio => k_is)
    (case ct_Ratio => k_is)
    (case aE_PRIMES => k_is)
    (case lE_PRIMES => k_is)
    (case vE_PRIMES => exact ⟨_, _, rfl, rfl, by decide, .cons ⟨_, rfl⟩ (.cons ⟨_, rfl⟩ (.cons ⟨_, rfl⟩ (.cons ⟨_, rfl⟩ (.cons ⟨_, rfl⟩ (.cons ⟨_, rfl⟩ (.nil))))))⟩)
    (case aE_NO_POWERS => k_is)
    (case lE_NO_POWERS => k_is)
    (case vE_NO_POWERS => exact ⟨_, _, rfl, rfl, by decide, .cons ⟨_, rfl⟩ (.cons ⟨_, rfl⟩ (.cons ⟨_, rfl⟩ (.cons ⟨_, rfl⟩ (.cons ⟨_, rfl⟩ (.cons ⟨_, rfl⟩ (.nil))))))⟩)
    (case aE_LOGS => k_is)
    (case lE_LOGS => k_is)
    (case vE_LOGS => exact ⟨_, _, rfl, rfl, by decide, .cons ⟨_, rfl⟩ (.cons ⟨_, rfl⟩ (.cons ⟨_, rfl⟩ (.cons ⟨_, rfl⟩ (.cons ⟨_, rfl⟩ (.cons ⟨_, rfl⟩ (.nil))))))⟩)
    (case gb_gcd => k_is)
    (case gi_SLACK => k_is)
    (case gi_MANY => k_is)
    (case ic_C_Ratio => k_is)
    (case it_C_Ratio => k_is)
    (case h_kList => k_is)
    (case a1 => k_is)
    (case l1 => k_is)
    (case c1 => k_is)
    (case k1 => k_is)
    (case a2 => k_is)
    (case l2 => k_is)
    (case c2 => k_is)
    (case k2 => k_is)
    (case a3 => k_is)
    (case l3 => k_is)
    (case c3 => k_is)
    (case k3 => k_is)
    (case a4 => k_is)
    (case i4 => k_is)
    (case l4 => k_is)
    (case c4 => k_is)
    (case k4 => k_is)
    (case lT4 => k_is)
    (case vT4 => exact ⟨[_], _, rfl, .cons ⟨_, rfl⟩ .nil⟩)
    (case mk_Ratio => k_is)
    (case kc_Ratio => k_is)
    (case a5 => k_is)
    (case i5 => k_is)
    (case l5 => k_is)
    (case c5 => k_is)
    (case k5 => k_is)
    (case a6 => k_is)
    (case i6 => k_is)
    (case l6 => k_is)
    (case c6 => k_is)
    (case k6 => k_is)
    (case a7 => k_is)
    (case i7 => k_is)
    (case l7 => k_is)
    (case c7 => k_is)
    (case k7 => k_is)
    (case a8 => k_is)
    (case l8 => k_is)
    (case c8 => k_is)
    (case k8 => k_is)
    (case a9 => k_is)
    (case l9 => k_is)
    (case c9 => k_is)
    (case k9 => k_is)
    (case a10 => k_is)
    (case l10 => k_is)
    (case c10 => k_is)
    (case k10 => k_is)
    (case a11 => k_is)
    (case l11 => k_is)
    (case c11 => k_is)
    (case k11 => k_is)
    (case a12 => k_is)
    (case l12 => k_is)
    (case c12 => k_is)
    (case k12 => k_is)
    (case a13 => k_is)
    (case l13 => k_is)
    (case c13 => k_is)
    (case k13 => k_is)
    (case a14 => k_is)
    (case l14 => k_is)
    (case c14 => k_is)
    (case k14 => k_is)
    (case a15 => k_is)
    (case l15 => k_is)
    (case c15 => k_is)
    (case k15 => k_is)
    (case a16 => k_is)
    (case l16 => k_is)
    (case c16 => k_is)
    (case k16 => k_is)
    (case a17 => k_is)
    (case l17 => k_is)
    (case c17 => k_is)
    (case k17 => k_is)
    (case a18 => k_is)
    (case l18 => k_is)
    (case c18 => k_is)
    (case k18 => k_is)
    (case a19 => k_is)
    (case l19 => k_is)
    (case c19 => k_is)
    (case k19 => k_is)
    (case a20 => k_is)
    (case l20 => k_is)
    (case c20 => k_is)
    (case k20 => k_is)
    (case a21 => k_is)
    (case l21 => k_is)
    (case c21 => k_is)
    (case k21 => k_is)
    (case a22 => k_is)
    (case l22 => k_is)
    (case c22 => k_is)
    (case k22 => k_is)
    (case a23 => k_is)
    (case l23 => k_is)
    (case c23 => k_is)
    (case k23 => k_is)
    (case a24 => k_is)
    (case l24 => k_is)
    (case c24 => k_is)
    (case k24 => k_is)
    (case a25 => k_is)
    (case l25 => k_is)
    (case c25 => k_is)
    (case k25 => k_is)
    (case a26 => k_is)
    (case l26 => k_is)
    (case c26 => k_is)
    (case k26 => k_is)
    (case a27 => k_is)
    (case l27 => k_is)
    (case c27 => k_is)
    (case k27 => k_is)
    (case a28 => k_is)
    (case l28 => k_is)
    (case c28 => k_is)
    (case k28 => k_is)
    (case a29 => k_is)
    (case l29 => k_is)
    (case c29 => k_is)
    (case k29 => k_is)
    (case a30 => k_is)
    (case l30 => k_is)
    (case c30 => k_is)
    (case k30 => k_is)
    (case a31 => k_is)
    (case l31 => k_is)
    (case c31 => k_is)
    (case k31 => k_is)
    (case a32 => k_is)
    (case l32 => k_is)
    (case c32 => k_is)
    (case k32 => k_is)
    (case a33 => k_is)
    (case l33 => k_is)
    (case c33 => k_is)
    (case k33 => k_is)
    (case a34 => k_is)
    (case l34 => k_is)
    (case c34 => k_is)
    (case k34 => k_is)
    (case a35 => k_is)
    (case l35 => k_is)
    (case c35 => k_is)
    (case k35 => k_is)
    (case a36 => k_is)
    (case l36 => k_is)
    (case c36 => k_is)
    (case k36 => k_is)
    (case a37 => k_is)
    (case l37 => k_is)
    (case c37 => k_is)
    (case k37 => k_is)
    (case a38 => k_is)
    (case l38 => k_is)
    (case c38 => k_is)
    (case k38 => k_is)
    (case a39 => k_is)
    (case l39 => k_is)
    (case c39 => k_is)
    (case k39 => k_is)
    (case a40 => k_is)
    (case l40 => k_is)
    (case c40 => k_is)
    (case k40 => k_is)
    (case h_sfR => first | rfl | k_is)
    (case h_ne_Ratio => first | rfl | k_is)
