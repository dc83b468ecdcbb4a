import PyProof.Rows.All
import Wide.All
import OpenK.AllK
import Wide.FinOn
import HandS.ForMost
import HandS.OwnEq
import HandS.SlotsOwn
import KE.KOpsOwn
import PyProof.ListMulAny
import PyProof.ConsumeWalk
import PyProof.WalksMore
import HandS.IsInst
import HandS.Wide
import HandS.Zip
import HandS.Defaults
import HandS.Walk
import KE.BitLaws
import KE.KCallOwn
import HandS.ClsMeth
import HandS.MakeKwOnly
import PyProof.InstEq
import KE.KFmtOwn
import HandS.List
import PyProof.WalkInts
import HandS.RevRange
import HandS.Conv
import HandS.Gcd
import HandS.Property
import HandS.WideBits
import HandS.Text
import KE.KIntText
import KE.IntTextLaws
import HandS.FStr
import PyProof.StrOps2
import KE.IntTextText
import PySem.Challenge.RW_turnsleft_k01_names_and_tones_judged
set_option Elab.async false
set_option linter.all false
set_option maxRecDepth 100000
namespace TL
open PySem PySem.Spec PyProof.Rows L2
section
variable {X : Cx} {pins : List (Addr × Obj)} {σ : L2.St} {H : Hp} {s : Shared} {a b C dx dy f : Addr} {fs gs : List (Str × V)} {k : Nat} {fd : FuncData} {ps : List Str} {sp : Sp} {CX : CXT} {E : XK}
theorem inst_at (I : Inv X pins σ H s) (h : H a = some (.ins C dx fs)) : ∃ od, PySem.W.InstAt s.heap a (PySem.W.instObj C dx) C (some od) := by
  obtain ⟨mA, J, _⟩ := ins_get I.hok h
  obtain ⟨od, J, _⟩ := J.look
  exact ⟨od, J⟩
/-- what an own operator's def asks: the def that stands at f in the class at C under a name -/
structure OpAt (K : PySem.W.Frag) (C f : Addr) (name : Str) : Prop where
  sf : PySem.W.selfFirst K C = true
  at_ : PySem.W.findIn K (.ref C) name = some (some (.ref f))
  fn : PySem.W.isFn K (.ref f) = true
/-- x op y, both instances of the class at C -/
def rOw (C : Addr) (sp : Sp) (E : XK) : R2 := fun x y H Q => ∃ a dx fs b dy gs, x = .ref a ∧ y = .ref b ∧ H a = some (.ins C dx fs) ∧ H b = some (.ins C dy gs) ∧ sp [x, y] H Q E
theorem cb {P : Value → Shared → Prop} {z : V} {v : Value} {s' : Shared} (r : RelV z v) (h : P v s') : PySem.W.CmpBack P v s' := by
  cases z with
  | non => cases (show v = Value.none from r); exact h
  | bl b => cases (show v = Value.bool b from r); exact h
  | int i => obtain ⟨t, e⟩ := (show ∃ t, v = Value.int i t from r); cases e; exact h
  | str x => obtain ⟨t, e⟩ := (show ∃ t, v = Value.str x t from r); cases e; exact h
  | byt b => obtain ⟨t, e⟩ := (show ∃ t, v = Value.bytes b t from r); cases e; exact h
  | flt b => obtain ⟨t, e⟩ := (show ∃ t, v = Value.float b t from r); cases e; exact h
  | ref a => cases (show v = Value.ref a from r); exact h
  | ty n => cases (show v = Value.type n from r); exact h
theorem op_ow {op : Operator} (o : OpAt X.K C f (PySem.dunder op.info.2)) (F : FnOk X.prog X.w X.K X.mg X.base CX k f fd ps sp) (hr : Room k X.A) (hb : Binds X.K fd ps []) (hx : Passes CX X E) : OpR X (binaryOp op) (rOw C sp E) := by
  intro pins s σ H x y v u Q I rx ry h
  obtain ⟨a, dx, fs, b, dy, gs, rfl, rfl, ha, hb', q⟩ := h
  cases (show v = Value.ref a from rx)
  cases (show u = Value.ref b from ry)
  obtain ⟨od, J⟩ := inst_at I ha
  obtain ⟨od', J'⟩ := inst_at I hb'
  obtain ⟨m, hF⟩ := I.fr
  refine PySem.W.binop_K hF I.ok.mod.kin J J'.type o.sf o.at_ o.fn ?_
  refine wpAny_mono (run_fn (us := [.ref a, .ref b]) (vs := [.ref a, .ref b]) F hr hb .nil hx I (.cons rfl (.cons rfl .nil)) q) (fun w s' z => ?_) fun _ _ x => x
  obtain ⟨z', H', I', rz, qz⟩ := z
  exact cb rz ⟨z', H', I', rz, qz⟩
/-- x op n, x an instance of the class at C, n a whole number -/
def rOwI (C : Addr) (sp : Sp) (E : XK) : R2 := fun x y H Q => ∃ a dx fs n, x = .ref a ∧ y = .int n ∧ H a = some (.ins C dx fs) ∧ sp [x, y] H Q E
theorem op_owI {op : Operator} {g : Addr} {fo ro : Option Value} (o : OpAt X.K C f (PySem.dunder op.info.2)) (hr1 : PySem.W.findIn X.K (.ref C) (PySem.dunderR op.info.2) = some (some (.ref g)))
    (h1 : PySem.W.findIn X.K (.type "int") (PySem.dunder op.info.2) = some fo) (h2 : PySem.W.findIn X.K (.type "int") (PySem.dunderR op.info.2) = some ro) (hsub : PySem.W.subIn X.K (.type "int") (.ref C) = some false)
    (F : FnOk X.prog X.w X.K X.mg X.base CX k f fd ps sp) (hr : Room k X.A) (hb : Binds X.K fd ps []) (hx : Passes CX X E) : OpR X (binaryOp op) (rOwI C sp E) := by
  intro pins s σ H x y v u Q I rx ry h
  obtain ⟨a, dx, fs, n, rfl, rfl, ha, q⟩ := h
  cases (show v = Value.ref a from rx)
  obtain ⟨t, rfl⟩ := (show ∃ t, u = Value.int n t from ry)
  obtain ⟨od, J⟩ := inst_at I ha
  obtain ⟨m, hF⟩ := I.fr
  refine PySem.W.ksp_binT (T := "int") hF I.ok.mod.kin J rfl o.sf o.at_ o.fn hr1 (.inr ⟨_, rfl⟩) h1 h2 hsub ?_
  refine wpAny_mono (run_fn (us := [.ref a, .int n t]) (vs := [.ref a, .int n]) F hr hb .nil hx I (.cons rfl (.cons ⟨_, rfl⟩ .nil)) q) (fun w s' z => ?_) fun _ _ x => x
  obtain ⟨z', H', I', rz, qz⟩ := z
  exact cb rz ⟨z', H', I', rz, qz⟩
/-- -x -/
def rNeg (C : Addr) (sp : Sp) (E : XK) : V → Hp → VK → Prop := fun x H Q => ∃ a dx fs, x = .ref a ∧ H a = some (.ins C dx fs) ∧ sp [x] H Q E
theorem un_ow (at_ : PySem.W.findIn X.K (.ref C) "__neg__" = some (some (.ref f))) (fn : PySem.W.isFn X.K (.ref f) = true) (F : FnOk X.prog X.w X.K X.mg X.base CX k f fd ps sp) (hr : Room k X.A) (hb : Binds X.K fd ps []) (hx : Passes CX X E) :
    UnR X (unaryOp .USub) (rNeg C sp E) := by
  intro pins s σ H x v Q I rx h
  obtain ⟨a, dx, fs, rfl, ha, q⟩ := h
  cases (show v = Value.ref a from rx)
  obtain ⟨od, J⟩ := inst_at I ha
  obtain ⟨m, hF⟩ := I.fr
  refine PySem.W.ksp_neg hF I.ok.mod.kin J at_ fn ?_
  exact run_fn (us := [.ref a]) (vs := [.ref a]) F hr hb .nil hx I (.cons rfl .nil) q
/-- x == y, both instances of the class at C -/
theorem op_owEq (at_ : PySem.W.findIn X.K (.ref C) "__eq__" = some (some (.ref f))) (fn : PySem.W.isFn X.K (.ref f) = true) (F : FnOk X.prog X.w X.K X.mg X.base CX k f fd ps sp) (hr : Room k X.A) (hb : Binds X.K fd ps []) (hx : Passes CX X E) :
    OpR X (compareOp .Eq) (rOw C sp E) := by
  intro pins s σ H x y v u Q I rx ry h
  obtain ⟨a, dx, fs, b, dy, gs, rfl, rfl, ha, hb', q⟩ := h
  cases (show v = Value.ref a from rx)
  cases (show u = Value.ref b from ry)
  obtain ⟨od, J⟩ := inst_at I ha
  obtain ⟨od', J'⟩ := inst_at I hb'
  obtain ⟨m, hF⟩ := I.fr
  refine PySem.W.cmp_K (op := .Eq) (tb := .ref C) hr.units0 hF I.ok.mod.kin J J'.type (by simp [PySem.W.notFirst]) at_ fn ?_
  refine wpAny_mono (run_fn (us := [.ref a, .ref b]) (vs := [.ref a, .ref b]) F hr hb .nil hx I (.cons rfl (.cons rfl .nil)) q) (fun w s' z => ?_) fun _ _ x => x
  obtain ⟨z', H', I', rz, qz⟩ := z
  exact cb rz ⟨z', H', I', rz, qz⟩
/-- any(t), t a tuple of whole numbers -/
theorem iter_anyT {prog : Program} {w : World} {A : Around} {E : Value → Shared → Prop} {s : Shared} {l : Addr} {items : Array Value} {Q : Value → Shared → Prop} (hl : s.heap.IsTuple l items)
    (h : ∀ s₂ : Shared, s₂ = { s with heap := s.heap.push { cls := .type "tuple_iterator", data := .fields #[.ref l, .int 0 0] } } →
      (s₂.heap.IsTupleIter s.heap.objs.size l 0 ∧ s₂.heap.IsTuple l items) → l ≠ s.heap.objs.size → Q (.ref s.heap.objs.size) s₂) : wpAny (model prog w) A (pyIter (.ref l)) Q E s := by
  have hlt : l < s.heap.objs.size := by obtain ⟨_, e, _⟩ := hl; exact Heap.lt_size e
  exact wpAny_pyIter_tuple hl (h _ rfl ⟨⟨_, Heap.get?_push_size _ rfl, rfl, rfl⟩, hl.push _⟩ (Nat.ne_of_lt hlt))
theorem truth_ints {prog : Program} {w : World} {A : Around} {ns : List Int} {its : List Value} (e : Vals (ns.map V.int) its) :
    TruthOf prog w A (fun i v => its.toArray[i]? = some v) (fun i => ns.getD i 0 != 0) := fun i v s Q E hv hq => by
  have hv' : its[i]? = some v := by simpa using hv
  have hl := e.length
  rw [List.length_map] at hl
  have hi : i < its.length := (List.getElem?_eq_some_iff.mp hv').1
  have hi2 : i < ns.length := by omega
  obtain ⟨u, hu, ru⟩ := e.get (i := i) (x := V.int ns[i]) (by rw [List.getElem?_map, List.getElem?_eq_getElem hi2]; rfl)
  rw [hv'] at hu
  cases hu
  obtain ⟨t, rfl⟩ := ru
  have hg : ns.getD i 0 = ns[i] := by rw [List.getD_eq_getElem?_getD, List.getElem?_eq_getElem hi2]; rfl
  have hq' : Q (ns.getD i 0 != 0) s := hq
  rw [hg] at hq'
  exact PyProof.Rows.truthy_int hq'
theorem any_rangeI : ∀ ns : List Int, (List.range ns.length).any (fun i => ns.getD i 0 != 0) = ns.any (fun n => n != 0)
  | [] => rfl
  | b :: bs => by
    rw [List.length_cons, List.range_succ_eq_map, List.any_cons, List.any_map, List.any_cons, ← any_rangeI bs]
    all_goals rfl
def rAnyT (K : PySem.W.Frag) : List V → Hp → VK → Prop := fun vs H Q => ∃ (a : Addr) (ns : List Int), vs = [V.ref a] ∧ SqT K H a (ns.map V.int) ∧ Q (.bl (ns.any fun n => n != 0)) H
theorem cr_anyT (hc : X.calm = true) : CallR X (.builtin "any") (rAnyT X.K) := by
  intro pins s σ H vs us Q I r h
  obtain ⟨a, ns, rfl, hs, q⟩ := h
  obtain ⟨its, rv, hl, _⟩ := I.tuple hs
  rw [Vals.ref1 r]
  have hlen := rv.length
  rw [List.length_map] at hlen
  refine call_any_walk (iter_anyT (items := its.toArray) (show s.heap.IsTuple a its.toArray from hl) fun s₂ e2 st hne => ?_)
  subst e2
  refine ⟨_, _, _, _, _, _, _, rfl, Walks.tuple (A := X.A.in1) (I.ok.hd hc) _ a hne its.toArray, st, truth_ints rv, fun h' tk hk => ?_⟩
  refine ⟨.bl _, H, I.kept fun b o eo => hk b o (fun hmem => ?_) (Heap.get?_push_of_some _ eo), ?_, q⟩
  · rcases List.mem_cons.mp hmem with e1 | hmem
    · exact absurd (e1 ▸ Heap.lt_size eo) (Nat.lt_irrefl _)
    · cases hmem
  · show Value.bool _ = Value.bool _
    rw [← any_rangeI, List.size_toArray, ← hlen]
/-- bool(x), x an instance with its own __bool__ -/
theorem truthy_X {M : Model} {A : Around} {E' : Value → Shared → Prop} {s : Shared} {K : PySem.W.Frag} {x C f : Addr} {ox : Obj} {od : Option Obj} {Q : Bool → Shared → Prop} (X₀ : K.In s.heap) (I : PySem.W.InstAt s.heap x ox C od) (hs : PySem.W.findIn K (.ref C) "__bool__" = some (some (.ref f))) (hf : PySem.W.isFn K (.ref f) = true)
    (h : wpAny M A (call (.ref f) [.ref x]) (fun r s' => ∃ b, r = Value.bool b ∧ Q b s') E' s) : wpAny M A (truthy (.ref x)) Q E' s := by
  unfold truthy
  refine wpAny_bind (m := callSpecial? (.ref x) (Str.ofString "__bool__")) (PySem.W.special_fn X₀ I hs (beq_iff_eq.mp hf) (wpAny_mono h (fun r s' hr => ?_) fun _ _ y => y))
  obtain ⟨b, rfl, hr⟩ := hr
  exact wpAny_pure hr
theorem bool_own {prog : Program} {w : World} {A : Around} {E' : Value → Shared → Prop} {s : Shared} {K : PySem.W.Frag} {x C f : Addr} {ox : Obj} {od : Option Obj} {Q : Value → Shared → Prop} (X₀ : K.In s.heap) (I : PySem.W.InstAt s.heap x ox C od) (hs : PySem.W.findIn K (.ref C) "__bool__" = some (some (.ref f))) (hf : PySem.W.isFn K (.ref f) = true)
    (h : wpAny (model prog w) A.in1.in1 (call (.ref f) [.ref x]) (fun r s' => ∃ b, r = Value.bool b ∧ Q r s') E' s) : wpAny (model prog w) A (call (.type "bool") [.ref x]) Q E' s := by
  refine callType_codes (T := "bool") (Bi := Builtin.«object.__init__») (Q₁ := fun r s₁ => ∃ b, r = Value.bool b ∧ Q r s₁) PySem.F.called_bool (PySem.F.typeCall_bool_1 _) PySem.F.entry_object_init ?_ ?_
  · refine codeAny_of_tree ?_
    show wpAny _ A.in1.in1 (do checkBuiltinCall "bool.__new__" ⟨[.type "bool", .ref x], []⟩; again (.builtin "bool.__new__" ⟨[.type "bool", .ref x], []⟩)) _ _ s
    refine wpAny_bind (wpAny_of_eq (PySem.F.newCall_bool_1 _) (wpAny_pure ⟨plainId_quiet (by decide +kernel) _, codeAny_builtin PySem.F.entry_bool_new ?_⟩))
    rw [Around.under_plainId (by decide +kernel) _]
    unfold Builtin.«bool.__new__»
    refine wpAny_bind (wpAny_of_eq (a := true) rfl ?_)
    refine PySem.W.KFB.if_not rfl ?_
    refine wpAny_bind (wpAny_of_eq (a := true) PySem.F.conv_sub_bool ?_)
    refine PySem.W.KFB.if_not rfl ?_
    refine wpAny_bind (wpAny_of_eq (a := [Value.ref x]) rfl ?_)
    refine wpAny_bind (truthy_X X₀ I hs hf (wpAny_mono h (fun r s₁ hr => ?_) fun _ _ y => y))
    obtain ⟨b, rfl, hq⟩ := hr
    exact ⟨b, rfl, wpAny_pure ⟨b, rfl, hq⟩⟩
  · rintro obj s₁ ⟨b, rfl, hq⟩
    exact ⟨PySem.typeIs_bool _ _, PySem.F.args_object_init_2 _ _, object_init_meets PySem.F.called_bool.init.lookup PySem.F.called_bool.made (by decide) prog w A.in1 _ s₁ ⟨PySem.typeIs_bool _ _, rfl, hq⟩⟩
def rBoolOw (C : Addr) (sp : Sp) (E : XK) : List V → Hp → VK → Prop := fun vs H Q => ∃ a dx fs, vs = [.ref a] ∧ H a = some (.ins C dx fs) ∧ sp [.ref a] H (fun v H' => ∃ b, v = .bl b ∧ Q v H') E
theorem run_at2 {A : Around} {Q : VK} {us : List Value} {ws : List V} (F : FnOk X.prog X.w X.K X.mg X.base CX k f fd ps sp) (hr : Room k A) (e0 : Env0 X.prog X.w X.K X.mg X.base A X.stack s H) (hb : Binds X.K fd ps []) (hx : Passes CX X E) (I : Inv X pins σ H s) (r : Vals ws us) (h : sp ws H Q E) :
    wpAny (model X.prog X.w) A (call (.ref f) us) (EP X pins σ Q) X.xe s := by
  have hl : us.length = ps.length := by rw [← r.length]; exact F.len _ _ _ _ h
  refine wpAny_call (codeAny_mono (F.run A X.stack s H ⟨us, []⟩ us ws Q E hr e0 (by have := hb s us I.kIn (by simpa using hl); simpa using this) r h) fun r s' hq => ?_)
  cases r with
  | error e => exact hx pins σ H s e s' I hq
  | ok fl =>
    cases fl with
    | ret u => exact I.after hq
    | next => exact False.elim hq
    | brk => exact False.elim hq
    | cont => exact False.elim hq
theorem call_boolOw (at_ : PySem.W.findIn X.K (.ref C) "__bool__" = some (some (.ref f))) (fn : PySem.W.isFn X.K (.ref f) = true) (F : FnOk X.prog X.w X.K X.mg X.base CX k f fd ps sp) (hr : Room (k + 2) X.A) (hb : Binds X.K fd ps []) (hx : Passes CX X E) :
    CallR X (.type "bool") (rBoolOw C sp E) := by
  intro pins s σ H vs us Q I r h
  obtain ⟨a, dx, fs, rfl, ha, q⟩ := h
  obtain rfl := Vals.ref1 r
  obtain ⟨od, J⟩ := inst_at I ha
  have hr2 : Room k X.A.in1.in1 := (show Room (k + 1) X.A.in1 from Room.in1 hr).in1
  refine bool_own I.kIn J at_ fn (wpAny_mono (run_at2 (us := [.ref a]) (ws := [.ref a]) F hr2 I.env0.in1.in1 hb hx I (.cons rfl .nil) q) (fun w s' z => ?_) fun _ _ x => x)
  obtain ⟨z', H', I', rz, b, rfl, qz⟩ := z
  cases (show w = Value.bool b from rz)
  exact ⟨b, rfl, .bl b, H', I', rfl, qz⟩
/-- n op x, n a whole number, x an instance of the class at C with the reflected def -/
theorem int_mul_ref (a : Int) (t : Tok) (x C dx : Addr) :
    Meets (Builtin.«int.__mul__» ⟨[.int a t, .ref x], []⟩) (fun _ R s => (∃ od, s.heap.get? x = some (PySem.W.instObj C dx) ∧ od = dx) ∧ R (.ok (.ret Value.notImplemented)) s) :=
  .of_wp fun prog w A R s h => by obtain ⟨hp, g, d, tk, os⟩ := s; obtain ⟨⟨_, hl, _⟩, h⟩ := h; wp_walk; exact ⟨_, rfl, h⟩
def rIOw (C : Addr) (sp : Sp) (E : XK) : R2 := fun x y H Q => ∃ a dx fs n, x = .int n ∧ y = .ref a ∧ H a = some (.ins C dx fs) ∧ sp [y, x] H Q E
set_option maxHeartbeats 2000000 in
theorem binR {prog : Program} {w : World} {A : Around} {E' : Value → Shared → Prop} {s : Shared} {K : PySem.W.Frag} {x C f g : Addr} {dx : Addr} {od : Option Obj} {n : Int} {t : Tok} {Q : Value → Shared → Prop}
    (X : K.In s.heap) (I : PySem.W.InstAt s.heap x (PySem.W.instObj C dx) C od) (hc : PySem.W.selfFirst K C = true) (hs : PySem.W.findIn K (.ref C) (PySem.dunder "mul") = some (some (.ref g)))
    (hr : PySem.W.findIn K (.ref C) (PySem.dunderR "mul") = some (some (.ref f))) (hf : PySem.W.isFn K (.ref f) = true) (hsub : PySem.W.subIn K (.ref C) (.type "int") = some false) (hx : s.heap.get? x = some (PySem.W.instObj C dx))
    (h : wpAny (model prog w) A (call (.ref f) [.ref x, .int n t]) (PySem.W.CmpBack Q) E' s) : wpAny (model prog w) A (binaryOp .Mult (.int n t) (.ref x)) Q E' s := by
  obtain ⟨cd, rest, hcd, hm⟩ := PySem.W.ksp_first hc
  have one := PySem.W.ksp_try (name := PySem.dunderR "mul") X I hr hf h
  obtain ⟨hh, gg, d, tt, os⟩ := s
  have L1 : PySem.W.Looks (model prog w) hh (typeOf (.ref x)) (.ref C) := I.type
  have L2 : PySem.W.Looks (model prog w) hh (typeOf (.int n t)) (.type "int") := PySem.W.Looks.of_pure rfl
  have L3 : PySem.W.Looks (model prog w) hh (fillsNumberSlot (.ref C) "mul") true := PySem.W.fills_K (nm := "mul") X hcd hm hs
  have L4 : PySem.W.Looks (model prog w) hh (fillsNumberSlot (.type "int") "mul") true := PySem.W.Looks.of_pure PySem.F.fills_int_mul
  have L5 : PySem.W.Looks (model prog w) hh (isSubtype (.ref C) (.type "int")) false := PySem.W.looks_subIn X hsub
  have L7 : PySem.W.Looks (model prog w) hh (numberSlotInPython (.type "int") "mul") false := PySem.W.Looks.of_pure rfl
  have hne : (Value.type "int" == Value.ref C) = false := Bool.eq_false_iff.mpr fun q => by cases beq_iff_eq.mp q
  show wpAny _ _ (binaryOp .Mult (.int n t) (.ref x)) _ _ _
  simp only [binaryOp, Operator.info]
  refine wpAny_holding (wpAny_bind ?_)
  unfold binaryOp1
  refine wpAny_bind (L2.at (wpAny_bind (L1.at (wpAny_bind (L4.at ?_)))))
  simp only [hne, Bool.false_eq_true, if_false]
  refine wpAny_bind (L3.at ?_)
  simp only [Bool.and_self, if_true]
  refine wpAny_bind (L5.at ?_)
  simp only [Bool.false_eq_true, if_false, Bool.not_false, Bool.and_self, if_true, pure_bind]
  refine wpAny_bind (L7.at ?_)
  simp only [Bool.false_eq_true, if_false, pure_bind]
  refine wpAny_bind (wpAny_tryMethod_declines (PySem.typeIs_int _ n t) PySem.F.slot_int_mul (call_meets PySem.F.slot_int_mul (PySem.typeIs_int _ n t) PySem.F.entry_int_mul (PySem.F.args_int_mul_2 _ _) (int_mul_ref n t x C dx) ⟨⟨dx, hx, rfl⟩, rfl, ?_⟩))
  simp only [Bool.false_eq_true, if_false, pure_bind]
  refine wpAny_bind (wpAny_mono one (fun r s' hr' => ?_) fun _ _ e => e)
  obtain ⟨v, rfl, hq⟩ := hr'
  exact wpAny_bind (wpAny_rule (wpAny_pure (wpAny_pure hq)))
theorem op_IOw (o : OpAt X.K C f (PySem.dunderR "mul")) {g : Addr} (hm : PySem.W.findIn X.K (.ref C) (PySem.dunder "mul") = some (some (.ref g))) (hsub : PySem.W.subIn X.K (.ref C) (.type "int") = some false)
    (F : FnOk X.prog X.w X.K X.mg X.base CX k f fd ps sp) (hr : Room k X.A) (hb : Binds X.K fd ps []) (hx : Passes CX X E) : OpR X (binaryOp .Mult) (rIOw C sp E) := by
  intro pins s σ H x y v u Q I rx ry h
  obtain ⟨a, dx, fs, n, rfl, rfl, ha, q⟩ := h
  obtain ⟨t, rfl⟩ := (show ∃ t, v = Value.int n t from rx)
  cases (show u = Value.ref a from ry)
  obtain ⟨mA, O, _⟩ := ins_get I.hok ha
  obtain ⟨od, J, _⟩ := O.look
  refine binR I.kIn J o.sf hm o.at_ o.fn hsub O.obj ?_
  refine wpAny_mono (run_fn (us := [.ref a, .int n t]) (vs := [.ref a, .int n]) F hr hb .nil hx I (.cons rfl (.cons ⟨_, rfl⟩ .nil)) q) (fun w s' z => ?_) fun _ _ x => x
  obtain ⟨z', H', I', rz, qz⟩ := z
  exact cb rz ⟨z', H', I', rz, qz⟩
end
theorem d_add : PySem.dunder Operator.Add.info.2 = ("__add__" : Str) := by decide +kernel
theorem d_sub : PySem.dunder Operator.Sub.info.2 = ("__sub__" : Str) := by decide +kernel
theorem d_mul : PySem.dunder Operator.Mult.info.2 = ("__mul__" : Str) := by decide +kernel
theorem d_mul' : PySem.dunder "mul" = ("__mul__" : Str) := by decide +kernel
theorem d_rmul : PySem.dunderR Operator.Mult.info.2 = ("__rmul__" : Str) := by decide +kernel
theorem d_rmul' : PySem.dunderR "mul" = ("__rmul__" : Str) := by decide +kernel
end TL
namespace TL
open PySem L2
/-! ### heaps -/
theorem Same.new {H : Hp} {p : Addr} {o : HO} (h : H p = none) : Same H (upd H p o) := fun b u q => by rw [upd_ne (ne_of_none q h)]; exact q
theorem seqT {K : PySem.W.Frag} {H H' : Hp} {a : Addr} {xs : List V} (e : Same H H') (h : SqT K H a xs) : SqT K H' a xs := by
  rcases h with (h | ⟨o, h⟩) | h
  · exact .inl (.inl (e _ _ h))
  · exact .inl (.inr ⟨o, e _ _ h⟩)
  · exact .inr h
/-- but for what stands at g, all that was tracked is as it was -/
def Kb (g : Addr) (H H' : Hp) : Prop := ∀ a o, H a = some o → a ≠ g → H' a = some o
theorem Kb.refl (g : Addr) (H : Hp) : Kb g H H := fun _ _ h _ => h
theorem Kb.trans {g : Addr} {H H1 H2 : Hp} (a : Kb g H H1) (b : Kb g H1 H2) : Kb g H H2 := fun c o h n => b c o (a c o h n) n
theorem Kb.same {g : Addr} {H H' : Hp} (a : Same H H') : Kb g H H' := fun c o h _ => a c o h
theorem Kb.at {g : Addr} {H : Hp} {o : HO} : Kb g H (upd H g o) := fun c u h n => by rw [upd_ne n]; exact h
theorem Kb.new {g p : Addr} {H H' : Hp} {o : HO} (a : Kb g H H') (h : H' p = none) : Kb g H (upd H' p o) := a.trans (Kb.same (Same.new h))
theorem tyx_L {K : PySem.W.Frag} {H : Hp} {a : Addr} {xs : List V} (h : SqL K H a xs) : TyX K H (.ref a) (.type "list") := by
  rcases h with (h | ⟨o, h⟩) | ⟨o, its, n, h, c, _⟩
  · exact .base (.lst h)
  · exact .base (.frz h)
  · exact .kList h c
theorem tyx_T {K : PySem.W.Frag} {H : Hp} {a : Addr} {xs : List V} (h : SqT K H a xs) : TyX K H (.ref a) (.type "tuple") := by
  rcases h with (h | ⟨o, h⟩) | ⟨o, its, n, h, c, _⟩
  · exact .base (.tup h)
  · exact .fTuple h
  · exact .kTuple h c
theorem fm {i j : Int} (h : 0 < j) : 0 ≤ i.fmod j ∧ i.fmod j < j := ⟨Int.fmod_nonneg_of_pos _ h, Int.fmod_lt_of_pos _ h⟩
theorem kt_int_list {K : PySem.W.Frag} : PySem.W.kitOne K (.type "int") (.type "list") = some false := kit_ty (by decide +kernel)
theorem kt_int_tuple {K : PySem.W.Frag} : PySem.W.kitOne K (.type "int") (.type "tuple") = some false := kit_ty (by decide +kernel)
theorem kt_int_bool {K : PySem.W.Frag} : PySem.W.kitOne K (.type "int") (.type "bool") = some false := kit_ty (by decide +kernel)
theorem kt_int_int {K : PySem.W.Frag} : PySem.W.kitOne K (.type "int") (.type "int") = some true := kit_ty (by decide +kernel)
theorem kt_int_str {K : PySem.W.Frag} : PySem.W.kitOne K (.type "int") (.type "str") = some false := kit_ty (by decide +kernel)
theorem kt_int_dict {K : PySem.W.Frag} : PySem.W.kitOne K (.type "int") (.type "dict") = some false := kit_ty (by decide +kernel)
theorem kt_bool_list {K : PySem.W.Frag} : PySem.W.kitOne K (.type "bool") (.type "list") = some false := kit_ty (by decide +kernel)
theorem kt_bool_tuple {K : PySem.W.Frag} : PySem.W.kitOne K (.type "bool") (.type "tuple") = some false := kit_ty (by decide +kernel)
theorem kt_bool_bool {K : PySem.W.Frag} : PySem.W.kitOne K (.type "bool") (.type "bool") = some true := kit_ty (by decide +kernel)
theorem kt_bool_int {K : PySem.W.Frag} : PySem.W.kitOne K (.type "bool") (.type "int") = some true := kit_ty (by decide +kernel)
theorem kt_bool_str {K : PySem.W.Frag} : PySem.W.kitOne K (.type "bool") (.type "str") = some false := kit_ty (by decide +kernel)
theorem kt_bool_dict {K : PySem.W.Frag} : PySem.W.kitOne K (.type "bool") (.type "dict") = some false := kit_ty (by decide +kernel)
theorem kt_str_list {K : PySem.W.Frag} : PySem.W.kitOne K (.type "str") (.type "list") = some false := kit_ty (by decide +kernel)
theorem kt_str_tuple {K : PySem.W.Frag} : PySem.W.kitOne K (.type "str") (.type "tuple") = some false := kit_ty (by decide +kernel)
theorem kt_str_bool {K : PySem.W.Frag} : PySem.W.kitOne K (.type "str") (.type "bool") = some false := kit_ty (by decide +kernel)
theorem kt_str_int {K : PySem.W.Frag} : PySem.W.kitOne K (.type "str") (.type "int") = some false := kit_ty (by decide +kernel)
theorem kt_str_str {K : PySem.W.Frag} : PySem.W.kitOne K (.type "str") (.type "str") = some true := kit_ty (by decide +kernel)
theorem kt_str_dict {K : PySem.W.Frag} : PySem.W.kitOne K (.type "str") (.type "dict") = some false := kit_ty (by decide +kernel)
theorem kt_NoneType_list {K : PySem.W.Frag} : PySem.W.kitOne K (.type "NoneType") (.type "list") = some false := kit_ty (by decide +kernel)
theorem kt_NoneType_tuple {K : PySem.W.Frag} : PySem.W.kitOne K (.type "NoneType") (.type "tuple") = some false := kit_ty (by decide +kernel)
theorem kt_NoneType_bool {K : PySem.W.Frag} : PySem.W.kitOne K (.type "NoneType") (.type "bool") = some false := kit_ty (by decide +kernel)
theorem kt_NoneType_int {K : PySem.W.Frag} : PySem.W.kitOne K (.type "NoneType") (.type "int") = some false := kit_ty (by decide +kernel)
theorem kt_NoneType_str {K : PySem.W.Frag} : PySem.W.kitOne K (.type "NoneType") (.type "str") = some false := kit_ty (by decide +kernel)
theorem kt_NoneType_dict {K : PySem.W.Frag} : PySem.W.kitOne K (.type "NoneType") (.type "dict") = some false := kit_ty (by decide +kernel)
theorem kt_list_list {K : PySem.W.Frag} : PySem.W.kitOne K (.type "list") (.type "list") = some true := kit_ty (by decide +kernel)
theorem kt_list_tuple {K : PySem.W.Frag} : PySem.W.kitOne K (.type "list") (.type "tuple") = some false := kit_ty (by decide +kernel)
theorem kt_list_bool {K : PySem.W.Frag} : PySem.W.kitOne K (.type "list") (.type "bool") = some false := kit_ty (by decide +kernel)
theorem kt_list_int {K : PySem.W.Frag} : PySem.W.kitOne K (.type "list") (.type "int") = some false := kit_ty (by decide +kernel)
theorem kt_list_str {K : PySem.W.Frag} : PySem.W.kitOne K (.type "list") (.type "str") = some false := kit_ty (by decide +kernel)
theorem kt_list_dict {K : PySem.W.Frag} : PySem.W.kitOne K (.type "list") (.type "dict") = some false := kit_ty (by decide +kernel)
theorem kt_tuple_list {K : PySem.W.Frag} : PySem.W.kitOne K (.type "tuple") (.type "list") = some false := kit_ty (by decide +kernel)
theorem kt_tuple_tuple {K : PySem.W.Frag} : PySem.W.kitOne K (.type "tuple") (.type "tuple") = some true := kit_ty (by decide +kernel)
theorem kt_tuple_bool {K : PySem.W.Frag} : PySem.W.kitOne K (.type "tuple") (.type "bool") = some false := kit_ty (by decide +kernel)
theorem kt_tuple_int {K : PySem.W.Frag} : PySem.W.kitOne K (.type "tuple") (.type "int") = some false := kit_ty (by decide +kernel)
theorem kt_tuple_str {K : PySem.W.Frag} : PySem.W.kitOne K (.type "tuple") (.type "str") = some false := kit_ty (by decide +kernel)
theorem kt_tuple_dict {K : PySem.W.Frag} : PySem.W.kitOne K (.type "tuple") (.type "dict") = some false := kit_ty (by decide +kernel)
theorem rIsi_mk {K : PySem.W.Frag} {H : Hp} {Q : VK} {x c : V} {t u : Value} {b : Bool} (ty : TyX K H x t) (cl : ClsV c u) (e : PySem.W.kitOne K t u = some b) (q : Q (.bl b) H) : rIsi K [x, c] H Q := ⟨x, c, t, u, b, rfl, cl, ty, e, q⟩
theorem ri_int_list {K : PySem.W.Frag} {H : Hp} {Q : VK} {i : Int} (q : Q (.bl false) H) : rIsi K [.int i, .ty "list"] H Q := rIsi_mk (TyX.base (TyOf.int _)) (ClsV.ty _) kt_int_list q
theorem ri_int_tuple {K : PySem.W.Frag} {H : Hp} {Q : VK} {i : Int} (q : Q (.bl false) H) : rIsi K [.int i, .ty "tuple"] H Q := rIsi_mk (TyX.base (TyOf.int _)) (ClsV.ty _) kt_int_tuple q
theorem ri_int_bool {K : PySem.W.Frag} {H : Hp} {Q : VK} {i : Int} (q : Q (.bl false) H) : rIsi K [.int i, .ty "bool"] H Q := rIsi_mk (TyX.base (TyOf.int _)) (ClsV.ty _) kt_int_bool q
theorem ri_int_int {K : PySem.W.Frag} {H : Hp} {Q : VK} {i : Int} (q : Q (.bl true) H) : rIsi K [.int i, .ty "int"] H Q := rIsi_mk (TyX.base (TyOf.int _)) (ClsV.ty _) kt_int_int q
theorem ri_int_str {K : PySem.W.Frag} {H : Hp} {Q : VK} {i : Int} (q : Q (.bl false) H) : rIsi K [.int i, .ty "str"] H Q := rIsi_mk (TyX.base (TyOf.int _)) (ClsV.ty _) kt_int_str q
theorem ri_int_dict {K : PySem.W.Frag} {H : Hp} {Q : VK} {i : Int} (q : Q (.bl false) H) : rIsi K [.int i, .ty "dict"] H Q := rIsi_mk (TyX.base (TyOf.int _)) (ClsV.ty _) kt_int_dict q
theorem ri_bool_list {K : PySem.W.Frag} {H : Hp} {Q : VK} {c : Bool} (q : Q (.bl false) H) : rIsi K [.bl c, .ty "list"] H Q := rIsi_mk (TyX.base (TyOf.bl _)) (ClsV.ty _) kt_bool_list q
theorem ri_bool_tuple {K : PySem.W.Frag} {H : Hp} {Q : VK} {c : Bool} (q : Q (.bl false) H) : rIsi K [.bl c, .ty "tuple"] H Q := rIsi_mk (TyX.base (TyOf.bl _)) (ClsV.ty _) kt_bool_tuple q
theorem ri_bool_bool {K : PySem.W.Frag} {H : Hp} {Q : VK} {c : Bool} (q : Q (.bl true) H) : rIsi K [.bl c, .ty "bool"] H Q := rIsi_mk (TyX.base (TyOf.bl _)) (ClsV.ty _) kt_bool_bool q
theorem ri_bool_int {K : PySem.W.Frag} {H : Hp} {Q : VK} {c : Bool} (q : Q (.bl true) H) : rIsi K [.bl c, .ty "int"] H Q := rIsi_mk (TyX.base (TyOf.bl _)) (ClsV.ty _) kt_bool_int q
theorem ri_bool_str {K : PySem.W.Frag} {H : Hp} {Q : VK} {c : Bool} (q : Q (.bl false) H) : rIsi K [.bl c, .ty "str"] H Q := rIsi_mk (TyX.base (TyOf.bl _)) (ClsV.ty _) kt_bool_str q
theorem ri_bool_dict {K : PySem.W.Frag} {H : Hp} {Q : VK} {c : Bool} (q : Q (.bl false) H) : rIsi K [.bl c, .ty "dict"] H Q := rIsi_mk (TyX.base (TyOf.bl _)) (ClsV.ty _) kt_bool_dict q
theorem ri_str_list {K : PySem.W.Frag} {H : Hp} {Q : VK} {z : Str} (q : Q (.bl false) H) : rIsi K [.str z, .ty "list"] H Q := rIsi_mk (TyX.base (TyOf.str _)) (ClsV.ty _) kt_str_list q
theorem ri_str_tuple {K : PySem.W.Frag} {H : Hp} {Q : VK} {z : Str} (q : Q (.bl false) H) : rIsi K [.str z, .ty "tuple"] H Q := rIsi_mk (TyX.base (TyOf.str _)) (ClsV.ty _) kt_str_tuple q
theorem ri_str_bool {K : PySem.W.Frag} {H : Hp} {Q : VK} {z : Str} (q : Q (.bl false) H) : rIsi K [.str z, .ty "bool"] H Q := rIsi_mk (TyX.base (TyOf.str _)) (ClsV.ty _) kt_str_bool q
theorem ri_str_int {K : PySem.W.Frag} {H : Hp} {Q : VK} {z : Str} (q : Q (.bl false) H) : rIsi K [.str z, .ty "int"] H Q := rIsi_mk (TyX.base (TyOf.str _)) (ClsV.ty _) kt_str_int q
theorem ri_str_str {K : PySem.W.Frag} {H : Hp} {Q : VK} {z : Str} (q : Q (.bl true) H) : rIsi K [.str z, .ty "str"] H Q := rIsi_mk (TyX.base (TyOf.str _)) (ClsV.ty _) kt_str_str q
theorem ri_str_dict {K : PySem.W.Frag} {H : Hp} {Q : VK} {z : Str} (q : Q (.bl false) H) : rIsi K [.str z, .ty "dict"] H Q := rIsi_mk (TyX.base (TyOf.str _)) (ClsV.ty _) kt_str_dict q
theorem ri_NoneType_list {K : PySem.W.Frag} {H : Hp} {Q : VK}  (q : Q (.bl false) H) : rIsi K [.non, .ty "list"] H Q := rIsi_mk (TyX.base TyOf.non) (ClsV.ty _) kt_NoneType_list q
theorem ri_NoneType_tuple {K : PySem.W.Frag} {H : Hp} {Q : VK}  (q : Q (.bl false) H) : rIsi K [.non, .ty "tuple"] H Q := rIsi_mk (TyX.base TyOf.non) (ClsV.ty _) kt_NoneType_tuple q
theorem ri_NoneType_bool {K : PySem.W.Frag} {H : Hp} {Q : VK}  (q : Q (.bl false) H) : rIsi K [.non, .ty "bool"] H Q := rIsi_mk (TyX.base TyOf.non) (ClsV.ty _) kt_NoneType_bool q
theorem ri_NoneType_int {K : PySem.W.Frag} {H : Hp} {Q : VK}  (q : Q (.bl false) H) : rIsi K [.non, .ty "int"] H Q := rIsi_mk (TyX.base TyOf.non) (ClsV.ty _) kt_NoneType_int q
theorem ri_NoneType_str {K : PySem.W.Frag} {H : Hp} {Q : VK}  (q : Q (.bl false) H) : rIsi K [.non, .ty "str"] H Q := rIsi_mk (TyX.base TyOf.non) (ClsV.ty _) kt_NoneType_str q
theorem ri_NoneType_dict {K : PySem.W.Frag} {H : Hp} {Q : VK}  (q : Q (.bl false) H) : rIsi K [.non, .ty "dict"] H Q := rIsi_mk (TyX.base TyOf.non) (ClsV.ty _) kt_NoneType_dict q
theorem ri_list_list {K : PySem.W.Frag} {H : Hp} {Q : VK} {a : Addr} {xs : List V} (h : SqL K H a xs) (q : Q (.bl true) H) : rIsi K [.ref a, .ty "list"] H Q := rIsi_mk (tyx_L h) (ClsV.ty _) kt_list_list q
theorem ri_list_tuple {K : PySem.W.Frag} {H : Hp} {Q : VK} {a : Addr} {xs : List V} (h : SqL K H a xs) (q : Q (.bl false) H) : rIsi K [.ref a, .ty "tuple"] H Q := rIsi_mk (tyx_L h) (ClsV.ty _) kt_list_tuple q
theorem ri_list_bool {K : PySem.W.Frag} {H : Hp} {Q : VK} {a : Addr} {xs : List V} (h : SqL K H a xs) (q : Q (.bl false) H) : rIsi K [.ref a, .ty "bool"] H Q := rIsi_mk (tyx_L h) (ClsV.ty _) kt_list_bool q
theorem ri_list_int {K : PySem.W.Frag} {H : Hp} {Q : VK} {a : Addr} {xs : List V} (h : SqL K H a xs) (q : Q (.bl false) H) : rIsi K [.ref a, .ty "int"] H Q := rIsi_mk (tyx_L h) (ClsV.ty _) kt_list_int q
theorem ri_list_str {K : PySem.W.Frag} {H : Hp} {Q : VK} {a : Addr} {xs : List V} (h : SqL K H a xs) (q : Q (.bl false) H) : rIsi K [.ref a, .ty "str"] H Q := rIsi_mk (tyx_L h) (ClsV.ty _) kt_list_str q
theorem ri_list_dict {K : PySem.W.Frag} {H : Hp} {Q : VK} {a : Addr} {xs : List V} (h : SqL K H a xs) (q : Q (.bl false) H) : rIsi K [.ref a, .ty "dict"] H Q := rIsi_mk (tyx_L h) (ClsV.ty _) kt_list_dict q
theorem ri_tuple_list {K : PySem.W.Frag} {H : Hp} {Q : VK} {a : Addr} {xs : List V} (h : SqT K H a xs) (q : Q (.bl false) H) : rIsi K [.ref a, .ty "list"] H Q := rIsi_mk (tyx_T h) (ClsV.ty _) kt_tuple_list q
theorem ri_tuple_tuple {K : PySem.W.Frag} {H : Hp} {Q : VK} {a : Addr} {xs : List V} (h : SqT K H a xs) (q : Q (.bl true) H) : rIsi K [.ref a, .ty "tuple"] H Q := rIsi_mk (tyx_T h) (ClsV.ty _) kt_tuple_tuple q
theorem ri_tuple_bool {K : PySem.W.Frag} {H : Hp} {Q : VK} {a : Addr} {xs : List V} (h : SqT K H a xs) (q : Q (.bl false) H) : rIsi K [.ref a, .ty "bool"] H Q := rIsi_mk (tyx_T h) (ClsV.ty _) kt_tuple_bool q
theorem ri_tuple_int {K : PySem.W.Frag} {H : Hp} {Q : VK} {a : Addr} {xs : List V} (h : SqT K H a xs) (q : Q (.bl false) H) : rIsi K [.ref a, .ty "int"] H Q := rIsi_mk (tyx_T h) (ClsV.ty _) kt_tuple_int q
theorem ri_tuple_str {K : PySem.W.Frag} {H : Hp} {Q : VK} {a : Addr} {xs : List V} (h : SqT K H a xs) (q : Q (.bl false) H) : rIsi K [.ref a, .ty "str"] H Q := rIsi_mk (tyx_T h) (ClsV.ty _) kt_tuple_str q
theorem ri_tuple_dict {K : PySem.W.Frag} {H : Hp} {Q : VK} {a : Addr} {xs : List V} (h : SqT K H a xs) (q : Q (.bl false) H) : rIsi K [.ref a, .ty "dict"] H Q := rIsi_mk (tyx_T h) (ClsV.ty _) kt_tuple_dict q
def rLenSq (K : PySem.W.Frag) : List V → Hp → VK → Prop := fun xs H Q => ∃ p ys, xs = [.ref p] ∧ (SqL K H p ys ∨ SqT K H p ys) ∧ Q (.int ys.length) H
def rListOf (K : PySem.W.Frag) : List V → Hp → VK → Prop := fun xs H Q => ∃ p ys, xs = [.ref p] ∧ (SqL K H p ys ∨ SqT K H p ys) ∧ ∀ l, H l = none → Q (.ref l) (upd H l (.lst ys))
def rTupOf (K : PySem.W.Frag) : List V → Hp → VK → Prop := fun xs H Q => ∃ p ys, xs = [.ref p] ∧ ((SqL K H p ys ∧ ∀ l, H l = none → Q (.ref l) (upd H l (.tup ys))) ∨ (SqT K H p ys ∧ Q (.ref p) H))
/-- a list or a tuple -/
def Sq (K : PySem.W.Frag) (H : Hp) (a : Addr) (xs : List V) : Prop := SqL K H a xs ∨ SqT K H a xs
theorem Sq.same {K : PySem.W.Frag} {H H' : Hp} {a : Addr} {xs : List V} (h : Sq K H a xs) (s : Same H H') : Sq K H' a xs := h.elim (fun q => .inl (s.seq q)) fun q => .inr (seqT s q)
theorem seqL_ins {K : PySem.W.Frag} {H : Hp} {a p C dx : Addr} {fs : List (Str × V)} {o : HO} {xs : List V} (hp : H p = some (.ins C dx fs)) (h : SqL K H a xs) : SqL K (upd H p o) a xs := by
  rcases h with (h | ⟨u, h⟩) | h
  · exact .inl (.inl (by rw [upd_ne (ne_of h hp (by intro z; cases z))]; exact h))
  · exact .inl (.inr ⟨u, by rw [upd_ne (ne_of h hp (by intro z; cases z))]; exact h⟩)
  · exact .inr h
theorem seqT_ins {K : PySem.W.Frag} {H : Hp} {a p C dx : Addr} {fs : List (Str × V)} {o : HO} {xs : List V} (hp : H p = some (.ins C dx fs)) (h : SqT K H a xs) : SqT K (upd H p o) a xs := by
  rcases h with (h | ⟨u, h⟩) | h
  · exact .inl (.inl (by rw [upd_ne (ne_of h hp (by intro z; cases z))]; exact h))
  · exact .inl (.inr ⟨u, by rw [upd_ne (ne_of h hp (by intro z; cases z))]; exact h⟩)
  · exact .inr h
theorem Sq.ins {K : PySem.W.Frag} {H : Hp} {a p C dx : Addr} {fs : List (Str × V)} {o : HO} {xs : List V} (h : Sq K H a xs) (hp : H p = some (.ins C dx fs)) : Sq K (upd H p o) a xs := h.elim (fun q => .inl (seqL_ins hp q)) fun q => .inr (seqT_ins hp q)
/-- tuple(x) of either -/
def rTup1 (K : PySem.W.Frag) : List V → Hp → VK → Prop := fun vs H Q => ∃ p xs, vs = [.ref p] ∧ Sq K H p xs ∧ ∀ t H', Same H H' → SqT K H' t xs → Q (.ref t) H'
theorem call_tup1 {X : Cx} : CallR X (.type "tuple") (rTup1 X.K) := by
  intro pins s σ H xs us Q I r h
  obtain ⟨p, ys, rfl, hq, q⟩ := h
  refine call_tuple_of pins s σ H _ us Q I r ⟨p, ys, rfl, ?_⟩
  rcases hq with hq | hq
  · exact .inl ⟨hq, fun l hl => q l _ (Same.new hl) (SqT.of upd_same)⟩
  · exact .inr ⟨hq, q p H (Same.refl H) hq⟩
/-! ### a statement, then the rest, with a word between them -/
def tCut (t u : TS) : TS := fun D σ H => ∃ Mid : L2.St → Hp → Prop, t { D with nx := Mid } σ H ∧ ∀ σ' H', Mid σ' H' → u D σ' H'
theorem pss_cut {X : Cx} {st : Stmt} {rest : List Stmt} {t u : TS} (h1 : PS X st t) (h2 : PSs X rest u) : PSs X (st :: rest) (tCut t u) := by
  refine ⟨fun pins s σ H D I h => ?_⟩
  obtain ⟨Mid, hm, hu⟩ := h
  refine wpAny_execs_cons (thn (h1.run pins s σ H { D with nx := Mid } I hm) fun f s1 q => ?_)
  cases f with
  | next =>
    obtain ⟨σ', H', I', q⟩ := q
    exact h2.run pins s1 σ' H' D I' (hu σ' H' q)
  | ret v => exact q
  | brk => exact q
  | cont => exact q
/-! ### the law's bag: the cells, how many were taken, the rest of a great cell, a mixed number, a count -/
structure Bg where
  b : Addr
  L : Addr
  ns : List Int
structure Bag (B : Bg) (H : Hp) : Prop where
  ex : ∃ (i r s c : Int), H B.b = some (.lst [.ref B.L, .int i, .int r, .int s, .int c]) ∧ 0 ≤ i ∧ 0 ≤ r ∧ 0 ≤ s ∧ s < 2147483648
  cells : H B.L = some (.lst (B.ns.map V.int))
  ne : B.L ≠ B.b
theorem Bag.same {B : Bg} {H H' : Hp} (h : Bag B H) (s : Same H H') : Bag B H' := by
  obtain ⟨i, r, z, c, h1, h2⟩ := h.ex
  exact ⟨⟨i, r, z, c, s _ _ h1, h2⟩, s _ _ h.cells, h.ne⟩
theorem Bag.nb {B : Bg} {H : Hp} {p : Addr} (h : Bag B H) (hp : H p = none) : p ≠ B.b := by
  obtain ⟨i, r, z, c, h1, h2⟩ := h.ex
  exact Ne.symm (ne_of_none h1 hp)
theorem Bag.nL {B : Bg} {H : Hp} {p : Addr} (h : Bag B H) (hp : H p = none) : p ≠ B.L := Ne.symm (ne_of_none h.cells hp)
theorem Bag.upd {B : Bg} {H : Hp} {p : Addr} {o : HO} (h : Bag B H) (h1 : p ≠ B.b) (h2 : p ≠ B.L) : Bag B (L2.upd H p o) := by
  obtain ⟨i, r, z, c, e1, e2⟩ := h.ex
  exact ⟨⟨i, r, z, c, by rw [upd_ne (Ne.symm h1)]; exact e1, e2⟩, by rw [upd_ne (Ne.symm h2)]; exact h.cells, h.ne⟩
theorem Bag.new {B : Bg} {H : Hp} {p : Addr} {o : HO} (h : Bag B H) (hp : H p = none) : Bag B (L2.upd H p o) := h.upd (h.nb hp) (h.nL hp)
/-! ### comprehensions: what each turn gives is known (Same), or only bounded, while the bag changes (Kb) -/
section
variable {J : It} {n : Nat} {G : Hp → Prop} {Y : Nat → Hp → V → Hp → Prop} {K : PySem.W.Frag} {a b D : Addr} {xs ys : List V} {g : TG} {te : TE} {vs : List Nat} {σ : L2.St} {H0 : Hp} {Qd : Hp → Prop} {j : Nat}
theorem take_app {ys : List V} {i : Nat} {y : V} (h : ys[i]? = some y) : ys.take i ++ [y] = ys.take (i + 1) := by
  rw [List.take_add_one, h]
  rfl
/-- what is to be shown of a comprehension -/
def LcGoal (J : It) (g : TG) (te : TE) (vs : List Nat) (σ : L2.St) (H0 : Hp) (D : Addr) (Qd : Hp → Prop) : Prop :=
  ∃ W : Nat → Nat → Hp → Prop, (∃ m, W 0 m (upd H0 D (.lst []))) ∧ ∀ i m H, W i m H →
      (J.stop i H ∧ Qd H) ∨ (J.go i H ∧ ∃ Nx : Hp → Prop, (∀ H', Nx H' → ∃ m', m' < m ∧ W (i + 1) m' H') ∧ ∀ x H', J.yld i H x H' → g x (wipe σ vs) H' fun σ2 H2 => wipe σ2 vs = wipe σ vs ∧ tYes σ2 H2 fun b H3 =>
        if b = true then te σ2 H3 fun y H4 => ∃ acc, H4 D = some (.lst acc) ∧ acc.length < sizeLine ∧ Nx (upd H4 D (.lst (acc ++ [y]))) else Nx H3)
theorem lcm (w : Walk J n G Y) (ys : List V) (hn : ys.length = n) (hz : n ≤ 100000) (hD : H0 D = none) (hG : ∀ H, Same H0 H → G H)
    (hs : ∀ i y x H H', i < n → ys[i]? = some y → Same H0 H → Y i H x H' → ∀ k : VK, (∀ H4, Same H H4 → k y H4) → g x (wipe σ vs) H' fun σ2 H2 => wipe σ2 vs = wipe σ vs ∧ te σ2 H2 k)
    (hd : ∀ H, Same H0 H → H D = some (.lst ys) → Qd H) : LcGoal J g te vs σ H0 D Qd := by
  refine lc_it w (fun i H => Same H0 H ∧ H D = some (.lst (ys.take i))) ⟨Same.new hD, upd_same⟩ (fun i H _ h => hG H h.1) (fun i x H H' hi h hy => ?_) (fun H h => ?_)
  · have hi2 : i < ys.length := by omega
    refine hs i ys[i] x H H' hi (List.getElem?_eq_getElem hi2) h.1 hy _ fun H4 s4 => ⟨ys.take i, s4 _ _ h.2, ?_, fun c u q => ?_, ?_⟩
    · refine Nat.lt_of_le_of_lt (Nat.le_trans (List.length_take_le' _ _) (by omega : ys.length ≤ 100000)) (by decide)
    · rw [upd_ne (ne_of_none q hD)]
      exact s4 _ _ (h.1 _ _ q)
    · rw [upd_same, take_app (List.getElem?_eq_getElem hi2)]
  · refine hd H h.1 ?_
    rw [h.2, ← hn, List.take_length]
theorem lcb {B : Bg} (w : Walk J n G Y) (P : V → Prop) (hz : n ≤ 100000) (hB : Bag B H0) (hD : H0 D = none) (hG : ∀ H, Kb B.b H0 H → G H)
    (hs : ∀ i x H H', i < n → Kb B.b H0 H → Bag B H → Y i H x H' → ∀ k : VK, (∀ y H4, P y → Kb B.b H H4 → Bag B H4 → k y H4) → g x (wipe σ vs) H' fun σ2 H2 => wipe σ2 vs = wipe σ vs ∧ te σ2 H2 k)
    (hd : ∀ ys H, ys.length = n → (∀ y ∈ ys, P y) → Kb B.b H0 H → Bag B H → H D = some (.lst ys) → Qd H) : LcGoal J g te vs σ H0 D Qd := by
  have nb := hB.nb hD
  have nL := hB.nL hD
  refine lc_it w (fun i H => Kb B.b H0 H ∧ Bag B H ∧ ∃ ys, H D = some (.lst ys) ∧ ys.length = i ∧ ∀ y ∈ ys, P y) ⟨Kb.same (Same.new hD), hB.new hD, [], upd_same, rfl, fun y hy => by cases hy⟩ (fun i H _ h => hG H h.1) (fun i x H H' hi h hy => ?_) (fun H h => ?_)
  · obtain ⟨h1, h2, ys, h3, h4, h5⟩ := h
    refine hs i x H H' hi h1 h2 hy _ fun y H4 p kb b4 => ⟨ys, kb _ _ h3 nb, ?_, fun c u q ne => ?_, b4.upd nb nL, ys ++ [y], upd_same, ?_, ?_⟩
    · exact Nat.lt_of_le_of_lt (by omega : ys.length ≤ 100000) (by decide)
    · rw [upd_ne (ne_of_none q hD)]
      exact kb _ _ (h1 _ _ q ne) ne
    · rw [List.length_append, h4]
      rfl
    · intro z hz
      rcases List.mem_append.mp hz with q | q
      · exact h5 z q
      · rw [List.mem_singleton.mp q]
        exact p
  · obtain ⟨h1, h2, ys, h3, h4, h5⟩ := h
    exact hd ys H h4 h5 h1 h2 h3
end
theorem walk_zipT {K : PySem.W.Frag} {a b : Addr} {xs ys : List V} {n : Nat} (hn : n = min xs.length ys.length) : Walk (RZ.ItzT K a b) n (fun H => SqT K H a xs ∧ SqT K H b ys) (YPair (fun i => xs[i]?) (fun i => ys[i]?)) := by
  subst hn
  refine ⟨fun i _ hi q => ?_, fun _ q => ⟨xs, ys, q.1, q.2, by omega⟩, fun i H v H' _ q y => ?_⟩
  · have h1 : i < xs.length := by omega
    have h2 : i < ys.length := by omega
    exact ⟨xs, ys, xs[i], ys[i], q.1, q.2, by simp [h1], by simp [h2]⟩
  · obtain ⟨T, x, z, h1, h2, h3, h4, h5⟩ := y
    exact ⟨T, x, z, h1, h2, h3, h4 xs q.1, h5 ys q.2⟩
theorem ite_dec {p A B : Prop} [Decidable p] (h : p) (q : A) : if decide p = true then A else B := by
  rw [decide_eq_true h]
  exact q
theorem ite_dec' {p A B : Prop} [Decidable p] (h : ¬ p) (q : B) : if decide p = true then A else B := by
  rw [decide_eq_false h]
  exact q
theorem all_rep (n : Nat) : (List.replicate n true).all id = true := by
  rw [List.all_eq_true]
  intro x hx
  rw [(List.mem_replicate.mp hx).2]
  rfl
theorem rep_get {n i : Nat} {x y : V} (h : (List.replicate n x)[i]? = some y) : y = x := (List.mem_replicate.mp (List.mem_of_getElem? h)).2
theorem lc_zipT {K : PySem.W.Frag} {a b D : Addr} {xs ys : List Int} {f : Int → Int → Int} {te : TE} {vs : List Nat} {σ : L2.St} {H0 : Hp} {Qd : Hp → Prop} {i j : Nat} (h1 : SqT K H0 a (xs.map V.int)) (h2 : SqT K H0 b (ys.map V.int)) (hl : xs.length = ys.length) (hz : xs.length ≤ 1000) (hD : H0 D = none)
    (hw : ∀ u v, wipe (((wipe σ vs).set i (some u)).set j (some v)) vs = wipe σ vs)
    (hs : ∀ (u v : Int) (H : Hp) (k : VK), u ∈ xs → v ∈ ys → k (.int (f u v)) H → te (((wipe σ vs).set i (some (.int u))).set j (some (.int v))) H k)
    (hd : ∀ H, Same H0 H → H D = some (.lst ((List.zipWith f xs ys).map V.int)) → Qd H) : LcGoal (RZ.ItzT K a b) (gTup K 2 (gCons (gName i) (gCons (gName j) gNil))) te vs σ H0 D Qd := by
  refine lcm (walk_zipT (n := xs.length) (by rw [List.length_map, List.length_map]; omega)) ((List.zipWith f xs ys).map V.int) (by rw [List.length_map, List.length_zipWith]; omega) (by omega) hD (fun H' s => ⟨seqT s h1, seqT s h2⟩) ?_ hd
  rintro t y x H1 H2 hi hy s1 ⟨Tp, u, z, rfl, hT, rfl, hu, hz'⟩ k hk
  replace hu : (xs.map V.int)[t]? = some u := hu
  replace hz' : (ys.map V.int)[t]? = some z := hz'
  rw [List.getElem?_map] at hy hu hz'
  obtain ⟨y', hy1, rfl⟩ := Option.map_eq_some_iff.mp hy
  obtain ⟨u', hu1, rfl⟩ := Option.map_eq_some_iff.mp hu
  obtain ⟨z', hz1, rfl⟩ := Option.map_eq_some_iff.mp hz'
  rw [List.getElem?_zipWith, hu1, hz1] at hy1
  obtain rfl : f u' z' = y' := Option.some.inj hy1
  refine ⟨Tp, [.int u', .int z'], rfl, SqT.of upd_same, rfl, .int u', [.int z'], rfl, .int z', [], rfl, rfl, hw _ _, ?_⟩
  exact hs u' z' _ k (List.mem_of_getElem? hu1) (List.mem_of_getElem? hz1) (hk _ (Same.new hT))
theorem lc_zipL {K : PySem.W.Frag} {a b D : Addr} {xs ys : List Int} {f : Int → Int → Int} {te : TE} {vs : List Nat} {σ : L2.St} {H0 : Hp} {Qd : Hp → Prop} {i j : Nat} (h1 : SqL K H0 a (xs.map V.int)) (h2 : SqL K H0 b (ys.map V.int)) (hl : xs.length = ys.length) (hz : xs.length ≤ 1000) (hD : H0 D = none)
    (hw : ∀ u v, wipe (((wipe σ vs).set i (some u)).set j (some v)) vs = wipe σ vs)
    (hs : ∀ (u v : Int) (H : Hp) (k : VK), u ∈ xs → v ∈ ys → k (.int (f u v)) H → te (((wipe σ vs).set i (some (.int u))).set j (some (.int v))) H k)
    (hd : ∀ H, Same H0 H → H D = some (.lst ((List.zipWith f xs ys).map V.int)) → Qd H) : LcGoal (Itz K a b) (gTup K 2 (gCons (gName i) (gCons (gName j) gNil))) te vs σ H0 D Qd := by
  refine lcm (walk_zip (n := xs.length) (by rw [List.length_map, List.length_map]; omega)) ((List.zipWith f xs ys).map V.int) (by rw [List.length_map, List.length_zipWith]; omega) (by omega) hD (fun H' s => ⟨s.seq h1, s.seq h2⟩) ?_ hd
  rintro t y x H1 H2 hi hy s1 ⟨Tp, u, z, rfl, hT, rfl, hu, hz'⟩ k hk
  replace hu : (xs.map V.int)[t]? = some u := hu
  replace hz' : (ys.map V.int)[t]? = some z := hz'
  rw [List.getElem?_map] at hy hu hz'
  obtain ⟨y', hy1, rfl⟩ := Option.map_eq_some_iff.mp hy
  obtain ⟨u', hu1, rfl⟩ := Option.map_eq_some_iff.mp hu
  obtain ⟨z', hz1, rfl⟩ := Option.map_eq_some_iff.mp hz'
  rw [List.getElem?_zipWith, hu1, hz1] at hy1
  obtain rfl : f u' z' = y' := Option.some.inj hy1
  refine ⟨Tp, [.int u', .int z'], rfl, SqT.of upd_same, rfl, .int u', [.int z'], rfl, .int z', [], rfl, rfl, hw _ _, ?_⟩
  exact hs u' z' _ k (List.mem_of_getElem? hu1) (List.mem_of_getElem? hz1) (hk _ (Same.new hT))
theorem lc_mapT {K : PySem.W.Frag} {a D : Addr} {xs : List Int} {f : Int → Int} {te : TE} {vs : List Nat} {σ : L2.St} {H0 : Hp} {Qd : Hp → Prop} {i : Nat} (h1 : SqT K H0 a (xs.map V.int)) (hz : xs.length ≤ 1000) (hD : H0 D = none)
    (hw : ∀ u, wipe ((wipe σ vs).set i (some u)) vs = wipe σ vs) (hs : ∀ (u : Int) (H : Hp) (k : VK), u ∈ xs → k (.int (f u)) H → te ((wipe σ vs).set i (some (.int u))) H k)
    (hd : ∀ H, Same H0 H → H D = some (.lst ((xs.map f).map V.int)) → Qd H) : LcGoal (Itt K a) (gName i) te vs σ H0 D Qd := by
  refine lcm (walk_tup (K := K) (a := a) (xs := xs.map V.int)) ((xs.map f).map V.int) (by simp) (by rw [List.length_map]; omega) hD (fun H' s => seqT s h1) ?_ hd
  rintro t y x H1 H2 hi hy s1 ⟨rfl, hu⟩ k hk
  rw [List.getElem?_map] at hy hu
  obtain ⟨y', hy1, rfl⟩ := Option.map_eq_some_iff.mp hy
  obtain ⟨u', hu1, rfl⟩ := Option.map_eq_some_iff.mp hu
  rw [List.getElem?_map, hu1] at hy1
  obtain rfl : f u' = y' := Option.some.inj hy1
  exact ⟨hw _, hs u' _ k (List.mem_of_getElem? hu1) (hk _ (Same.refl _))⟩
theorem lc_mapL {K : PySem.W.Frag} {a D : Addr} {xs : List Int} {f : Int → Int} {te : TE} {vs : List Nat} {σ : L2.St} {H0 : Hp} {Qd : Hp → Prop} {i : Nat} (h1 : SqL K H0 a (xs.map V.int)) (hz : xs.length ≤ 1000) (hD : H0 D = none)
    (hw : ∀ u, wipe ((wipe σ vs).set i (some u)) vs = wipe σ vs) (hs : ∀ (u : Int) (H : Hp) (k : VK), u ∈ xs → k (.int (f u)) H → te ((wipe σ vs).set i (some (.int u))) H k)
    (hd : ∀ H, Same H0 H → H D = some (.lst ((xs.map f).map V.int)) → Qd H) : LcGoal (Itl K a) (gName i) te vs σ H0 D Qd := by
  refine lcm (walk_list (K := K) (a := a) (xs := xs.map V.int)) ((xs.map f).map V.int) (by simp) (by rw [List.length_map]; omega) hD (fun H' s => s.seq h1) ?_ hd
  rintro t y x H1 H2 hi hy s1 ⟨rfl, hu⟩ k hk
  rw [List.getElem?_map] at hy hu
  obtain ⟨y', hy1, rfl⟩ := Option.map_eq_some_iff.mp hy
  obtain ⟨u', hu1, rfl⟩ := Option.map_eq_some_iff.mp hu
  rw [List.getElem?_map, hu1] at hy1
  obtain rfl : f u' = y' := Option.some.inj hy1
  exact ⟨hw _, hs u' _ k (List.mem_of_getElem? hu1) (hk _ (Same.refl _))⟩
/-! ### whole data: lists and tuples of whole numbers -/
theorem dpAll_ints {K : PySem.W.Frag} {H : Hp} : ∀ ns : List Int, DpAll K H (ns.map V.int) (ns.map PyData.int)
  | [] => .nil
  | n :: ns => .cons (.int n) (dpAll_ints ns)
theorem lay_ints : ∀ ns : List Int, PyData.canLayAll0 (ns.map PyData.int) = true
  | [] => by simp [PyData.canLayAll0]
  | n :: ns => by simp [PyData.canLayAll0, PyData.canLay0, lay_ints ns]
theorem depth_ints : ∀ ns : List Int, PyData.depthAll (ns.map PyData.int) = 0
  | [] => by simp [PyData.depthAll]
  | n :: ns => by simp [PyData.depthAll, PyData.depth, depth_ints ns]
theorem shaped_tupI (ns : List Int) : SeqAt.shaped (.tuple (ns.map PyData.int)) = true := by simp [SeqAt.shaped, PyData.canLay0, PyData.depth, lay_ints, depth_ints]
theorem shaped_lstI (ns : List Int) : SeqAt.shaped (.list (ns.map PyData.int)) = true := by simp [SeqAt.shaped, PyData.canLay0, PyData.depth, lay_ints, depth_ints]
theorem shaped_two (xs ys : List Int) : SeqAt.shaped (.tuple [.list (xs.map PyData.int), .list (ys.map PyData.int)]) = true := by simp [SeqAt.shaped, PyData.canLay0, PyData.canLayAll0, PyData.depth, PyData.depthAll, lay_ints, depth_ints]
theorem eqv_ints : ∀ xs ys : List Int, PyData.eqvAll (xs.map PyData.int) (ys.map PyData.int) = decide (xs = ys)
  | [], [] => by simp [PyData.eqvAll]
  | [], y :: ys => by simp [PyData.eqvAll]
  | x :: xs, [] => by simp [PyData.eqvAll]
  | x :: xs, y :: ys => by
    simp only [List.map_cons, PyData.eqvAll, PyData.eqv, eqv_ints xs ys, List.cons.injEq]
    by_cases h1 : x = y <;> by_cases h2 : xs = ys <;> simp [h1, h2]
theorem eqv_tupI (xs ys : List Int) : PyData.eqv (.tuple (xs.map PyData.int)) (.tuple (ys.map PyData.int)) = decide (xs = ys) := by simp only [PyData.eqv, eqv_ints]
theorem eqv_lstI (xs ys : List Int) : PyData.eqv (.list (xs.map PyData.int)) (.list (ys.map PyData.int)) = decide (xs = ys) := by simp only [PyData.eqv, eqv_ints]
theorem eqv_two (x y : List Int × List Int) : PyData.eqv (.tuple [.list (x.1.map PyData.int), .list (x.2.map PyData.int)]) (.tuple [.list (y.1.map PyData.int), .list (y.2.map PyData.int)]) = decide (x = y) := by
  obtain ⟨a, b⟩ := x
  obtain ⟨c, d⟩ := y
  simp only [PyData.eqv, PyData.eqvAll, eqv_ints, Prod.mk.injEq]
  by_cases h1 : a = c <;> by_cases h2 : b = d <;> simp [h1, h2]
/-- == of two tuples of whole numbers -/
def rEqTI (K : PySem.W.Frag) : R2 := fun x y H Q => ∃ (a b : Addr) (xs ys : List Int), x = .ref a ∧ y = .ref b ∧ SqT K H a (xs.map V.int) ∧ SqT K H b (ys.map V.int) ∧ Q (.bl (decide (xs = ys))) H
theorem op_eqTI {X : Cx} (hu : X.A.units + 64 < cLine) : OpR X (compareOp .Eq) (rEqTI X.K) := by
  intro pins s σ H x y v u Q I rx ry h
  obtain ⟨a, b, xs, ys, rfl, rfl, h1, h2, q⟩ := h
  exact op_eqD hu pins s σ H _ _ v u Q I rx ry ⟨_, _, .tup h1 (dpAll_ints xs), .tup h2 (dpAll_ints ys), shaped_tupI xs, shaped_tupI ys, by rw [eqv_tupI]; exact q⟩
theorem and1 (n : Int) : Builtin.bitAnd n 1 = n.fmod 2 := by
  have h := PyProof.Rows.bitAnd_m1 n
  rw [Int.fmod_eq_emod_of_nonneg _ (by decide)]
  exact h
/-- a tuple that is read stands when a list is changed -/
theorem seqT_lst {K : PySem.W.Frag} {H : Hp} {a p : Addr} {zs : List V} {o : HO} {xs : List V} (hp : H p = some (.lst zs)) (h : SqT K H a xs) : SqT K (upd H p o) a xs := by
  rcases h with (h | ⟨u, h⟩) | h
  · exact .inl (.inl (by rw [upd_ne (ne_of h hp (by intro z; cases z))]; exact h))
  · exact .inl (.inr ⟨u, by rw [upd_ne (ne_of h hp (by intro z; cases z))]; exact h⟩)
  · exact .inr h
theorem seqT_kb {K : PySem.W.Frag} {H H' : Hp} {b a : Addr} {zs xs : List V} (hb : H b = some (.lst zs)) (k : Kb b H H') (h : SqT K H a xs) : SqT K H' a xs := by
  rcases h with (h | ⟨u, h⟩) | h
  · exact .inl (.inl (k _ _ h (ne_of h hb (by intro z; cases z))))
  · exact .inl (.inr ⟨u, k _ _ h (ne_of h hb (by intro z; cases z))⟩)
  · exact .inr h
section
variable {J : It} {n : Nat} {G : Hp → Prop} {Y : Nat → Hp → V → Hp → Prop} {D : Addr} {g : TG} {te : TE} {vs : List Nat} {σ : L2.St} {H0 : Hp} {Qd : Hp → Prop}
/-- a comprehension whose turns give new things, of which something is known -/
theorem lcs (w : Walk J n G Y) (P : Nat → V → Hp → Prop) (hP : ∀ i y H H', Same H H' → P i y H → P i y H') (hPD : ∀ i y H zs zs', H D = some (.lst zs) → P i y H → P i y (upd H D (.lst zs'))) (hz : n ≤ 100000) (hD : H0 D = none) (hG : ∀ H, Same H0 H → G H)
    (hs : ∀ i x H H', i < n → Same H0 H → Y i H x H' → ∀ k : VK, (∀ y H4, Same H H4 → P i y H4 → k y H4) → g x (wipe σ vs) H' fun σ2 H2 => wipe σ2 vs = wipe σ vs ∧ te σ2 H2 k)
    (hd : ∀ (ys : List V) H, ys.length = n → (∀ (i : Nat) y, ys[i]? = some y → P i y H) → Same H0 H → H D = some (.lst ys) → Qd H) : LcGoal J g te vs σ H0 D Qd := by
  refine lc_it w (fun i H => Same H0 H ∧ ∃ ys : List V, H D = some (.lst ys) ∧ ys.length = i ∧ ∀ (t : Nat) y, ys[t]? = some y → P t y H) ⟨Same.new hD, [], upd_same, rfl, fun t y h => by cases h⟩ (fun i H _ h => hG H h.1) (fun i x H H' hi h hy => ?_) (fun H h => ?_)
  · obtain ⟨h1, ys, h3, h4, h5⟩ := h
    refine hs i x H H' hi h1 hy _ fun y H4 s4 p => ⟨ys, s4 _ _ h3, ?_, fun c u q => ?_, ys ++ [y], upd_same, ?_, ?_⟩
    · exact Nat.lt_of_le_of_lt (by omega : ys.length ≤ 100000) (by decide)
    · rw [upd_ne (ne_of_none q hD)]
      exact s4 _ _ (h1 _ _ q)
    · rw [List.length_append, h4]
      rfl
    · intro t z hz
      refine hPD t z H4 ys _ (s4 _ _ h3) ?_
      rcases Nat.lt_or_ge t ys.length with q | q
      · rw [List.getElem?_append_left q] at hz
        exact hP _ _ _ _ s4 (h5 t z hz)
      · rw [List.getElem?_append_right q] at hz
        have e : t - ys.length = 0 := by
          have := (List.getElem?_eq_some_iff.mp hz).1
          simp at this
          omega
        rw [e] at hz
        obtain rfl : y = z := Option.some.inj hz
        have : t = i := by omega
        rw [this]
        exact p
  · obtain ⟨h1, ys, h3, h4, h5⟩ := h
    exact hd ys H h4 h5 h1 h3
end
end TL
namespace TL
/-! ### products of powers of primes -/
def pp : List Nat → List Nat → Nat
  | p :: ps, a :: as => p ^ a * pp ps as
  | _, _ => 1
def prs : List Nat := [2, 3, 5, 7, 11, 13]
def PC : List Nat → Prop
  | [] => True
  | p :: ps => 1 < p ∧ (∀ q ∈ ps, Nat.Coprime p q) ∧ PC ps
theorem pc_prs : PC prs := by simp only [PC, prs]; decide
theorem pc_drop : ∀ (n : Nat) {ps : List Nat}, PC ps → PC (ps.drop n)
  | 0, _, h => h
  | n + 1, [], h => h
  | n + 1, p :: ps, h => pc_drop n h.2.2
theorem pc_take : ∀ (n : Nat) {ps : List Nat}, PC ps → PC (ps.take n)
  | 0, _, _ => trivial
  | n + 1, [], h => h
  | n + 1, p :: ps, h => ⟨h.1, fun q hq => h.2.1 q (List.mem_of_mem_take hq), pc_take n h.2.2⟩
theorem pp_pos : ∀ {ps : List Nat} (as : List Nat), PC ps → 0 < pp ps as
  | [], _, _ => Nat.one_pos
  | p :: ps, [], _ => Nat.one_pos
  | p :: ps, a :: as, h => Nat.mul_pos (Nat.pow_pos (Nat.lt_trans Nat.one_pos h.1)) (pp_pos as h.2.2)
theorem cop_pp {k : Nat} : ∀ {ps : List Nat} (as : List Nat), (∀ q ∈ ps, Nat.Coprime k q) → Nat.Coprime k (pp ps as)
  | [], _, _ => Nat.coprime_one_right k
  | p :: ps, [], _ => Nat.coprime_one_right k
  | p :: ps, a :: as, h => Nat.Coprime.mul_right ((h p (List.mem_cons_self ..)).pow_right a) (cop_pp as fun q hq => h q (List.mem_cons_of_mem _ hq))
def Apart : List Nat → List Nat → Prop
  | a :: as, b :: bs => (a = 0 ∨ b = 0) ∧ Apart as bs
  | _, _ => True
theorem cop_ud : ∀ {ps as bs : List Nat}, PC ps → Apart as bs → Nat.Coprime (pp ps as) (pp ps bs)
  | [], _, _, _, _ => Nat.coprime_one_left _
  | p :: ps, [], _, _, _ => Nat.coprime_one_left _
  | p :: ps, a :: as, [], _, _ => Nat.coprime_one_right _
  | p :: ps, a :: as, b :: bs, h, d => by
    have ih := cop_ud h.2.2 d.2
    have h1 : Nat.Coprime (p ^ a) (pp ps bs) := (cop_pp bs h.2.1).pow_left a
    have h2 : Nat.Coprime (pp ps as) (p ^ b) := (Nat.Coprime.symm (cop_pp as h.2.1)).pow_right b
    have h3 : Nat.Coprime (p ^ a) (p ^ b) := by
      rcases d.1 with e | e
      · rw [e, Nat.pow_zero]
        exact Nat.coprime_one_left _
      · rw [e, Nat.pow_zero]
        exact Nat.coprime_one_right _
    exact Nat.Coprime.mul_left (Nat.Coprime.mul_right h3 h1) (Nat.Coprime.mul_right h2 ih)
theorem pp_add : ∀ (ps as bs : List Nat), as.length = bs.length → pp ps as * pp ps bs = pp ps (List.zipWith (· + ·) as bs)
  | [], _, _, _ => by simp [pp]
  | p :: ps, [], [], _ => by simp [pp]
  | p :: ps, a :: as, b :: bs, h => by
    have ih := pp_add ps as bs (by simpa using h)
    simp only [pp, List.zipWith_cons_cons, ← ih, Nat.pow_add]
    ac_rfl
theorem pp_pow (n : Nat) : ∀ (ps as : List Nat), pp ps as ^ n = pp ps (as.map (n * ·))
  | [], _ => by simp [pp]
  | p :: ps, [] => by simp [pp]
  | p :: ps, a :: as => by
    simp only [pp, List.map_cons, ← pp_pow n ps as, Nat.mul_pow]
    rw [← Nat.pow_mul, Nat.mul_comm a n]
/-! ### a ratio by its exponents -/
def upE (e : List Int) : List Nat := e.map Int.toNat
def dnE (e : List Int) : List Nat := e.map fun x => (-x).toNat
def up (e : List Int) : Nat := pp prs (upE e)
def dn (e : List Int) : Nat := pp prs (dnE e)
def addE (e f : List Int) : List Int := List.zipWith (· + ·) e f
def subE (e f : List Int) : List Int := List.zipWith (· - ·) e f
def mulE (n : Int) (e : List Int) : List Int := e.map (n * ·)
def negE (e : List Int) : List Int := e.map (- ·)
theorem up_pos (e : List Int) : 0 < up e := pp_pos _ pc_prs
theorem dn_pos (e : List Int) : 0 < dn e := pp_pos _ pc_prs
theorem apart_ud : ∀ e : List Int, Apart (upE e) (dnE e)
  | [] => trivial
  | x :: e => ⟨(show x.toNat = 0 ∨ (-x).toNat = 0 by omega), apart_ud e⟩
theorem cop_e (e : List Int) : Nat.Coprime (up e) (dn e) := cop_ud pc_prs (apart_ud e)
theorem up_neg (e : List Int) : up (negE e) = dn e := by
  unfold up dn upE dnE negE
  rw [List.map_map]
  rfl
theorem dn_neg (e : List Int) : dn (negE e) = up e := by
  unfold up dn upE dnE negE
  rw [List.map_map]
  congr 1
  apply List.map_congr_left
  intro x _
  simp
def both (e f : List Int) : List Nat := List.zipWith (fun x y => x.toNat + y.toNat - (x + y).toNat) e f
theorem up_mul (e f : List Int) (h : e.length = f.length) : up e * up f = pp prs (both e f) * up (addE e f) := by
  unfold up
  rw [pp_add _ _ _ (by simpa [upE] using h), pp_add _ _ _ (by simp [both, upE, addE])]
  congr 1
  apply List.ext_getElem
  · simp [both, upE, addE]
  · intro i h1 h2
    simp [both, upE, addE]
    omega
theorem dn_mul (e f : List Int) (h : e.length = f.length) : dn e * dn f = pp prs (both e f) * dn (addE e f) := by
  unfold dn
  rw [pp_add _ _ _ (by simpa [dnE] using h), pp_add _ _ _ (by simp [both, dnE, addE])]
  congr 1
  apply List.ext_getElem
  · simp [both, dnE, addE]
  · intro i h1 h2
    simp [both, dnE, addE]
    omega
/-- a fraction told over a common factor -/
theorem gcd_of {a b e m : Nat} (g : Nat.Coprime a b) : Nat.gcd (m * a) (m * b) = m := by
  rw [Nat.gcd_mul_left, g.gcd_eq_one, Nat.mul_one]
theorem ud_nil_iff {e : List Int} (h : e.length = 6) : up e = 1 → (∀ x ∈ e, x ≤ 0) := by
  intro u
  suffices H : ∀ {ps : List Nat} {as : List Nat}, PC ps → as.length ≤ ps.length → pp ps as = 1 → ∀ a ∈ as, a = 0 by
    intro x hx
    have := H pc_prs (by simp [upE, prs, h]) u x.toNat (List.mem_map.mpr ⟨x, hx, rfl⟩)
    omega
  intro ps
  induction ps with
  | nil =>
    intro as _ hl _ a ha
    have := List.length_eq_zero_iff.mp (Nat.le_zero.mp hl)
    rw [this] at ha
    cases ha
  | cons p ps ih =>
    intro as hp hl hu a ha
    cases as with
    | nil => cases ha
    | cons b bs =>
      have hu' : p ^ b = 1 ∧ pp ps bs = 1 := ⟨Nat.eq_one_of_mul_eq_one_right hu, Nat.eq_one_of_mul_eq_one_left hu⟩
      rcases List.mem_cons.mp ha with e | e
      · subst e
        have h1 := hu'.1
        rcases Nat.eq_zero_or_pos a with z | z
        · exact z
        · have := Nat.one_lt_pow (by omega : a ≠ 0) hp.1
          omega
      · exact ih hp.2.2 (by simpa using hl) hu'.2 a e
theorem pp_one : ∀ {ps as : List Nat}, PC ps → as.length ≤ ps.length → pp ps as = 1 → ∀ a ∈ as, a = 0
  | _, [], _, _, _, a, ha => by cases ha
  | [], b :: bs, _, hl, _, a, ha => by simp at hl
  | p :: ps, b :: bs, hp, hl, hu, a, ha => by
    have h1 : p ^ b = 1 := Nat.eq_one_of_mul_eq_one_right hu
    have h2 : pp ps bs = 1 := Nat.eq_one_of_mul_eq_one_left hu
    rcases List.mem_cons.mp ha with e | e
    · subst e
      rcases Nat.eq_zero_or_pos a with z | z
      · exact z
      · have := Nat.one_lt_pow (by omega : a ≠ 0) hp.1
        omega
    · exact pp_one hp.2.2 (by simpa using hl) h2 a e
theorem pp_drop {as : List Nat} {i : Nat} (hi : i < 6) (hl : as.length = 6) : ∃ p a, prs[i]? = some p ∧ as[i]? = some a ∧ 1 < p ∧ p ≤ 13 ∧ pp (prs.drop i) (as.drop i) = p ^ a * pp (prs.drop (i + 1)) (as.drop (i + 1)) ∧
    Nat.Coprime p (pp (prs.drop (i + 1)) (as.drop (i + 1))) ∧ 0 < pp (prs.drop (i + 1)) (as.drop (i + 1)) := by
  have h1 : i < prs.length := hi
  have h2 : i < as.length := by omega
  have hp := pc_drop i pc_prs
  rw [List.drop_eq_getElem_cons h1] at hp
  refine ⟨prs[i], as[i], List.getElem?_eq_getElem h1, List.getElem?_eq_getElem h2, hp.1, ?_, ?_, cop_pp _ hp.2.1, pp_pos _ hp.2.2⟩
  · have : ∀ p ∈ prs, p ≤ 13 := by decide
    exact this _ (List.getElem_mem h1)
  · rw [List.drop_eq_getElem_cons h1, List.drop_eq_getElem_cons h2]
    rfl
theorem pp_take : ∀ {ps as : List Nat} {i p a : Nat}, ps[i]? = some p → as[i]? = some a → pp (ps.take (i + 1)) (as.take (i + 1)) = pp (ps.take i) (as.take i) * p ^ a
  | [], _, _, _, _, h, _ => by simp at h
  | q :: ps, [], _, _, _, _, h => by simp at h
  | q :: ps, b :: bs, 0, p, a, h1, h2 => by
    simp at h1 h2
    subst h1 h2
    simp [pp]
  | q :: ps, b :: bs, i + 1, p, a, h1, h2 => by
    have ih := pp_take (ps := ps) (as := bs) (i := i) (p := p) (a := a) (by simpa using h1) (by simpa using h2)
    simp only [List.take_succ_cons, pp] at ih ⊢
    rw [ih, Nat.mul_assoc]
theorem pp_split : ∀ (i : Nat) (ps as : List Nat), ps.length = as.length → pp ps as = pp (ps.take i) (as.take i) * pp (ps.drop i) (as.drop i)
  | 0, ps, as, _ => by simp [pp]
  | i + 1, [], [], _ => by simp [pp]
  | i + 1, p :: ps, a :: as, h => by
    simp only [List.take_succ_cons, List.drop_succ_cons, pp]
    rw [pp_split i ps as (by simpa using h), Nat.mul_assoc]
theorem pp_take_le {i : Nat} {as : List Nat} (hl : as.length = 6) : pp (prs.take i) (as.take i) ≤ pp prs as := by
  rw [pp_split i prs as (by rw [hl]; rfl)]
  exact Nat.le_mul_of_pos_right _ (pp_pos _ (pc_drop i pc_prs))
def fill (as : List Nat) (i : Nat) : List Nat := as.take i ++ List.replicate (6 - i) 0
theorem fill_len {as : List Nat} {i : Nat} (hl : as.length = 6) (hi : i ≤ 6) : (fill as i).length = 6 := by
  simp [fill, hl]
  omega
theorem fill_all {as : List Nat} (hl : as.length = 6) : fill as 6 = as := by simp [fill, List.take_of_length_le (Nat.le_of_eq hl)]
theorem fill_set {as : List Nat} {i a : Nat} (hi : i < 6) (hl : as.length = 6) (ha : as[i]? = some a) : (fill as i).set i a = fill as (i + 1) := by
  apply List.ext_getElem
  · rw [List.length_set, fill_len hl (by omega), fill_len hl (by omega)]
  · intro j h1 h2
    have ha' := (List.getElem?_eq_some_iff.mp ha).2
    simp only [fill, List.getElem_set, List.getElem_append, List.length_take, List.getElem_take, List.getElem_replicate]
    by_cases e : i = j
    · subst e
      simp [hl, ha', show i < min (i + 1) 6 by omega]
    · rw [if_neg e]
      by_cases e2 : j < i
      · simp [hl, show j < min i 6 by omega, show j < min (i + 1) 6 by omega]
      · simp [hl, show ¬ j < min i 6 by omega, show ¬ j < min (i + 1) 6 by omega]
theorem fill_one {as : List Nat} {i : Nat} (hi : i < 6) (hl : as.length = 6) (h : pp (prs.drop i) (as.drop i) = 1) : fill as i = as := by
  have z := pp_one (pc_drop i pc_prs) (by simp [prs, hl]) h
  apply List.ext_getElem
  · rw [fill_len hl (by omega), hl]
  · intro j h1 h2
    simp only [fill, List.getElem_append, List.length_take, List.getElem_take, List.getElem_replicate]
    by_cases e : j < min i as.length
    · rw [dif_pos e]
    · rw [dif_neg e]
      have : as[j] ∈ as.drop i := by
        rw [List.mem_iff_getElem]
        exact ⟨j - i, by simp; omega, by simp [show i + (j - i) = j by omega]⟩
      exact (z _ this).symm
/-! ### how often a number divides -/
theorem split_at {p a n : Nat} (hp : 1 < p) (hc : Nat.Coprime p n) (hn : 0 < n) : ¬ p ^ 64 ∣ p ^ (a % 64) * n ∧ ¬ p ∣ n := by
  have h1 : ¬ p ∣ n := fun h => by
    have := hc.eq_one_of_dvd h
    omega
  refine ⟨fun h => h1 ?_, h1⟩
  have h2 : p ^ (a % 64 + 1) ∣ p ^ (a % 64) * n := Nat.dvd_trans (Nat.pow_dvd_pow p (by omega)) h
  rw [Nat.pow_succ] at h2
  exact Nat.dvd_of_mul_dvd_mul_left (Nat.pow_pos (by omega)) h2
theorem split_eq (p a n : Nat) : p ^ a * n = (p ^ 64) ^ (a / 64) * (p ^ (a % 64) * n) := by
  rw [← Nat.mul_assoc, ← Nat.pow_mul, ← Nat.pow_add, Nat.div_add_mod]
theorem pow_inj {p a b A B : Nat} (hp : 1 < p) (hA : Nat.Coprime p A) (h : p ^ a * A = p ^ b * B) : b ≤ a := by
  rcases Nat.lt_or_ge a b with c | c
  · exfalso
    have e : b = a + (b - a - 1 + 1) := by omega
    rw [e, Nat.pow_add, Nat.mul_assoc, Nat.pow_succ] at h
    have h2 := Nat.eq_of_mul_eq_mul_left (Nat.pow_pos (Nat.lt_trans Nat.one_pos hp)) h
    have : p ∣ A := ⟨p ^ (b - a - 1) * B, by rw [h2]; ac_rfl⟩
    have := hA.eq_one_of_dvd this
    omega
  · exact c
theorem pp_inj : ∀ {ps as bs : List Nat}, PC ps → as.length = ps.length → bs.length = ps.length → pp ps as = pp ps bs → as = bs
  | [], [], [], _, _, _, _ => rfl
  | p :: ps, a :: as, b :: bs, hp, h1, h2, h => by
    have cA := cop_pp (k := p) as hp.2.1
    have cB := cop_pp (k := p) bs hp.2.1
    have l1 := pow_inj hp.1 cA h
    have l2 := pow_inj hp.1 cB h.symm
    obtain rfl : a = b := by omega
    have h3 := Nat.eq_of_mul_eq_mul_left (Nat.pow_pos (Nat.lt_trans Nat.one_pos hp.1)) (show p ^ a * pp ps as = p ^ a * pp ps bs from h)
    rw [pp_inj hp.2.2 (by simpa using h1) (by simpa using h2) h3]
theorem e_inj {e f : List Int} (he : e.length = 6) (hf : f.length = 6) (hu : up e = up f) (hd : dn e = dn f) : e = f := by
  have a := pp_inj pc_prs (by simp [upE, he, prs]) (by simp [upE, hf, prs]) (show pp prs (upE e) = pp prs (upE f) from hu)
  have b := pp_inj pc_prs (by simp [dnE, he, prs]) (by simp [dnE, hf, prs]) (show pp prs (dnE e) = pp prs (dnE f) from hd)
  apply List.ext_getElem (by omega)
  intro i h1 h2
  have a' : (upE e)[i]? = (upE f)[i]? := by rw [a]
  have b' : (dnE e)[i]? = (dnE f)[i]? := by rw [b]
  simp [upE, dnE, h1, h2] at a' b'
  omega
theorem toNat_mulN (n : Nat) (x : Int) : ((n : Int) * x).toNat = n * x.toNat := by
  rcases Int.le_total 0 x with c | c
  · obtain ⟨k, rfl⟩ := Int.eq_ofNat_of_zero_le c
    rw [← Int.natCast_mul, Int.toNat_natCast, Int.toNat_natCast]
  · rw [Int.toNat_of_nonpos c, Int.toNat_of_nonpos (Int.mul_nonpos_of_nonneg_of_nonpos (by omega) c), Nat.mul_zero]
theorem up_pow (n : Nat) (e : List Int) : up e ^ n = up (mulE n e) := by
  unfold up
  rw [pp_pow]
  congr 1
  apply List.ext_getElem
  · simp [upE, mulE]
  · intro i h1 h2
    simp only [upE, mulE, List.getElem_map, toNat_mulN]
theorem neg_mulE (n : Int) (e : List Int) : negE (mulE n e) = mulE (-n) e := by
  apply List.ext_getElem
  · simp [negE, mulE]
  · intro i h1 h2
    simp [negE, mulE, Int.neg_mul]
theorem mul_negE (n : Int) (e : List Int) : mulE n (negE e) = mulE (-n) e := by
  apply List.ext_getElem
  · simp [negE, mulE]
  · intro i h1 h2
    simp [negE, mulE, Int.neg_mul, Int.mul_neg]
theorem dn_pow (n : Nat) (e : List Int) : dn e ^ n = dn (mulE n e) := by
  rw [← up_neg, ← up_neg, up_pow, mul_negE, neg_mulE]
theorem pp_at {as : List Nat} {i : Nat} (hi : i < 6) (hl : as.length = 6) : ∃ p a r, prs[i]? = some p ∧ as[i]? = some a ∧ 1 < p ∧ p ≤ 13 ∧ pp prs as = p ^ a * r ∧ 0 < r ∧ ¬ p ∣ r := by
  obtain ⟨p, a, e1, e2, g1, g2, g3, g4, g5⟩ := pp_drop hi hl
  have c1 : ∀ i : Fin 6, ∀ q ∈ prs.take i.val, Nat.Coprime (prs[i.val]'i.isLt) q := by decide
  have ep : prs[i]'hi = p := (List.getElem?_eq_some_iff.mp e1).2
  have c2 := c1 ⟨i, hi⟩
  simp only [ep] at c2
  have cop : Nat.Coprime p (pp (prs.take i) (as.take i) * pp (prs.drop (i + 1)) (as.drop (i + 1))) := Nat.Coprime.mul_right (cop_pp _ c2) g4
  refine ⟨p, a, pp (prs.take i) (as.take i) * pp (prs.drop (i + 1)) (as.drop (i + 1)), e1, e2, g1, g2, ?_, Nat.mul_pos (pp_pos _ (pc_take i pc_prs)) g5, fun h => ?_⟩
  · rw [pp_split i prs as (by rw [hl]; rfl), g3]
    ac_rfl
  · have := cop.eq_one_of_dvd h
    omega
end TL
namespace TL
open PySem PySem.Spec PyProof.Rows L2
theorem repr_X {prog : Program} {w : World} {A : Around} {E' : Value → Shared → Prop} {s : Shared} {K : PySem.W.Frag} {x C f : Addr} {ox : Obj} {od : Option Obj} {Q : Value → Shared → Prop} (hu : A.in1.units < cLine) (X₀ : K.In s.heap) (I : PySem.W.InstAt s.heap x ox C od) (hs : PySem.W.findIn K (.ref C) "__repr__" = some (some (.ref f)))
    (hf : PySem.W.isFn K (.ref f) = true) (h : wpAny (model prog w) A.in1 (call (.ref f) [.ref x]) (fun r s' => ∃ b t, r = Value.str b t ∧ Q r s') E' s) : wpAny (model prog w) A (call (.builtin "repr") [.ref x]) Q E' s := by
  refine Calls.call_function_entry PySem.F.kind_repr PySem.F.plain_repr PySem.F.entry_repr (PySem.F.args_repr1 _) (show wpAny _ _ (Builtin.«repr» _) _ _ s from ?_)
  unfold Builtin.«repr»
  refine wpAny_bind (m := oneArg "repr" _) (wpAny_pure (wpAny_bind (wpAny_cRoomFor hu (wpAny_bind (wpAny_bind (I.type.here ((PySem.W.looks_findIn X₀ hs).here ?_)))))))
  show wpAny _ _ (if (some (Value.ref f)).isNone = true then _ else _) _ _ s
  refine (if_neg (by simp) : (if (some (Value.ref f)).isNone = true then _ else _) = _) ▸ ?_
  refine wpAny_bind (m := callSpecialIfBound? (.ref x) (Str.ofString "__repr__") _) (PySem.W.ifBound_K X₀ I hs hf (wpAny_mono h (fun r s' ⟨b, t, e, hr⟩ => ?_) fun _ _ y => y))
  subst e
  refine wpAny_bind (wpAny_isInstance (typeIs_str _ _ _) isSubtype_str_str (by first | exact wpAny_pure ⟨_, rfl, hr⟩ | (rw [if_pos rfl]; exact wpAny_pure ⟨_, rfl, hr⟩)))
section
variable {X : Cx} {CX : CXT} {k : Nat} {C f : Addr} {fd : FuncData} {ps : List Str} {sp : Sp} {E : XK}
/-! ### str(x), x an instance with its own __str__ -/
def rStrOw (C : Addr) (sp : Sp) (E : XK) : List V → Hp → VK → Prop := fun vs H Q => ∃ a dx fs, vs = [.ref a] ∧ H a = some (.ins C dx fs) ∧ sp [.ref a] H (fun v H' => ∃ b, v = .str b ∧ Q v H') E
theorem call_strOw (at_ : PySem.W.findIn X.K (.ref C) "__str__" = some (some (.ref f))) (fn : PySem.W.isFn X.K (.ref f) = true) (F : FnOk X.prog X.w X.K X.mg X.base CX k f fd ps sp) (hr : Room (k + 2) X.A) (hb : Binds X.K fd ps []) (hx : Passes CX X E) :
    CallR X (.type "str") (rStrOw C sp E) := by
  intro pins s σ H vs us Q I r h
  obtain ⟨a, dx, fs, rfl, ha, q⟩ := h
  obtain rfl := Vals.ref1 r
  obtain ⟨od, J⟩ := inst_at I ha
  have hr2 : Room k X.A.in1.in1 := (show Room (k + 1) X.A.in1 from Room.in1 hr).in1
  refine PySem.W.kso_call (by have := hr2.units; omega) I.kIn J at_ fn (wpAny_mono (run_at2 (us := [.ref a]) (ws := [.ref a]) F hr2 I.env0.in1.in1 hb hx I (.cons rfl .nil) q) (fun w s' z => ?_) fun _ _ x => x)
  obtain ⟨z', H', I', rz, b, rfl, qz⟩ := z
  obtain ⟨t, rfl⟩ := rz
  exact ⟨.str b, H', I', ⟨t, rfl⟩, qz⟩
/-! ### repr(x), x an instance with its own __repr__ -/
theorem call_reprOw (at_ : PySem.W.findIn X.K (.ref C) "__repr__" = some (some (.ref f))) (fn : PySem.W.isFn X.K (.ref f) = true) (F : FnOk X.prog X.w X.K X.mg X.base CX k f fd ps sp) (hr : Room (k + 1) X.A) (hb : Binds X.K fd ps []) (hx : Passes CX X E) :
    CallR X (.builtin "repr") (rStrOw C sp E) := by
  intro pins s σ H vs us Q I r h
  obtain ⟨a, dx, fs, rfl, ha, q⟩ := h
  obtain rfl := Vals.ref1 r
  obtain ⟨od, J⟩ := inst_at I ha
  have hr1 : Room k X.A.in1 := Room.in1 hr
  refine repr_X (by have := hr1.units; omega) I.kIn J at_ fn (wpAny_mono (run_at2 (us := [.ref a]) (ws := [.ref a]) F hr1 I.env0.in1 hb hx I (.cons rfl .nil) q) (fun w s' z => ?_) fun _ _ x => x)
  obtain ⟨z', H', I', rz, b, rfl, qz⟩ := z
  obtain ⟨t, rfl⟩ := rz
  exact ⟨b, t, rfl, .str b, H', I', ⟨t, rfl⟩, qz⟩
/-! ### o.m(k = v, ..), a method called by names alone -/
def tMethK (C : Addr) (m : Str) (sp : Sp) (gV : List V → List V → List V) (E : XK) (ta : TE) (tk : TA) : TE := fun σ H Q => ta σ H fun x H1 => ∃ a dx fs, x = .ref a ∧ H1 a = some (.ins C dx fs) ∧ fs.lookup m = none ∧
  tk σ H1 fun zs H2 => sp (gV [x] zs) H2 Q E
theorem pe_methK {o : Expr} {m : Str} {apos pos : Pos} {kws : List Keyword} {ta : TE} {tk : TA} {ks : List Str} {g : List Value → List Value → List Value} {gV : List V → List V → List V} {pl : Sem Bool} (he : PE X o ta) (c : Cls X.K C) (hm : Meth X.K C m f) (F : FnOk X.prog X.w X.K X.mg X.base CX k f fd ps sp) (hr : Room k X.A)
    (hb : KBinds X.K fd ps ks g gV) (hx : Passes CX X E) (hkw : PK X kws tk) (hall : (backToKw pos (keywordEach kws X.env)).all (·.1.isSome) = true := by rfl) (hks : (backToKw pos (keywordEach kws X.env)).filterMap (·.1) = ks := by rfl)
    (hpl : ((backTo pos (starEach [] X.env)).any (·.1) || (backToKw pos (keywordEach kws X.env)).any (·.1.isNone)) = false := by rfl)
    (ht : eval (.Call (.Attribute o m apos) [] kws pos) X.env = (do
      let ov ← eval o X.env
      standAt apos.atName
      let (f, first) ← holding [ov] (getMethod ov m pl)
      callWith pos f first (backTo pos (starEach [] X.env)) (backToKw pos (keywordEach kws X.env))) := by rfl) : PE X (.Call (.Attribute o m apos) [] kws pos) (tMethK C m sp gV E ta tk) := by
  refine ⟨fun pins s σ H Q I h => PySem.W.methodCall_KW (pl := pl) (thn (he.run pins s σ H _ I h) fun u s1 ⟨x, H1, I1, rx, a, dx, fs, ex, ea, l, q⟩ => ?_) ht⟩
  subst ex
  obtain rfl : u = Value.ref a := rx
  refine getmeth_ok I1 ea c hm l (PySem.W.callWith_KW0 (first := [.ref a]) (h₀ := X.base) I.ok.mod.kin hm.kp hall (thn (hkw.run pos pins s1 σ H1 _ I1 q) fun ws s2 ⟨zs, H2, I2, rz, q2⟩ => ⟨I2.kIn, ?_⟩) hpl)
  rw [hks]
  exact run_fnk (us := [.ref a]) (vs := [.ref a]) F hr hb hx I2 (.cons rfl .nil) rz q2
/-! ### C.m(..), m a staticmethod of C: its record at p, its def at f -/
structure SMet (K : PySem.W.Frag) (C : Addr) (m : Str) (p f : Addr) : Prop where
  at_ : PySem.W.findCls K (.ref C) (.type "type") m = some (.get (.builtin "staticmethod.__get__") (.ref p) .none (.ref C))
  rc : ∃ rest, PySem.W.recIn K p "staticmethod" = some (.ref f :: rest)
  kp : PySem.W.keepIn K (.ref f) = true
theorem getsm_ok {pins : List (Addr × Obj)} {σ : L2.St} {H : Hp} {s : Shared} {A : Around} {E : Value → Shared → Prop} {m : Str} {p : Addr} {pl : Sem Bool} {Q : Value × List Value → Shared → Prop} (I : Inv X pins σ H s) (r : ClX.CRead X.K C (.type "type")) (c : SMet X.K C m p f)
    (h : ∀ s', Inv X pins σ H s' → Q (.ref f, []) s') : wpAny (model X.prog X.w) A (getMethod (.ref C) m pl) Q E s := by
  obtain ⟨rest, hp⟩ := c.rc
  exact PySem.W.method_cls I.kIn r.ga (PySem.W.cls_bind I.kIn r.rd c.at_ (wpAny_call (PySem.W.sm_get (s := { s with toks := s.toks + 1 }) I.kIn hp (PySem.W.handed_on rfl (h _ (I.tok _))))))
def tSm (C : Addr) (sp : Sp) (dvs : List V) (E : XK) (ta : TE) (t : TA) : TE := fun σ H Q => ta σ H fun x H1 => x = .ref C ∧ t σ H1 fun vs H2 => sp (vs ++ dvs) H2 Q E
theorem pe_sm {o e : Expr} {es : List Expr} {m : Str} {p : Addr} {apos pos : Pos} {ta : TE} {t : TA} {dvs : List V} {ds : List Value} {pl : Sem Bool} (he : PE X o ta) (r : ClX.CRead X.K C (.type "type")) (c : SMet X.K C m p f) (F : FnOk X.prog X.w X.K X.mg X.base CX k f fd ps sp) (hr : Room k X.A) (hb : Binds X.K fd ps ds) (hd : Vals dvs ds) (hx : Passes CX X E)
    (ha : PA X (e :: es) t) (hst : starEach (e :: es) X.env = (false, eval e X.env) :: starEach es X.env := by rfl) (hpl : (backTo pos (starEach es X.env)).any (·.1) = false := by rfl)
    (ht : eval (.Call (.Attribute o m apos) (e :: es) [] pos) X.env = (do
      let ov ← eval o X.env
      standAt apos.atName
      let (f, first) ← holding [ov] (getMethod ov m pl)
      callWith pos f first (backTo pos (starEach (e :: es) X.env)) (backToKw pos (keywordEach [] X.env))) := by rfl) : PE X (.Call (.Attribute o m apos) (e :: es) [] pos) (tSm C sp dvs E ta t) := by
  refine ⟨fun pins s σ H Q I h => PySem.W.methodCall_KW (pl := pl) (thn (he.run pins s σ H _ I h) fun u s1 ⟨x, H1, I1, rx, ex, q⟩ => ?_) ht⟩
  subst ex
  obtain rfl : u = Value.ref C := rx
  refine getsm_ok I1 r c fun s2 I2 => PySem.W.callWith_K (first := []) (h₀ := X.base) I.ok.mod.kin c.kp (thn (ha.run pos pins s2 σ H1 _ I2 q) fun us s3 ⟨vs, H2, I3, rv, q2⟩ => ⟨I3.kIn, ?_⟩) hst hpl
  exact run_fn (us := us) (vs := vs) F hr hb hd hx I3 rv q2
def tSmK (C : Addr) (sp : Sp) (gV : List V → List V → List V) (E : XK) (ta : TE) (tk : TA) : TE := fun σ H Q => ta σ H fun x H1 => x = .ref C ∧ tk σ H1 fun zs H2 => sp (gV [] zs) H2 Q E
theorem pe_smK {o : Expr} {m : Str} {p : Addr} {apos pos : Pos} {kws : List Keyword} {ta : TE} {tk : TA} {ks : List Str} {g : List Value → List Value → List Value} {gV : List V → List V → List V} {pl : Sem Bool} (he : PE X o ta) (r : ClX.CRead X.K C (.type "type")) (c : SMet X.K C m p f) (F : FnOk X.prog X.w X.K X.mg X.base CX k f fd ps sp) (hr : Room k X.A)
    (hb : KBinds X.K fd ps ks g gV) (hx : Passes CX X E) (hkw : PK X kws tk) (hall : (backToKw pos (keywordEach kws X.env)).all (·.1.isSome) = true := by rfl) (hks : (backToKw pos (keywordEach kws X.env)).filterMap (·.1) = ks := by rfl)
    (hpl : ((backTo pos (starEach [] X.env)).any (·.1) || (backToKw pos (keywordEach kws X.env)).any (·.1.isNone)) = false := by rfl)
    (ht : eval (.Call (.Attribute o m apos) [] kws pos) X.env = (do
      let ov ← eval o X.env
      standAt apos.atName
      let (f, first) ← holding [ov] (getMethod ov m pl)
      callWith pos f first (backTo pos (starEach [] X.env)) (backToKw pos (keywordEach kws X.env))) := by rfl) : PE X (.Call (.Attribute o m apos) [] kws pos) (tSmK C sp gV E ta tk) := by
  refine ⟨fun pins s σ H Q I h => PySem.W.methodCall_KW (pl := pl) (thn (he.run pins s σ H _ I h) fun u s1 ⟨x, H1, I1, rx, ex, q⟩ => ?_) ht⟩
  subst ex
  obtain rfl : u = Value.ref C := rx
  refine getsm_ok I1 r c fun s2 I2 => PySem.W.callWith_KW0 (first := []) (h₀ := X.base) I.ok.mod.kin c.kp hall (thn (hkw.run pos pins s2 σ H1 _ I2 q) fun ws s3 ⟨zs, H2, I3, rz, q2⟩ => ⟨I3.kIn, ?_⟩) hpl
  rw [hks]
  exact run_fnk (us := []) (vs := []) F hr hb hx I3 .nil rz q2
/-! ### x == y, x an instance with its own __eq__, y something else -/
def rOwN (K : PySem.W.Frag) (C : Addr) (sp : Sp) (E : XK) : R2 := fun x y H Q => ∃ a dx fs t, x = .ref a ∧ H a = some (.ins C dx fs) ∧ TyX K H y (.type t) ∧ PySem.W.subIn K (.type t) (.ref C) = some false ∧ sp [x, y] H Q E
theorem op_owEqN (at_ : PySem.W.findIn X.K (.ref C) "__eq__" = some (some (.ref f))) (fn : PySem.W.isFn X.K (.ref f) = true) (F : FnOk X.prog X.w X.K X.mg X.base CX k f fd ps sp) (hr : Room k X.A) (hb : Binds X.K fd ps []) (hx : Passes CX X E) :
    OpR X (compareOp .Eq) (rOwN X.K C sp E) := by
  intro pins s σ H x y v u Q I rx ry h
  obtain ⟨a, dx, fs, t, rfl, ha, ty, hsub, q⟩ := h
  cases (show v = Value.ref a from rx)
  obtain ⟨od, J⟩ := inst_at I ha
  obtain ⟨P, Z, hP, _⟩ := kit_of I ry ty
  obtain ⟨m, hF⟩ := I.fr
  refine PySem.W.cmp_K (op := .Eq) (tb := .type t) hr.units0 hF I.ok.mod.kin J (Z.ty _ s.heap I.kIn hP) (by simp [PySem.W.notFirst, hsub]) at_ fn ?_
  refine wpAny_mono (run_fn (us := [.ref a, u]) (vs := [.ref a, y]) F hr hb .nil hx I (.cons rfl (.cons ry .nil)) q) (fun w s' z => ?_) fun _ _ x => x
  obtain ⟨z', H', I', rz, qz⟩ := z
  exact cb rz ⟨z', H', I', rz, qz⟩
end
end TL
namespace TL
open PySem L2
/-! ### how keywords bind: one value by place and one by name, or one by name alone -/
def g11 {α : Type} : List α → List α → List α
  | [a], [b] => [a, b]
  | _, _ => []
def g01 {α : Type} : List α → List α → List α
  | [], [a] => [a]
  | _, _ => []
theorem vals_g11 {vs zs : List V} {us ws : List Value} (r : Vals vs us) (q : Vals zs ws) : Vals (g11 vs zs) (g11 us ws) := by
  rcases r with _ | ⟨h1, _ | ⟨_, _⟩⟩ <;> rcases q with _ | ⟨h2, _ | ⟨_, _⟩⟩ <;> first | exact .nil | exact .cons h1 (.cons h2 .nil)
theorem vals_g01 {vs zs : List V} {us ws : List Value} (r : Vals vs us) (q : Vals zs ws) : Vals (g01 vs zs) (g01 us ws) := by
  rcases r with _ | ⟨h1, _ | ⟨_, _⟩⟩ <;> rcases q with _ | ⟨h2, _ | ⟨_, _⟩⟩ <;> first | exact .nil | exact .cons h2 .nil
theorem g11_two {α : Type} {us ws : List α} (h : (g11 us ws).length = 2) : ∃ a b, us = [a] ∧ ws = [b] := by
  match us, ws, h with
  | [a], [b], _ => exact ⟨a, b, rfl, rfl⟩
  | [], _, h => simp [g11] at h
  | _ :: _ :: _, _, h => simp [g11] at h
  | [_], [], h => simp [g11] at h
  | [_], _ :: _ :: _, h => simp [g11] at h
theorem g01_one {α : Type} {us ws : List α} (h : (g01 us ws).length = 1) : ∃ a, us = [] ∧ ws = [a] := by
  match us, ws, h with
  | [], [a], _ => exact ⟨a, rfl, rfl⟩
  | _ :: _, _, h => simp [g01] at h
  | [], [], h => simp [g01] at h
  | [], _ :: _ :: _, h => simp [g01] at h
theorem Fun.kb11 {K : PySem.W.Frag} {x qual : Str} {st : Stmt} {f : Addr} {fd : FuncData} {p1 p2 : Str} (F : L2.Fun K x qual st f fd)
    (h : ∀ (kV doc pm : Value) (an : Option Addr) (cdv ct a b : Value), bindArgs (PySem.W.fnOf x qual (defArgs st) (defBody st) (defScope st) .none kV doc pm an cdv ct) ⟨[a], [(p2, b)]⟩ = pure [(p1, a), (p2, b)]) : KBinds K fd [p1, p2] [p2] g11 g11 := by
  obtain ⟨oc, od, kV, doc, pm, an, cdv, ct, osl, rfl, lk, hcd⟩ := F.ex
  refine ⟨fun s us ws X hl => ?_, vals_g11⟩
  obtain ⟨a, b, rfl, rfl⟩ := g11_two hl
  exact .of_eq (h _ _ _ _ _ _ a b)
theorem Fun.kb01 {K : PySem.W.Frag} {x qual : Str} {st : Stmt} {f : Addr} {fd : FuncData} {p1 : Str} (F : L2.Fun K x qual st f fd)
    (h : ∀ (kV doc pm : Value) (an : Option Addr) (cdv ct a : Value), bindArgs (PySem.W.fnOf x qual (defArgs st) (defBody st) (defScope st) .none kV doc pm an cdv ct) ⟨[], [(p1, a)]⟩ = pure [(p1, a)]) : KBinds K fd [p1] [p1] g01 g01 := by
  obtain ⟨oc, od, kV, doc, pm, an, cdv, ct, osl, rfl, lk, hcd⟩ := F.ex
  refine ⟨fun s us ws X hl => ?_, vals_g01⟩
  obtain ⟨a, rfl, rfl⟩ := g01_one hl
  exact .of_eq (h _ _ _ _ _ _ a)
/-- a def with defaults, called with keywords, all parameters written: g puts them in order -/
theorem FunD.kbinds1 {K : PySem.W.Frag} {x qual : Str} {params : Arguments} {body : List Stmt} {scope : Scope} {dvs : List V} {kws : List (Str × V)} {f : Addr} {fd : FuncData} {ps : List Str} (F : FunD K x qual params body scope dvs kws f fd) (n : Nat) (ks : List Str) (g : {α : Type} → List α → List α → List α) (hd : dvs ≠ [])
    (hrel : ∀ {vs zs : List V} {us ws : List Value}, Vals vs us → Vals zs ws → Vals (g vs zs) (g us ws))
    (h : ∀ (T : Addr) (kV doc pm : Value) (an : Option Addr) (cdv ct : Value) (us its ws : List Value), us.length = n → its.length = dvs.length → ws.length = ks.length →
      ∃ k, bindArgs (PySem.W.fnOf x qual params body scope (.ref T) kV doc pm an cdv ct) ⟨us, ks.zip ws⟩ = seqItems? (.ref T) >>= k ∧ k (some its.toArray) = pure (ps.zip (g us ws))) : KBn K fd ps n ks (fun us ws => g us ws) (fun vs zs => g vs zs) := by
  obtain ⟨oc, od, dV, kV, doc, pm, an, cdv, ct, osl, rfl, lk, hcd, hD, hK⟩ := F.ex
  rcases hD with ⟨e, _⟩ | ⟨_, T, o, its, m, rfl, lT, oT, rT⟩
  · exact absurd e hd
  · refine ⟨fun s us ws X l1 l2 => BindsTo.of_looks fun M => ?_, hrel⟩
    obtain ⟨k, e1, e2⟩ := h T kV doc pm an cdv ct us its ws l1 rT.length.symm l2
    rw [e1]
    exact looks_items X lT oT (.of_pure e2)
/-- the two values by name, the second parameter first -/
def gSwap {α : Type} (us ws : List α) : List α := us ++ ws.reverse
theorem vals_rev {vs : List V} {us : List Value} (r : Vals vs us) : Vals vs.reverse us.reverse := by
  induction r with
  | nil => exact .nil
  | cons h _ ih => rw [List.reverse_cons, List.reverse_cons]; exact ih.append (.cons h .nil)
theorem vals_swap {vs zs : List V} {us ws : List Value} (r : Vals vs us) (q : Vals zs ws) : Vals (gSwap vs zs) (gSwap us ws) := r.append (vals_rev q)
def gApp {α : Type} (us ws : List α) : List α := us ++ ws
theorem vals_app {vs zs : List V} {us ws : List Value} (r : Vals vs us) (q : Vals zs ws) : Vals (gApp vs zs) (gApp us ws) := r.append q
end TL
namespace TL
open PySem L2
/-! ### a def called by names alone -/
section
variable {X : Cx} {CX : CXT} {k : Nat} {x : Str} {f : Addr} {fd : FuncData} {ps ks : List Str} {sp : Sp} {E : XK} {tk : TA} {kws : List Keyword} {p pos : Pos} {g : List Value → List Value → List Value} {gV : List V → List V → List V}
def tCallK0 (sp : Sp) (gV : List V → List V → List V) (E : XK) (tk : TA) : TE := fun σ H Q => tk σ H fun zs H2 => sp (gV [] zs) H2 Q E
theorem pe_callK0 (F : FnOk X.prog X.w X.K X.mg X.base CX k f fd ps sp) (hr : Room k X.A) (hg : Gl X x) (hm : X.mg x = some (.ref f)) (hk : PySem.W.keepIn X.K (.ref f) = true) (hb : KBinds X.K fd ps ks g gV) (hx : Passes CX X E)
    (hkw : PK X kws tk) (hall : (backToKw pos (keywordEach kws X.env)).all (·.1.isSome) = true := by rfl) (hks : (backToKw pos (keywordEach kws X.env)).filterMap (·.1) = ks := by rfl)
    (hdb : (x == ("__debug__" : Str)) = false := by decide)
    (hpl : ((backTo pos (starEach [] X.env)).any (·.1) || (backToKw pos (keywordEach kws X.env)).any (·.1.isNone)) = false := by rfl) :
    PE X (.Call (.Name x p) [] kws pos) (tCallK0 sp gV E tk) := by
  refine ⟨fun pins s σ H Q I h => ?_⟩
  refine wpAny_Call_Name_kw (ld_glob I hg hm ?_ hdb)
  refine PySem.W.callWith_KW0 (first := []) (h₀ := X.base) I.ok.mod.kin hk hall (thn (hkw.run pos pins s σ H _ I h) fun ws s2 ⟨zs, H2, I2, rz, q2⟩ => ⟨I2.kIn, ?_⟩) hpl
  rw [hks]
  exact run_fnk (us := []) (vs := []) F hr hb hx I2 .nil rz q2
end
/-- two values by name, the second parameter first -/
def g02s {α : Type} : List α → List α → List α
  | [], [a, b] => [b, a]
  | _, _ => []
theorem vals_g02s {vs zs : List V} {us ws : List Value} (r : Vals vs us) (q : Vals zs ws) : Vals (g02s vs zs) (g02s us ws) := by
  rcases r with _ | ⟨h1, _⟩
  · rcases q with _ | ⟨h2, _ | ⟨h3, _ | ⟨_, _⟩⟩⟩ <;> first | exact .nil | exact .cons h3 (.cons h2 .nil)
  · exact .nil
theorem g02s_two {α : Type} {us ws : List α} (h : (g02s us ws).length = 2) : ∃ a b, us = [] ∧ ws = [a, b] := by
  match us, ws, h with
  | [], [a, b], _ => exact ⟨a, b, rfl, rfl⟩
  | _ :: _, _, h => simp [g02s] at h
  | [], [], h => simp [g02s] at h
  | [], [_], h => simp [g02s] at h
  | [], _ :: _ :: _ :: _, h => simp [g02s] at h
theorem Fun.kb02s {K : PySem.W.Frag} {x qual : Str} {st : Stmt} {f : Addr} {fd : FuncData} {p1 p2 : Str} (F : L2.Fun K x qual st f fd)
    (h : ∀ (kV doc pm : Value) (an : Option Addr) (cdv ct a b : Value), bindArgs (PySem.W.fnOf x qual (defArgs st) (defBody st) (defScope st) .none kV doc pm an cdv ct) ⟨[], [(p2, b), (p1, a)]⟩ = pure [(p1, a), (p2, b)]) : KBinds K fd [p1, p2] [p2, p1] g02s g02s := by
  obtain ⟨oc, od, kV, doc, pm, an, cdv, ct, osl, rfl, lk, hcd⟩ := F.ex
  refine ⟨fun s us ws X hl => ?_, vals_g02s⟩
  obtain ⟨a, b, rfl, rfl⟩ := g02s_two hl
  exact .of_eq (h _ _ _ _ _ _ b a)
end TL
namespace PySem.W
open PySem PySem.Spec PySem.Calls PyProof.Rows
section
variable {prog : Program} {w : World} {A : Around} {E : Value → Shared → Prop} {s : Shared} {K : Frag} {x C L : Addr} {h₀ : Heap} {m : Str → Option Value} {ox : Obj} {od : Option Obj} {f : Addr} {b tb : Value} {name : Str} {id : String}
theorem ifBound_KB {M : Model} {args : List Value} {Q : Option Value → Shared → Prop} (X : K.In s.heap) (I : InstAt s.heap x ox C od) (hs : findIn K (.ref C) name = some (some (.builtin id))) (hb : ∀ self, bindSpecial (.builtin id) self = pure (.builtin id, [self]))
    (h : wpAny M A (call (.builtin id) (.ref x :: args)) (fun v => Q (some v)) E s) : wpAny M A (callSpecialIfBound? (.ref x) name args) Q E s := by
  simp only [callSpecialIfBound?, bindSpecialIfBound?]
  refine wpAny_holding (wpAny_bind (wpAny_bind (wpAny_bind (I.type.here ((looks_findIn X hs).here ?_)))))
  refine wpAny_bind (wpAny_askSetting (wpAny_ite ?_))
  have fin : wpAny M A (call (.builtin id) ([.ref x] ++ args) >>= fun v => pure (some v)) Q E s := wpAny_bind (wpAny_mono h (fun v s' h' => wpAny_pure h') fun _ _ h' => h')
  split
  · exact wpAny_bind ((Looks.of_pure (hb _)).here (wpAny_pure (by exact fin)))
  · exact wpAny_tryCatch (wpAny_bind ((Looks.of_pure (hb _)).here (wpAny_pure (by exact fin))))
open Builtin in
theorem one_ne {Q : Value → Shared → Prop} (hu : A.in1.units < cLine) (X : K.In s.heap) (I : InstAt s.heap x ox C od) (hm : mroIn K C (.type "object") = some true) (hr : findIn K (.ref C) "__eq__" = some (some (.ref f))) (hf : isFn K (.ref f) = true)
    (h : wpAny (model prog w) A.in1 (call (.ref f) [.ref x, b]) (fun v s' => ∃ c, v = .bool c ∧ Q (.bool (!c)) s') E s) : wpAny (model prog w) A (call (.builtin "object.__ne__") [.ref x, b]) Q E s := by
  refine wpAny_call (codeAny_call_builtin PySem.F.cmp_object.ne.plain PySem.F.cmpEntry_ne (check_slot (i := "object.__ne__") (owner := "object") (n := "__ne__") (by decide +kernel) (by decide +kernel) (I.type.andThen (looks_mroIn X hm)) (PySem.F.cmpArgs_ne _ _) ?_))
  unfold Builtin.«object.__ne__»
  refine wpAny_bind (m := slotArgs "__ne__" 1 _) (wpAny_pure ?_)
  refine wpAny_bind (m := cRoomFor _ _) (wpAny_cRoomFor hu ?_)
  refine wpAny_bind (m := callSpecialIfBound? (.ref x) (Str.ofString "__eq__") _) (ifBound_K X I hr hf (wpAny_mono h (fun r s' hq => ?_) fun _ _ y => y))
  obtain ⟨c, rfl, hq⟩ := hq
  exact wpAny_bind (wpAny_truthy_bool (wpAny_pure hq))
theorem cmp_KNe {Q : Value → Shared → Prop} (hu : A.units < cLine) (hu1 : A.in1.units < cLine) (F : Fr h₀ L s.heap m) (X₀ : K.In h₀) (I : InstAt s.heap x ox C od) (hb : Looks (model prog w) s.heap (typeOf b) tb) (hn : notFirst K C tb = true)
    (hne : findIn K (.ref C) "__ne__" = some (some (.builtin "object.__ne__"))) (hm : mroIn K C (.type "object") = some true) (hs : findIn K (.ref C) "__eq__" = some (some (.ref f))) (hf : isFn K (.ref f) = true)
    (h : wpAny (model prog w) A.in1 (call (.ref f) [.ref x, b]) (fun v s' => ∃ c, v = .bool c ∧ Q (.bool (!c)) s') E s) : wpAny (model prog w) A (richCompare .NotEq (.ref x) b) Q E s := by
  have X := X₀.keeps F.keep
  have one : wpAny (model prog w) A (tryCompare (.ref x) (cmpInfo .NotEq).2.1 b) (fun r s' => ∃ v, r = some v ∧ Q v s') E s := by
    unfold tryCompare
    refine wpAny_bind (ifBound_KB X I hne PySem.F.cmp_object.ne.bind (one_ne hu1 X I hm hs hf (wpAny_mono h (fun v s' hv => ?_) fun _ _ e => e)))
    obtain ⟨c, rfl, hq⟩ := hv
    exact ⟨c, rfl, wpAny_pure ⟨_, rfl, hq⟩⟩
  unfold richCompare
  simp only [oneThing_ref]
  refine wpAny_holding (wpAny_bind (wpAny_cRoomFor hu ?_))
  refine wpAny_bind (I.type.here (wpAny_bind (hb.here ?_)))
  split
  · rename_i q
    have e : subIn K tb (.ref C) = some false := by
      rcases Bool.or_eq_true_iff.mp hn with e | e
      · rw [beq_iff_eq.mp e] at q; simp at q
      · exact beq_iff_eq.mp e
    refine wpAny_bind ((looks_subIn X e).here ?_)
    simp only [Bool.false_eq_true, if_false]
    refine wpAny_bind (wpAny_mono one (fun r s' z => ?_) fun _ _ e => e)
    obtain ⟨v, rfl, hq⟩ := z
    exact wpAny_pure hq
  · refine wpAny_bind (wpAny_pure ?_)
    simp only [Bool.false_eq_true, if_false]
    refine wpAny_bind (wpAny_mono one (fun r s' z => ?_) fun _ _ e => e)
    obtain ⟨v, rfl, hq⟩ := z
    exact wpAny_pure hq
end
end PySem.W
namespace TL
open PySem L2
section
variable {X : Cx} {C f : Addr} {k : Nat} {fd : FuncData} {ps : List Str} {sp : Sp} {CX : CXT} {E : XK}
/-- x != y, both instances of the class at C that has __eq__ alone -/
def rOwNe (C : Addr) (sp : Sp) (E : XK) : R2 := fun x y H Q => ∃ a dx fs b dy gs, x = .ref a ∧ y = .ref b ∧ H a = some (.ins C dx fs) ∧ H b = some (.ins C dy gs) ∧ sp [x, y] H (fun v H' => ∃ c, v = .bl c ∧ Q (.bl (!c)) H') E
theorem op_owNe (at_ : PySem.W.findIn X.K (.ref C) "__eq__" = some (some (.ref f))) (fn : PySem.W.isFn X.K (.ref f) = true) (ne : PySem.W.findIn X.K (.ref C) "__ne__" = some (some (.builtin "object.__ne__"))) (hm : PySem.W.mroIn X.K C (.type "object") = some true)
    (F : FnOk X.prog X.w X.K X.mg X.base CX k f fd ps sp) (hr : Room (k + 1) X.A) (hb : Binds X.K fd ps []) (hx : Passes CX X.nox E) : OpR X (compareOp .NotEq) (rOwNe C sp E) := by
  intro pins s σ H x y v u Q I rx ry h
  obtain ⟨a, dx, fs, b, dy, gs, rfl, rfl, ha, hb', q⟩ := h
  cases (show v = Value.ref a from rx)
  cases (show u = Value.ref b from ry)
  obtain ⟨od, J⟩ := inst_at I ha
  obtain ⟨od', J'⟩ := inst_at I hb'
  obtain ⟨m, hF⟩ := I.fr
  refine PySem.W.cmp_KNe (tb := .ref C) hr.units0 hr.in1.units0 hF I.ok.mod.kin J J'.type (by simp [PySem.W.notFirst]) ne hm at_ fn ?_
  have hl : ([Value.ref a, Value.ref b] ++ []).length = ps.length := by
    rw [← F.len _ _ _ _ q]
    rfl
  refine wpAny_call (codeAny_mono (F.run X.A.in1 X.stack s H ⟨[.ref a, .ref b], []⟩ [.ref a, .ref b] [.ref a, .ref b] _ E hr.in1 I.env0.in1 (hb s [.ref a, .ref b] I.kIn hl) (.cons rfl (.cons rfl .nil)) q) fun r s' hq => ?_)
  cases r with
  | error er => exact False.elim (hx pins σ H s er s' (I.wish _) hq)
  | ok fl =>
    cases fl with
    | ret u =>
      obtain ⟨v, H', I3, rv, c, rfl, q3⟩ := I.after hq
      cases (show u = Value.bool c from rv)
      exact ⟨c, rfl, .bl (!c), H', I3, rfl, q3⟩
    | next => exact False.elim hq
    | brk => exact False.elim hq
    | cont => exact False.elim hq
end
end TL
namespace TL
open PySem L2
/-- two values by name, in order -/
def g02 {α : Type} : List α → List α → List α
  | [], [a, b] => [a, b]
  | _, _ => []
theorem vals_g02 {vs zs : List V} {us ws : List Value} (r : Vals vs us) (q : Vals zs ws) : Vals (g02 vs zs) (g02 us ws) := by
  rcases r with _ | ⟨h1, _⟩
  · rcases q with _ | ⟨h2, _ | ⟨h3, _ | ⟨_, _⟩⟩⟩ <;> first | exact .nil | exact .cons h2 (.cons h3 .nil)
  · exact .nil
theorem g02_two {α : Type} {us ws : List α} (h : (g02 us ws).length = 2) : ∃ a b, us = [] ∧ ws = [a, b] := by
  match us, ws, h with
  | [], [a, b], _ => exact ⟨a, b, rfl, rfl⟩
  | _ :: _, _, h => simp [g02] at h
  | [], [], h => simp [g02] at h
  | [], [_], h => simp [g02] at h
  | [], _ :: _ :: _ :: _, h => simp [g02] at h
theorem Fun.kb02 {K : PySem.W.Frag} {x qual : Str} {st : Stmt} {f : Addr} {fd : FuncData} {p1 p2 : Str} (F : L2.Fun K x qual st f fd)
    (h : ∀ (kV doc pm : Value) (an : Option Addr) (cdv ct a b : Value), bindArgs (PySem.W.fnOf x qual (defArgs st) (defBody st) (defScope st) .none kV doc pm an cdv ct) ⟨[], [(p1, a), (p2, b)]⟩ = pure [(p1, a), (p2, b)]) : KBinds K fd [p1, p2] [p1, p2] g02 g02 := by
  obtain ⟨oc, od, kV, doc, pm, an, cdv, ct, osl, rfl, lk, hcd⟩ := F.ex
  refine ⟨fun s us ws X hl => ?_, vals_g02⟩
  obtain ⟨a, b, rfl, rfl⟩ := g02_two hl
  exact .of_eq (h _ _ _ _ _ _ a b)
/-- three values by name, the third parameter ahead of the second -/
def g03s {α : Type} : List α → List α → List α
  | [], [a, c, b] => [a, b, c]
  | _, _ => []
theorem vals_g03s {vs zs : List V} {us ws : List Value} (r : Vals vs us) (q : Vals zs ws) : Vals (g03s vs zs) (g03s us ws) := by
  rcases r with _ | ⟨h1, _⟩
  · rcases q with _ | ⟨h2, _ | ⟨h3, _ | ⟨h4, _ | ⟨_, _⟩⟩⟩⟩ <;> first | exact .nil | exact .cons h2 (.cons h4 (.cons h3 .nil))
  · exact .nil
theorem g03s_three {α : Type} {us ws : List α} (h : (g03s us ws).length = 3) : ∃ a c b, us = [] ∧ ws = [a, c, b] := by
  match us, ws, h with
  | [], [a, c, b], _ => exact ⟨a, c, b, rfl, rfl⟩
  | _ :: _, _, h => simp [g03s] at h
  | [], [], h => simp [g03s] at h
  | [], [_], h => simp [g03s] at h
  | [], [_, _], h => simp [g03s] at h
  | [], _ :: _ :: _ :: _ :: _, h => simp [g03s] at h
theorem Fun.kb03s {K : PySem.W.Frag} {x qual : Str} {st : Stmt} {f : Addr} {fd : FuncData} {p1 p2 p3 : Str} (F : L2.Fun K x qual st f fd)
    (h : ∀ (kV doc pm : Value) (an : Option Addr) (cdv ct a c b : Value), bindArgs (PySem.W.fnOf x qual (defArgs st) (defBody st) (defScope st) .none kV doc pm an cdv ct) ⟨[], [(p1, a), (p3, c), (p2, b)]⟩ = pure [(p1, a), (p2, b), (p3, c)]) : KBinds K fd [p1, p2, p3] [p1, p3, p2] g03s g03s := by
  obtain ⟨oc, od, kV, doc, pm, an, cdv, ct, osl, rfl, lk, hcd⟩ := F.ex
  refine ⟨fun s us ws X hl => ?_, vals_g03s⟩
  obtain ⟨a, c, b, rfl, rfl⟩ := g03s_three hl
  exact .of_eq (h _ _ _ _ _ _ a c b)
end TL
namespace TL
open PySem PySem.Spec PyProof.Rows L2
/-! ### max and min of a tuple of ints -/
section
variable {prog : Program} {w : World} {A : Around} {E : Value → Shared → Prop} {s : Shared} {l : Addr} {xs : Array (Int × Tok)}
theorem iter_intTuple {Q : Value → Shared → Prop} (hl : s.heap.IsTuple l (intItems xs))
    (h : ∀ s₂ : Shared, s₂ = { s with heap := s.heap.push { cls := .type "tuple_iterator", data := .fields #[.ref l, .int 0 0] } } →
      (s₂.heap.IsTupleIter s.heap.objs.size l 0 ∧ s₂.heap.IsTuple l (intItems xs)) → (∀ b ∈ [s.heap.objs.size, l], b < s₂.heap.objs.size) → l ≠ s.heap.objs.size → Q (.ref s.heap.objs.size) s₂) :
    wpAny (model prog w) A (pyIter (.ref l)) Q E s := by
  have hlt : l < s.heap.objs.size := by obtain ⟨_, e, _⟩ := hl; exact Heap.lt_size e
  refine wpAny_pyIter_tuple hl (h _ rfl ⟨⟨_, Heap.get?_push_size _ rfl, rfl, rfl⟩, hl.push _⟩ (fun b hb => ?_) (Nat.ne_of_lt hlt))
  show b < (s.heap.push _).objs.size
  rw [Heap.size_push]
  rcases List.mem_cons.mp hb with rfl | hb
  · exact Nat.lt_succ_self _
  · rcases List.mem_cons.mp hb with rfl | hb
    · exact Nat.lt_succ_of_lt hlt
    · cases hb
theorem old_keptT {h' : Heap} (hk : ∀ b o, b ∉ [s.heap.objs.size] → (s.heap.push { cls := .type "tuple_iterator", data := .fields #[.ref l, .int 0 0] }).get? b = some o → h'.get? b = some o) :
    ∀ b o, s.heap.get? b = some o → h'.get? b = some o := fun b o e => by
  refine hk b o (fun hm => ?_) (Heap.get?_push_of_some _ e)
  rcases List.mem_cons.mp hm with e1 | hm
  · rw [e1] at e
    exact absurd (Heap.lt_size e) (Nat.lt_irrefl _)
  · cases hm
theorem max_intTuple {Q : Value → Shared → Prop} (hh : A.handled = none) (hl : s.heap.IsTuple l (intItems xs)) (hne : 0 < xs.size)
    (h : ∀ v h' tk, (intItems xs)[argBest (fun i j => decide (numAt xs i > numAt xs j)) (xs.size - 1)]? = some v → (∀ b o, s.heap.get? b = some o → h'.get? b = some o) → Q v { s with heap := h', toks := tk }) :
    wpAny (model prog w) A (call (.builtin "max") [.ref l]) Q E s := by
  refine call_max_walk (iter_intTuple hl fun s₂ e st hfp hlI => ?_)
  subst e
  refine ⟨_, _, _, _, _, _, _, rfl, Walks.tuple (A := A.in1) hh _ l hlI (intItems xs), st, hfp, by simpa [intItems] using hne, CmpOf.ints_gt (numAt xs) (fun _ _ => intItems_at), fun v h' tk hP hk => ?_⟩
  exact h v h' tk (by simpa [intItems] using hP) (old_keptT hk)
theorem min_intTuple {Q : Value → Shared → Prop} (hh : A.handled = none) (hl : s.heap.IsTuple l (intItems xs)) (hne : 0 < xs.size)
    (h : ∀ v h' tk, (intItems xs)[argBest (fun i j => decide (numAt xs i < numAt xs j)) (xs.size - 1)]? = some v → (∀ b o, s.heap.get? b = some o → h'.get? b = some o) → Q v { s with heap := h', toks := tk }) :
    wpAny (model prog w) A (call (.builtin "min") [.ref l]) Q E s := by
  refine call_min_walk (iter_intTuple hl fun s₂ e st hfp hlI => ?_)
  subst e
  refine ⟨_, _, _, _, _, _, _, rfl, Walks.tuple (A := A.in1) hh _ l hlI (intItems xs), st, hfp, by simpa [intItems] using hne, CmpOf.ints_lt (numAt xs) (fun _ _ => intItems_at), fun v h' tk hP hk => ?_⟩
  exact h v h' tk (by simpa [intItems] using hP) (old_keptT hk)
end
section
variable {prog : Program} {w : World} {A : Around} {E : Value → Shared → Prop} {s : Shared} {l : Addr} {its : List Value} {ns : List Int} {Q : Value → Shared → Prop}
theorem max_rawT (hh : A.handled = none) (hl : s.heap.IsTuple l its.toArray) (hi : IntsAre its ns) (hne : 0 < ns.length)
    (h : ∀ h' tk M t', (∀ b o, s.heap.get? b = some o → h'.get? b = some o) → M ∈ ns → (∀ a, a ∈ ns → a ≤ M) → Q (.int M t') { s with heap := h', toks := tk }) : wpAny (model prog w) A (call (.builtin "max") [.ref l]) Q E s := by
  obtain ⟨xs, e⟩ := hi.allInts.items
  have hn : numsOf (intItems xs).toList = ns := by rw [← e]; exact hi.numsOf
  rw [nums_intItems] at hn
  subst hn
  rw [e] at hl
  have hsz : 0 < xs.size := by simpa using hne
  refine max_intTuple hh hl hsz fun v h' tk hv hk => ?_
  obtain ⟨t, rfl⟩ := intItems_at hv
  obtain ⟨h1, h2⟩ := argBest_gt (numAt xs) (xs.size - 1)
  refine h h' tk _ t hk ?_ fun a ha => ?_
  · rw [numAt_eq]; exact PySem.getD_mem (by rw [List.length_map, Array.length_toList]; omega)
  · obtain ⟨j, hj, rfl⟩ := mem_getD ha
    rw [List.length_map, Array.length_toList] at hj
    rw [← numAt_eq]; exact h2 j (by omega)
theorem min_rawT (hh : A.handled = none) (hl : s.heap.IsTuple l its.toArray) (hi : IntsAre its ns) (hne : 0 < ns.length)
    (h : ∀ h' tk M t', (∀ b o, s.heap.get? b = some o → h'.get? b = some o) → M ∈ ns → (∀ a, a ∈ ns → M ≤ a) → Q (.int M t') { s with heap := h', toks := tk }) : wpAny (model prog w) A (call (.builtin "min") [.ref l]) Q E s := by
  obtain ⟨xs, e⟩ := hi.allInts.items
  have hn : numsOf (intItems xs).toList = ns := by rw [← e]; exact hi.numsOf
  rw [nums_intItems] at hn
  subst hn
  rw [e] at hl
  have hsz : 0 < xs.size := by simpa using hne
  refine min_intTuple hh hl hsz fun v h' tk hv hk => ?_
  obtain ⟨t, rfl⟩ := intItems_at hv
  obtain ⟨h1, h2⟩ := argBest_lt (numAt xs) (xs.size - 1)
  refine h h' tk _ t hk ?_ fun a ha => ?_
  · rw [numAt_eq]; exact PySem.getD_mem (by rw [List.length_map, Array.length_toList]; omega)
  · obtain ⟨j, hj, rfl⟩ := mem_getD ha
    rw [List.length_map, Array.length_toList] at hj
    rw [← numAt_eq]; exact h2 j (by omega)
end
section
variable {X : Cx}
/-- max(xs), min(xs) of a list or a tuple of ints -/
def rMaxS (K : PySem.W.Frag) : List V → Hp → VK → Prop := fun vs H Q => ∃ (a : Addr) (ns : List Int), vs = [V.ref a] ∧ Sq K H a (ns.map V.int) ∧ 0 < ns.length ∧ ∀ m, m ∈ ns → (∀ y, y ∈ ns → y ≤ m) → Q (.int m) H
def rMinS (K : PySem.W.Frag) : List V → Hp → VK → Prop := fun vs H Q => ∃ (a : Addr) (ns : List Int), vs = [V.ref a] ∧ Sq K H a (ns.map V.int) ∧ 0 < ns.length ∧ ∀ m, m ∈ ns → (∀ y, y ∈ ns → m ≤ y) → Q (.int m) H
theorem cr_maxS (hc : X.calm = true) : CallR X (.builtin "max") (rMaxS X.K) := by
  intro pins s σ H vs us Q I r h
  obtain ⟨a, ns, rfl, hs, hne, q⟩ := h
  rcases hs with hs | hs
  · exact cr_max hc pins s σ H _ us Q I r ⟨a, ns, rfl, hs, hne, q⟩
  · obtain ⟨its, rv, hl, _⟩ := I.tuple hs
    rw [Vals.ref1 r]
    exact max_rawT (I.ok.hd hc) hl rv.ints hne fun h' tk m t' hk h1 h2 => ⟨.int _, H, I.kept hk, ⟨_, rfl⟩, q m h1 h2⟩
theorem cr_minS (hc : X.calm = true) : CallR X (.builtin "min") (rMinS X.K) := by
  intro pins s σ H vs us Q I r h
  obtain ⟨a, ns, rfl, hs, hne, q⟩ := h
  rcases hs with hs | hs
  · exact cr_min hc pins s σ H _ us Q I r ⟨a, ns, rfl, hs, hne, q⟩
  · obtain ⟨its, rv, hl, _⟩ := I.tuple hs
    rw [Vals.ref1 r]
    exact min_rawT (I.ok.hd hc) hl rv.ints hne fun h' tk m t' hk h1 h2 => ⟨.int _, H, I.kept hk, ⟨_, rfl⟩, q m h1 h2⟩
end
end TL
namespace TL
theorem pp_bound {k : Nat} : ∀ {ps as : List Nat}, (∀ p ∈ ps, 0 < p) → (∀ a ∈ as, a ≤ k) → pp ps as ≤ ps.foldr (· * ·) 1 ^ k
  | [], _, _, _ => by simp [pp]
  | p :: ps, [], h, _ => by
    have : ∀ qs : List Nat, (∀ q ∈ qs, 0 < q) → 0 < qs.foldr (· * ·) 1 := by
      intro qs
      induction qs with
      | nil => intro _; exact Nat.one_pos
      | cons q qs ih => intro hq; exact Nat.mul_pos (hq q (List.mem_cons_self ..)) (ih fun r hr => hq r (List.mem_cons_of_mem _ hr))
    exact Nat.pow_pos (this (p :: ps) h)
  | p :: ps, a :: as, h, ha => by
    have ih := pp_bound (ps := ps) (as := as) (fun q hq => h q (List.mem_cons_of_mem _ hq)) (fun b hb => ha b (List.mem_cons_of_mem _ hb))
    simp only [pp, List.foldr_cons, Nat.mul_pow]
    exact Nat.mul_le_mul (Nat.pow_le_pow_right (h p (List.mem_cons_self ..)) (ha a (List.mem_cons_self ..))) ih
/-- exponents of at most k -/
def Ex (k : Nat) (e : List Int) : Prop := ∀ x ∈ e, x.natAbs ≤ k
theorem ex_up {k : Nat} {e : List Int} (h : Ex k e) : up e ≤ 30030 ^ k := pp_bound (ps := prs) (by decide) fun a ha => by
  obtain ⟨x, hx, rfl⟩ := List.mem_map.mp (show a ∈ e.map Int.toNat from ha)
  have := h x hx
  omega
theorem ex_neg {k : Nat} {e : List Int} (h : Ex k e) : Ex k (negE e) := fun x hx => by
  obtain ⟨y, hy, rfl⟩ := List.mem_map.mp (show x ∈ e.map (- ·) from hx)
  rw [Int.natAbs_neg]
  exact h y hy
theorem ex_dn {k : Nat} {e : List Int} (h : Ex k e) : dn e ≤ 30030 ^ k := by
  rw [← up_neg]
  exact ex_up (ex_neg h)
theorem ex_mul {k : Nat} {e : List Int} {n : Int} {m : Nat} (hn : n.natAbs ≤ m) (h : Ex k e) : Ex (m * k) (mulE n e) := fun x hx => by
  obtain ⟨y, hy, rfl⟩ := List.mem_map.mp (show x ∈ e.map (n * ·) from hx)
  rw [Int.natAbs_mul]
  exact Nat.mul_le_mul hn (h y hy)
theorem big {k : Nat} (h : k ≤ 266) : 30030 ^ k < 2 ^ 4000 := by
  have h1 : 30030 ^ k ≤ (2 ^ 15) ^ k := Nat.pow_le_pow_left (by decide) k
  rw [← Nat.pow_mul] at h1
  exact Nat.lt_of_le_of_lt h1 (Nat.pow_lt_pow_right (by decide) (by omega))
end TL
namespace TL
theorem pp_sum : ∀ {ps as : List Nat}, (∀ p ∈ ps, 0 < p ∧ p ≤ 13) → pp ps as ≤ 13 ^ as.sum
  | [], _, _ => by simp only [pp]; exact Nat.pow_pos (by decide)
  | p :: ps, [], h => by simp [pp]
  | p :: ps, a :: as, h => by
    have ih := pp_sum (ps := ps) (as := as) (fun q hq => h q (List.mem_cons_of_mem _ hq))
    simp only [pp, List.sum_cons, Nat.pow_add]
    exact Nat.mul_le_mul (Nat.pow_le_pow_left (h p (List.mem_cons_self ..)).2 a) ih
theorem set_sum : ∀ (as : List Nat) (j a : Nat), (as.set j a).sum ≤ as.sum + a
  | [], _, _ => by simp
  | x :: as, 0, a => by simp only [List.set_cons_zero, List.sum_cons]; omega
  | x :: as, j + 1, a => by
    have := set_sum as j a
    simp only [List.set_cons_succ, List.sum_cons]
    omega
theorem sum_le {k : Nat} : ∀ {as : List Nat}, (∀ a ∈ as, a ≤ k) → as.sum ≤ as.length * k
  | [], _ => by simp
  | x :: as, h => by
    have ih := sum_le (as := as) fun a ha => h a (List.mem_cons_of_mem _ ha)
    have := h x (List.mem_cons_self ..)
    simp only [List.sum_cons, List.length_cons, Nat.add_mul, Nat.one_mul]
    omega
theorem prs_le : ∀ p ∈ prs, 0 < p ∧ p ≤ 13 := by decide
theorem upE_le {k : Nat} {e : List Int} (h : Ex k e) : ∀ a ∈ upE e, a ≤ k := fun a ha => by
  obtain ⟨x, hx, rfl⟩ := List.mem_map.mp (show a ∈ e.map Int.toNat from ha)
  have := h x hx
  omega
/-- what is known of a drawn ratio -/
def Kd (e : List Int) : Prop := up e < 2 ^ 200 ∧ dn e < 2 ^ 200
theorem up_sum {e : List Int} {m : Nat} (h : (upE e).sum ≤ m) (hm : m ≤ 50) : up e < 2 ^ 200 :=
  Nat.lt_of_le_of_lt (Nat.le_trans (pp_sum (ps := prs) prs_le) (Nat.pow_le_pow_right (by decide) (Nat.le_trans h hm))) (by decide : 13 ^ 50 < 2 ^ 200)
theorem up_ex3 {e : List Int} (h6 : e.length = 6) (h : Ex 3 e) : up e < 2 ^ 200 := up_sum (m := 18) (Nat.le_trans (sum_le (upE_le h)) (by rw [upE, List.length_map, h6]; decide)) (by decide)
theorem kd_ex3 {e : List Int} (h6 : e.length = 6) (h : Ex 3 e) : Kd e := ⟨up_ex3 h6 h, by rw [← up_neg]; exact up_ex3 (by simpa [negE] using h6) (ex_neg h)⟩
theorem up_set40 {e : List Int} {j : Nat} {v : Int} (h6 : e.length = 6) (h : Ex 1 e) (hv : v.natAbs ≤ 40) : up (e.set j v) < 2 ^ 200 := by
  have e1 : upE (e.set j v) = (upE e).set j v.toNat := by simp only [upE, List.map_set]
  refine up_sum (m := 46) ?_ (by decide)
  rw [e1]
  have h1 := set_sum (upE e) j v.toNat
  have h2 := sum_le (upE_le h)
  have h3 : (upE e).length = 6 := by rw [upE, List.length_map, h6]
  rw [h3] at h2
  omega
theorem kd_set40 {e : List Int} {j : Nat} {v : Int} (h6 : e.length = 6) (h : Ex 1 e) (hv : v.natAbs ≤ 40) : Kd (e.set j v) := ⟨up_set40 h6 h hv, by
  rw [← up_neg]
  have e1 : negE (e.set j v) = (negE e).set j (-v) := by simp only [negE, List.map_set]
  rw [e1]
  exact up_set40 (by simpa [negE] using h6) (ex_neg h) (by omega)⟩
theorem pp_ge : ∀ {ps as : List Nat}, (∀ p ∈ ps, 2 ≤ p) → as.length ≤ ps.length → ∀ a ∈ as, 2 ^ a ≤ pp ps as
  | [], [], _, _, _, h => by cases h
  | [], _ :: _, _, h, _, _ => absurd h (by simp)
  | _ :: _, [], _, _, _, h => by cases h
  | p :: ps, b :: as, hp, hl, a, ha => by
    have pos : ∀ (ps as : List Nat), (∀ p ∈ ps, 2 ≤ p) → 0 < pp ps as := by
      intro ps
      induction ps with
      | nil => intro as _; simp [pp]
      | cons q ps ih => intro as h; cases as with
        | nil => simp [pp]
        | cons c as => exact Nat.mul_pos (Nat.pow_pos (Nat.lt_of_lt_of_le (by decide) (h q (List.mem_cons_self ..)))) (ih as fun r hr => h r (List.mem_cons_of_mem _ hr))
    have hp' : ∀ q ∈ ps, 2 ≤ q := fun q hq => hp q (List.mem_cons_of_mem _ hq)
    simp only [pp]
    have p2 := hp p (List.mem_cons_self ..)
    rcases List.mem_cons.mp ha with z | z
    · rw [z]
      exact Nat.le_trans (Nat.pow_le_pow_left p2 b) (Nat.le_mul_of_pos_right _ (pos ps as hp'))
    · exact Nat.le_trans (pp_ge hp' (by simpa using hl) a z) (Nat.le_mul_of_pos_left _ (Nat.pow_pos (by omega)))
theorem ex_of_up {k : Nat} {e : List Int} (h6 : e.length = 6) (hu : up e < 2 ^ k) (hd : dn e < 2 ^ k) : Ex k e := fun x hx => by
  have h1 := pp_ge (ps := prs) (as := upE e) (by decide) (by rw [upE, List.length_map, h6]; decide) x.toNat (List.mem_map.mpr ⟨x, hx, rfl⟩)
  have h2 := pp_ge (ps := prs) (as := dnE e) (by decide) (by rw [dnE, List.length_map, h6]; decide) (-x).toNat (List.mem_map.mpr ⟨x, hx, rfl⟩)
  have g1 : x.toNat < k := (Nat.pow_lt_pow_iff_right (by decide : 1 < 2)).mp (Nat.lt_of_le_of_lt h1 hu)
  have g2 : (-x).toNat < k := (Nat.pow_lt_pow_iff_right (by decide : 1 < 2)).mp (Nat.lt_of_le_of_lt h2 hd)
  omega
/-- the ratio of the numerator alone -/
def posE (e : List Int) : List Int := e.map fun x => ((x.toNat : Nat) : Int)
theorem pos_len (e : List Int) : (posE e).length = e.length := by simp [posE]
theorem up_posE (e : List Int) : up (posE e) = up e := by
  simp only [up, upE, posE, List.map_map]
  congr 1
theorem pp_zero : ∀ (ps as : List Nat), (∀ a ∈ as, a = 0) → pp ps as = 1
  | [], _, _ => by simp [pp]
  | p :: ps, [], _ => by simp [pp]
  | p :: ps, a :: as, h => by
    have := pp_zero ps as fun b hb => h b (List.mem_cons_of_mem _ hb)
    simp only [pp, this, h a (List.mem_cons_self ..), Nat.pow_zero]
theorem dn_posE (e : List Int) : dn (posE e) = 1 := pp_zero _ _ fun a ha => by
  simp only [dnE, posE, List.map_map, List.mem_map] at ha
  obtain ⟨x, _, rfl⟩ := ha
  show (-(x.toNat : Int)).toNat = 0
  omega
theorem kd_pow {e : List Int} {n : Nat} (h : up e < 2 ^ 200) (hn : n ≤ 200) : up e ^ n < 2 ^ 50000 := by
  have h1 : up e ^ n ≤ (2 ^ 200) ^ n := Nat.pow_le_pow_left (Nat.le_of_lt h) n
  rw [← Nat.pow_mul] at h1
  exact Nat.lt_of_le_of_lt h1 (Nat.pow_lt_pow_right (by decide) (by
    have := Nat.mul_le_mul_left 200 hn
    omega))
end TL
namespace TL
/-- the exponents shifted right -/
def shrE (k : Nat) (as : List Nat) : List Nat := as.map (· / 2 ^ k)
def bitE (k : Nat) (as : List Nat) : List Nat := as.map (· / 2 ^ k % 2)
theorem half_step (a k : Nat) : a / 2 ^ k = a / 2 ^ (k + 1) + a / 2 ^ (k + 1) + a / 2 ^ k % 2 := by
  have h : a / 2 ^ (k + 1) = a / 2 ^ k / 2 := by rw [Nat.pow_succ, Nat.div_div_eq_div_mul]
  rw [h]
  omega
theorem pp_step (k : Nat) : ∀ ps as : List Nat, pp ps (shrE k as) = pp ps (shrE (k + 1) as) * pp ps (shrE (k + 1) as) * pp ps (bitE k as)
  | [], _ => by simp [pp, shrE, bitE]
  | _ :: _, [] => by simp [pp, shrE, bitE]
  | p :: ps, a :: as => by
    have ih := pp_step k ps as
    simp only [shrE, bitE, List.map_cons, pp] at ih ⊢
    rw [ih]
    have e : p ^ (a / 2 ^ k) = p ^ (a / 2 ^ (k + 1)) * p ^ (a / 2 ^ (k + 1)) * p ^ (a / 2 ^ k % 2) := by
      rw [← Nat.pow_add, ← Nat.pow_add, ← half_step]
    rw [e]
    simp only [Nat.mul_assoc, Nat.mul_left_comm, Nat.mul_comm]
theorem pp_pos2 : ∀ {ps : List Nat} (as : List Nat), (∀ p ∈ ps, 2 ≤ p) → 0 < pp ps as
  | [], _, _ => by simp [pp]
  | _ :: _, [], _ => by simp [pp]
  | p :: ps, a :: as, h => Nat.mul_pos (Nat.pow_pos (Nat.lt_of_lt_of_le (by decide) (h p (List.mem_cons_self ..)))) (pp_pos2 as fun q hq => h q (List.mem_cons_of_mem _ hq))
theorem pp_mono : ∀ {ps as bs : List Nat}, (∀ p ∈ ps, 2 ≤ p) → as.length = bs.length → (∀ (i a b : Nat), as[i]? = some a → bs[i]? = some b → a ≤ b) → pp ps as ≤ pp ps bs
  | [], _, _, _, _, _ => by simp [pp]
  | _ :: _, [], [], _, _, _ => Nat.le_refl _
  | _ :: _, [], _ :: _, _, h, _ => absurd h (by simp)
  | _ :: _, _ :: _, [], _, h, _ => absurd h (by simp)
  | p :: ps, a :: as, b :: bs, hp, hl, h => by
    have p2 := hp p (List.mem_cons_self ..)
    exact Nat.mul_le_mul (Nat.pow_le_pow_right (by omega) (h 0 a b rfl rfl)) (pp_mono (fun q hq => hp q (List.mem_cons_of_mem _ hq)) (Nat.succ.inj hl) fun i x y hx hy => h (i + 1) x y hx hy)
theorem pp_shr_le {ps as : List Nat} (k : Nat) (hp : ∀ p ∈ ps, 2 ≤ p) : pp ps (shrE k as) ≤ pp ps as := pp_mono hp (by simp [shrE]) fun i a b ha hb => by
  rw [shrE, List.getElem?_map, hb] at ha
  cases ha
  exact Nat.div_le_self _ _
theorem shr_zero (as : List Nat) : shrE 0 as = as := by simp [shrE]
theorem shr_top {as : List Nat} {n : Nat} (h : ∀ a ∈ as, a < 2 ^ n) (ps : List Nat) : pp ps (shrE n as) = 1 := pp_zero _ _ fun a ha => by
  obtain ⟨b, hb, rfl⟩ := List.mem_map.mp (show a ∈ as.map (· / 2 ^ n) from ha)
  exact Nat.div_eq_of_lt (h b hb)
end TL
namespace TL
/-! ### logarithms -/
/-- the mantissa (scale 2^200) and the exponent of p^(2^k) from below -/
def lgL (p : Nat) : Nat → Nat × Nat
  | 0 => if p < 4 then (p * 2 ^ 199, 1) else if p < 8 then (p * 2 ^ 198, 2) else (p * 2 ^ 197, 3)
  | k + 1 => let (a, m) := lgL p k
    let b := a * a / 2 ^ 200
    if b < 2 ^ 201 then (b, 2 * m) else (b / 2, 2 * m + 1)
def lgU (p : Nat) : Nat → Nat × Nat
  | 0 => if p < 4 then (p * 2 ^ 199, 1) else if p < 8 then (p * 2 ^ 198, 2) else (p * 2 ^ 197, 3)
  | k + 1 => let (a, m) := lgU p k
    let b := a * a / 2 ^ 200 + 1
    if b < 2 ^ 201 then (b, 2 * m) else (b / 2 + 1, 2 * m + 1)
theorem lgL_ok (p : Nat) : ∀ k, 2 ^ (lgL p k).2 * (lgL p k).1 ≤ 2 ^ 200 * p ^ 2 ^ k
  | 0 => by
    have e : ∀ i j : Nat, 2 ^ i * (p * 2 ^ j) = 2 ^ (i + j) * p ^ 2 ^ 0 := fun i j => by rw [Nat.pow_add, Nat.pow_zero, Nat.pow_one]; ac_rfl
    unfold lgL
    split
    · exact Nat.le_of_eq (e 1 199)
    · split
      · exact Nat.le_of_eq (e 2 198)
      · exact Nat.le_of_eq (e 3 197)
  | k + 1 => by
    have ih := lgL_ok p k
    unfold lgL
    generalize lgL p k = am at ih ⊢
    obtain ⟨a, m⟩ := am
    dsimp only at ih ⊢
    have h2 : 2 ^ (2 * m) * (a * a) ≤ 2 ^ 200 * (2 ^ 200 * p ^ 2 ^ (k + 1)) := by
      have := Nat.mul_le_mul ih ih
      rw [Nat.pow_succ 2 k, Nat.pow_mul p, Nat.pow_two, Nat.two_mul, Nat.pow_add]
      calc 2 ^ m * 2 ^ m * (a * a) = 2 ^ m * a * (2 ^ m * a) := by ac_rfl
        _ ≤ _ := this
        _ = _ := by ac_rfl
    have h3 : 2 ^ (2 * m) * (a * a / 2 ^ 200) ≤ 2 ^ 200 * p ^ 2 ^ (k + 1) := by
      refine Nat.le_of_mul_le_mul_left (c := 2 ^ 200) ?_ (Nat.pow_pos (show 0 < 2 by decide))
      calc 2 ^ 200 * (2 ^ (2 * m) * (a * a / 2 ^ 200)) = 2 ^ (2 * m) * (2 ^ 200 * (a * a / 2 ^ 200)) := by ac_rfl
        _ ≤ 2 ^ (2 * m) * (a * a) := Nat.mul_le_mul_left _ (Nat.mul_div_le _ _)
        _ ≤ _ := h2
    split
    · exact h3
    · refine Nat.le_trans ?_ h3
      rw [Nat.pow_succ, Nat.mul_assoc]
      exact Nat.mul_le_mul_left _ (Nat.mul_div_le _ _)
theorem lgU_ok (p : Nat) : ∀ k, 2 ^ 200 * p ^ 2 ^ k ≤ 2 ^ (lgU p k).2 * (lgU p k).1
  | 0 => by
    have e : ∀ i j : Nat, 2 ^ i * (p * 2 ^ j) = 2 ^ (i + j) * p ^ 2 ^ 0 := fun i j => by rw [Nat.pow_add, Nat.pow_zero, Nat.pow_one]; ac_rfl
    unfold lgU
    split
    · exact Nat.le_of_eq (e 1 199).symm
    · split
      · exact Nat.le_of_eq (e 2 198).symm
      · exact Nat.le_of_eq (e 3 197).symm
  | k + 1 => by
    have ih := lgU_ok p k
    unfold lgU
    generalize lgU p k = am at ih ⊢
    obtain ⟨a, m⟩ := am
    dsimp only at ih ⊢
    have h2 : 2 ^ 200 * (2 ^ 200 * p ^ 2 ^ (k + 1)) ≤ 2 ^ (2 * m) * (a * a) := by
      have := Nat.mul_le_mul ih ih
      rw [Nat.pow_succ 2 k, Nat.pow_mul p, Nat.pow_two, Nat.two_mul, Nat.pow_add]
      calc _ = 2 ^ 200 * p ^ 2 ^ k * (2 ^ 200 * p ^ 2 ^ k) := by ac_rfl
        _ ≤ _ := this
        _ = _ := by ac_rfl
    have e1 : a * a ≤ 2 ^ 200 * (a * a / 2 ^ 200 + 1) := by
      have := Nat.lt_mul_div_succ (a * a) (b := 2 ^ 200) (Nat.pow_pos (show 0 < 2 by decide))
      omega
    have h3 : 2 ^ 200 * p ^ 2 ^ (k + 1) ≤ 2 ^ (2 * m) * (a * a / 2 ^ 200 + 1) := by
      refine Nat.le_of_mul_le_mul_left (c := 2 ^ 200) ?_ (Nat.pow_pos (show 0 < 2 by decide))
      calc _ ≤ _ := h2
        _ ≤ 2 ^ (2 * m) * (2 ^ 200 * (a * a / 2 ^ 200 + 1)) := Nat.mul_le_mul_left _ e1
        _ = _ := by ac_rfl
    generalize a * a / 2 ^ 200 + 1 = b at h3 ⊢
    split
    · exact h3
    · refine Nat.le_trans h3 ?_
      rw [Nat.pow_succ, Nat.mul_assoc]
      exact Nat.mul_le_mul_left _ (by omega)
def lgs : List Nat := prs.map fun p => if p = 2 then 2 ^ 160 else (lgL p 160).2
theorem lg_low : ∀ p ∈ [3, 5, 7, 11, 13], 2 ^ 200 ≤ (lgL p 160).1 ∧ (lgU p 160).1 ≤ 2 ^ 201 ∧ (lgU p 160).2 = (lgL p 160).2 := by decide +kernel
end TL
namespace TL
def lg (k p : Nat) : Nat := if p = 2 then 2 ^ k else (lgL p k).2
def LGok (k : Nat) : Prop := ∀ p ∈ [3, 5, 7, 11, 13], 2 ^ 200 ≤ (lgL p k).1 ∧ (lgU p k).1 ≤ 2 ^ 201 ∧ (lgU p k).2 = (lgL p k).2
def LG : List Nat := [1461501637330902918203684832716283019655932542976, 2316425289912052156459349012948135070413798762147, 3393501712442504184481985927731639726947261569016, 4102953815156157747466701420553963045838567941448, 5055964974872705667124156087392374807824543452087, 5408198706907511090757516640326961560951895393234]
def LNs : List Int := [69314718055994530941723212145817656807550013436025, 109861228866810969139524523692252570464749055782274, 160943791243410037460075933322618763952560135426851, 194591014905531330510535274344317972963708472958186, 239789527279837054406194357796512929982170685393741, 256494935746153673605348744156531860480526794476020]
theorem lg_eq : prs.map (lg 160) = LG := by decide +kernel
theorem mem_cases {p : Nat} (h : p ∈ prs) : p = 2 ∨ p ∈ [3, 5, 7, 11, 13] := List.mem_cons.mp h
theorem lg_le {k : Nat} (hk : LGok k) : ∀ p ∈ prs, 2 ^ lg k p ≤ p ^ 2 ^ k ∧ p ^ 2 ^ k ≤ 2 ^ (lg k p + 1) := by
  intro p hp
  have f : p ∈ [3, 5, 7, 11, 13] → 2 ^ lg k p ≤ p ^ 2 ^ k ∧ p ^ 2 ^ k ≤ 2 ^ (lg k p + 1) := fun hq => by
    have h2 : ¬ p = 2 := fun e => by subst e; revert hq; decide
    have h := hk p hq
    have hl := lgL_ok p k
    have hu := lgU_ok p k
    unfold lg
    rw [if_neg h2]
    rw [h.2.2] at hu
    constructor
    · refine Nat.le_of_mul_le_mul_left (c := 2 ^ 200) ?_ (Nat.pow_pos (show 0 < 2 by decide))
      refine Nat.le_trans ?_ hl
      rw [Nat.mul_comm]
      exact Nat.mul_le_mul_left _ h.1
    · refine Nat.le_of_mul_le_mul_left (c := 2 ^ 200) ?_ (Nat.pow_pos (show 0 < 2 by decide))
      refine Nat.le_trans hu ?_
      rw [Nat.pow_succ 2 (lgL p k).2]
      calc 2 ^ (lgL p k).2 * (lgU p k).1 ≤ 2 ^ (lgL p k).2 * 2 ^ 201 := Nat.mul_le_mul_left _ h.2.1
        _ = _ := by rw [show 201 = 200 + 1 from rfl, Nat.pow_succ 2 200]; ac_rfl
  have g : p = 2 → 2 ^ lg k p ≤ p ^ 2 ^ k ∧ p ^ 2 ^ k ≤ 2 ^ (lg k p + 1) := fun e => by
    subst e
    unfold lg
    rw [if_pos rfl]
    exact ⟨Nat.le_refl _, Nat.pow_le_pow_right (by decide) (Nat.le_succ _)⟩
  have := mem_cases hp
  rcases this with h | h
  · exact g h
  · exact f h
def dotN : List Nat → List Nat → Nat
  | a :: as, m :: ms => a * m + dotN as ms
  | _, _ => 0
theorem pp_low {k : Nat} (N : Nat) : ∀ (ps as : List Nat), (∀ p ∈ ps, 2 ^ lg k p ≤ p ^ N) → 2 ^ dotN as (ps.map (lg k)) ≤ pp ps as ^ N
  | [], as, _ => by cases as <;> simp [pp, dotN]
  | p :: ps, [], _ => by simp [pp, dotN]
  | p :: ps, a :: as, h => by
    have ih := pp_low N ps as fun q hq => h q (List.mem_cons_of_mem _ hq)
    have h1 := Nat.pow_le_pow_left (h p (List.mem_cons_self ..)) a
    simp only [pp, dotN, List.map_cons]
    rw [Nat.pow_add, Nat.mul_pow, Nat.mul_comm a, Nat.pow_mul]
    refine Nat.mul_le_mul (Nat.le_trans h1 (Nat.le_of_eq ?_)) ih
    rw [← Nat.pow_mul, ← Nat.pow_mul, Nat.mul_comm]
theorem pp_high {k : Nat} (N : Nat) : ∀ (ps as : List Nat), (∀ p ∈ ps, p ^ N ≤ 2 ^ (lg k p + 1)) → pp ps as ^ N ≤ 2 ^ dotN as (ps.map fun p => lg k p + 1)
  | [], as, _ => by cases as <;> simp [pp, dotN]
  | p :: ps, [], _ => by simp [pp, dotN]
  | p :: ps, a :: as, h => by
    have ih := pp_high N ps as fun q hq => h q (List.mem_cons_of_mem _ hq)
    have h1 := Nat.pow_le_pow_left (h p (List.mem_cons_self ..)) a
    simp only [pp, dotN, List.map_cons]
    rw [Nat.pow_add, Nat.mul_pow, Nat.mul_comm a, Nat.pow_mul 2]
    refine Nat.mul_le_mul (Nat.le_trans (Nat.le_of_eq ?_) h1) ih
    rw [← Nat.pow_mul, ← Nat.pow_mul, Nat.mul_comm]
end TL
namespace TL
theorem log_arith (u0 u1 u2 u3 u4 u5 d0 d1 d2 d3 d4 d5 : Int) (hu0 : 0 ≤ u0 ∧ u0 ≤ 100000000) (hd0 : 0 ≤ d0 ∧ d0 ≤ 100000000) (hu1 : 0 ≤ u1 ∧ u1 ≤ 100000000) (hd1 : 0 ≤ d1 ∧ d1 ≤ 100000000) (hu2 : 0 ≤ u2 ∧ u2 ≤ 100000000) (hd2 : 0 ≤ d2 ∧ d2 ≤ 100000000) (hu3 : 0 ≤ u3 ∧ u3 ≤ 100000000) (hd3 : 0 ≤ d3 ∧ d3 ≤ 100000000) (hu4 : 0 ≤ u4 ∧ u4 ≤ 100000000) (hd4 : 0 ≤ d4 ∧ d4 ≤ 100000000) (hu5 : 0 ≤ u5 ∧ u5 ≤ 100000000) (hd5 : 0 ≤ d5 ∧ d5 ≤ 100000000)
    (h : 1000000000000 < 69314718055994530941723212145817656807550013436025 * (u0 - d0) + 109861228866810969139524523692252570464749055782274 * (u1 - d1) + 160943791243410037460075933322618763952560135426851 * (u2 - d2) + 194591014905531330510535274344317972963708472958186 * (u3 - d3) + 239789527279837054406194357796512929982170685393741 * (u4 - d4) + 256494935746153673605348744156531860480526794476020 * (u5 - d5)) : d0 + d1 + d2 + d3 + d4 + d5 < 1461501637330902918203684832716283019655932542976 * (u0 - d0) + 2316425289912052156459349012948135070413798762147 * (u1 - d1) + 3393501712442504184481985927731639726947261569016 * (u2 - d2) + 4102953815156157747466701420553963045838567941448 * (u3 - d3) + 5055964974872705667124156087392374807824543452087 * (u4 - d4) + 5408198706907511090757516640326961560951895393234 * (u5 - d5) := by
  have e : (1461501637330902918203684832716283019655932542976 : Int) * (69314718055994530941723212145817656807550013436025 * (u0 - d0) + 109861228866810969139524523692252570464749055782274 * (u1 - d1) + 160943791243410037460075933322618763952560135426851 * (u2 - d2) + 194591014905531330510535274344317972963708472958186 * (u3 - d3) + 239789527279837054406194357796512929982170685393741 * (u4 - d4) + 256494935746153673605348744156531860480526794476020 * (u5 - d5)) = 69314718055994530941723212145817656807550013436025 * (1461501637330902918203684832716283019655932542976 * (u0 - d0) + 2316425289912052156459349012948135070413798762147 * (u1 - d1) + 3393501712442504184481985927731639726947261569016 * (u2 - d2) + 4102953815156157747466701420553963045838567941448 * (u3 - d3) + 5055964974872705667124156087392374807824543452087 * (u4 - d4) + 5408198706907511090757516640326961560951895393234 * (u5 - d5)) + ((0) * (u0 - d0) + (43793785050518326854944870603338469797498627861749) * (u1 - d1) + (60981911441409731785930514241249787815400823647176) * (u2 - d2) + (2372752774845158157605543358762903037446802137336) * (u3 - d3) + (19222620487342313207063189792419089258108136679041) * (u4 - d4) + (40797832652188279574759729725535034334507174580670) * (u5 - d5)) := by omega
  have r : (0) * (u0 - d0) + (43793785050518326854944870603338469797498627861749) * (u1 - d1) + (60981911441409731785930514241249787815400823647176) * (u2 - d2) + (2372752774845158157605543358762903037446802137336) * (u3 - d3) + (19222620487342313207063189792419089258108136679041) * (u4 - d4) + (40797832652188279574759729725535034334507174580670) * (u5 - d5) ≤ 16716890240630380958030384772130528424296156490597200000000 := by
    clear e h
    have r0 : (0 : Int) * (u0 - d0) ≤ 0 := by omega
    have r1 : (43793785050518326854944870603338469797498627861749 : Int) * (u1 - d1) ≤ 4379378505051832685494487060333846979749862786174900000000 := by omega
    have r2 : (60981911441409731785930514241249787815400823647176 : Int) * (u2 - d2) ≤ 6098191144140973178593051424124978781540082364717600000000 := by omega
    have r3 : (2372752774845158157605543358762903037446802137336 : Int) * (u3 - d3) ≤ 237275277484515815760554335876290303744680213733600000000 := by omega
    have r4 : (19222620487342313207063189792419089258108136679041 : Int) * (u4 - d4) ≤ 1922262048734231320706318979241908925810813667904100000000 := by omega
    have r5 : (40797832652188279574759729725535034334507174580670 : Int) * (u5 - d5) ≤ 4079783265218827957475972972553503433450717458067000000000 := by omega
    generalize (0 : Int) * (u0 - d0) = t0 at *
    generalize (43793785050518326854944870603338469797498627861749 : Int) * (u1 - d1) = t1 at *
    generalize (60981911441409731785930514241249787815400823647176 : Int) * (u2 - d2) = t2 at *
    generalize (2372752774845158157605543358762903037446802137336 : Int) * (u3 - d3) = t3 at *
    generalize (19222620487342313207063189792419089258108136679041 : Int) * (u4 - d4) = t4 at *
    generalize (40797832652188279574759729725535034334507174580670 : Int) * (u5 - d5) = t5 at *
    clear hu0 hu1 hu2 hu3 hu4 hu5 hd0 hd1 hd2 hd3 hd4 hd5
    omega
  have t : d0 + d1 + d2 + d3 + d4 + d5 ≤ 600000000 := by
    clear e h r
    omega
  generalize 1461501637330902918203684832716283019655932542976 * (u0 - d0) + 2316425289912052156459349012948135070413798762147 * (u1 - d1) + 3393501712442504184481985927731639726947261569016 * (u2 - d2) + 4102953815156157747466701420553963045838567941448 * (u3 - d3) + 5055964974872705667124156087392374807824543452087 * (u4 - d4) + 5408198706907511090757516640326961560951895393234 * (u5 - d5) = X at e ⊢
  generalize 69314718055994530941723212145817656807550013436025 * (u0 - d0) + 109861228866810969139524523692252570464749055782274 * (u1 - d1) + 160943791243410037460075933322618763952560135426851 * (u2 - d2) + 194591014905531330510535274344317972963708472958186 * (u3 - d3) + 239789527279837054406194357796512929982170685393741 * (u4 - d4) + 256494935746153673605348744156531860480526794476020 * (u5 - d5) = S at e h
  generalize (0) * (u0 - d0) + (43793785050518326854944870603338469797498627861749) * (u1 - d1) + (60981911441409731785930514241249787815400823647176) * (u2 - d2) + (2372752774845158157605543358762903037446802137336) * (u3 - d3) + (19222620487342313207063189792419089258108136679041) * (u4 - d4) + (40797832652188279574759729725535034334507174580670) * (u5 - d5) = R at e r
  generalize d0 + d1 + d2 + d3 + d4 + d5 = D at t ⊢
  clear hu0 hu1 hu2 hu3 hu4 hu5 hd0 hd1 hd2 hd3 hd4 hd5
  omega
end TL
namespace TL
/-- the logarithm that the program reckons -/
def LN : List Int := LNs
def logE (e : List Int) : Int := (List.zipWith (· * ·) e LN).sum
theorem toN (x : Int) : ((x.toNat : Nat) : Int) - (((-x).toNat : Nat) : Int) = x := by omega
theorem log_lt0 {k : Nat} (hk : LGok k) (hLG : prs.map (lg k) = LG) {e : List Int} (h6 : e.length = 6) (hE : Ex (10 ^ 8) e) (h : 10 ^ 12 < logE e) : dn e < up e := by
  have lo := pp_low (k := k) (2 ^ k) prs (upE e) fun p hp => (lg_le hk p hp).1
  have hi := pp_high (k := k) (2 ^ k) prs (dnE e) fun p hp => (lg_le hk p hp).2
  have e2 : prs.map (fun p => lg k p + 1) = LG.map (· + 1) := by rw [← hLG, List.map_map]; rfl
  rw [hLG] at lo
  rw [e2] at hi
  have key : dotN (dnE e) (LG.map (· + 1)) < dotN (upE e) LG := by
    match e, h6, hE, h with
    | [e0, e1, e2, e3, e4, e5], _, hE, h =>
      have b : ∀ x ∈ [e0, e1, e2, e3, e4, e5], (0 ≤ ((x.toNat : Nat) : Int) ∧ ((x.toNat : Nat) : Int) ≤ 100000000) ∧ (0 ≤ (((-x).toNat : Nat) : Int) ∧ (((-x).toNat : Nat) : Int) ≤ 100000000) := fun x hx => by
        have := hE x hx
        omega
      have b0 := b e0 (by simp)
      have b1 := b e1 (by simp)
      have b2 := b e2 (by simp)
      have b3 := b e3 (by simp)
      have b4 := b e4 (by simp)
      have b5 := b e5 (by simp)
      have a := log_arith _ _ _ _ _ _ _ _ _ _ _ _ b0.1 b0.2 b1.1 b1.2 b2.1 b2.2 b3.1 b3.2 b4.1 b4.2 b5.1 b5.2
        (by
          rw [toN, toN, toN, toN, toN, toN]
          simp only [logE, LN, LNs, List.zipWith, List.sum_cons, List.sum_nil] at h
          clear b b0 b1 b2 b3 b4 b5 hE lo hi
          omega)
      simp only [upE, dnE, LG, List.map, dotN]
      clear b b0 b1 b2 b3 b4 b5 hE lo hi h
      omega
  have hN : 2 ^ k ≠ 0 := Nat.pos_iff_ne_zero.mp (Nat.pow_pos (by decide))
  generalize 2 ^ k = N at *
  rcases Nat.lt_or_ge (dn e) (up e) with c | c
  · exact c
  · exfalso
    have h1 := Nat.pow_le_pow_left c N
    have h2 : (2 : Nat) ^ dotN (upE e) LG ≤ 2 ^ dotN (dnE e) (LG.map (· + 1)) := Nat.le_trans lo (Nat.le_trans h1 hi)
    have h3 := (Nat.pow_le_pow_iff_right (by decide : 1 < 2)).mp h2
    omega
theorem lgok : LGok 160 := lg_low
theorem log_lt {e : List Int} (h6 : e.length = 6) (hE : Ex (10 ^ 8) e) (h : 10 ^ 12 < logE e) : dn e < up e := log_lt0 lgok lg_eq h6 hE h
theorem log_neg : ∀ (e l : List Int), (List.zipWith (· * ·) (negE e) l).sum = - (List.zipWith (· * ·) e l).sum
  | [], l => by simp [negE]
  | e :: es, [] => by simp [negE]
  | e :: es, l :: ls => by
    have ih := log_neg es ls
    simp only [negE, List.map_cons, List.zipWith_cons_cons, List.sum_cons] at ih ⊢
    rw [ih, Int.neg_mul]
    omega
theorem log_add : ∀ (e f l : List Int), e.length = f.length → (List.zipWith (· * ·) (addE e f) l).sum = (List.zipWith (· * ·) e l).sum + (List.zipWith (· * ·) f l).sum
  | [], [], l, _ => by simp [addE]
  | [], _ :: _, _, h => by simp at h
  | _ :: _, [], _, h => by simp at h
  | e :: es, f :: fs, [], _ => by simp [addE]
  | e :: es, f :: fs, l :: ls, h => by
    have ih := log_add es fs ls (Nat.succ.inj h)
    simp only [addE, List.zipWith_cons_cons, List.sum_cons] at ih ⊢
    rw [ih, Int.add_mul]
    omega
theorem log_gt {e : List Int} (h6 : e.length = 6) (hE : Ex (10 ^ 8) e) (h : logE e < - 10 ^ 12) : up e < dn e := by
  have := log_lt (e := negE e) (by simpa [negE] using h6) (ex_neg hE) (by
    have : logE (negE e) = - logE e := log_neg e LN
    rw [this]
    omega)
  rwa [up_neg, dn_neg] at this
theorem below_iff {x y : List Int} (hx : x.length = 6) (hy : y.length = 6) : up x * dn y < up y * dn x ↔ dn (addE y (negE x)) < up (addE y (negE x)) := by
  have hl : y.length = (negE x).length := by simp [negE, hx, hy]
  have h1 := up_mul y (negE x) hl
  have h2 := dn_mul y (negE x) hl
  rw [up_neg] at h1
  rw [dn_neg, Nat.mul_comm] at h2
  rw [h1, h2]
  have hp : 0 < pp prs (both y (negE x)) := pp_pos _ pc_prs
  exact ⟨fun h => Nat.lt_of_mul_lt_mul_left h, fun h => Nat.mul_lt_mul_of_pos_left h hp⟩
/-- where the logarithms are far from one another, they tell which ratio is less -/
theorem below_log {x y : List Int} (hx : x.length = 6) (hy : y.length = 6) (ex : Ex (10 ^ 7) x) (ey : Ex (10 ^ 7) y) (h : 10 ^ 12 < (logE y - logE x).natAbs) : up x * dn y < up y * dn x ↔ 0 < logE y - logE x := by
  rw [below_iff hx hy]
  have hs : (addE y (negE x)).length = 6 := by simp [addE, negE, hx, hy]
  have e1 : logE (addE y (negE x)) = logE y - logE x := by
    have a := log_add y (negE x) LN (by simp [negE, hx, hy])
    have b := log_neg x LN
    show (List.zipWith (· * ·) (addE y (negE x)) LN).sum = (List.zipWith (· * ·) y LN).sum - (List.zipWith (· * ·) x LN).sum
    rw [a, b]
    omega
  have hE : Ex (10 ^ 8) (addE y (negE x)) := fun v hv => by
    simp only [addE, negE] at hv
    obtain ⟨i, hi, rfl⟩ := List.mem_iff_getElem.mp hv
    simp only [List.length_zipWith, List.length_map] at hi
    rw [List.getElem_zipWith, List.getElem_map]
    have := ex x[i] (List.getElem_mem _)
    have := ey y[i] (List.getElem_mem _)
    omega
  rw [← e1] at h ⊢
  constructor
  · intro c
    rcases Int.lt_or_le 0 (logE (addE y (negE x))) with d | d
    · exact d
    · exact absurd (log_gt hs hE (by omega)) (by omega)
  · intro c
    exact log_lt hs hE (by omega)
end TL
namespace TL
open PySem L2

def top (i : Nat) : Stmt := PySem.Challenge.pw_turnsleft_k01_names_and_tones_judged.main.body.getD i (.Pass ⟨0, 0, 0, 0⟩)
abbrev s_is_name : Stmt := top 6
abbrev N_is_name : List Str := ["value", "letter"]
theorem sc_is_name : FnScope N_is_name ["value"] (defScope s_is_name) := ⟨rfl, rfl, rfl, by decide +kernel, rfl, by decide +kernel, by decide +kernel⟩
abbrev s_is_number : Stmt := top 7
abbrev N_is_number : List Str := ["value"]
theorem sc_is_number : FnScope N_is_number ["value"] (defScope s_is_number) := ⟨rfl, rfl, rfl, by decide +kernel, rfl, by decide +kernel, by decide +kernel⟩
abbrev s_is_listed : Stmt := top 8
abbrev N_is_listed : List Str := ["value"]
theorem sc_is_listed : FnScope N_is_listed ["value"] (defScope s_is_listed) := ⟨rfl, rfl, rfl, by decide +kernel, rfl, by decide +kernel, by decide +kernel⟩
abbrev s_are_numbers : Stmt := top 9
abbrev N_are_numbers : List Str := ["value", "many", "item"]
theorem sc_are_numbers : FnScope N_are_numbers ["value", "many"] (defScope s_are_numbers) := ⟨rfl, rfl, rfl, by decide +kernel, rfl, by decide +kernel, by decide +kernel⟩
abbrev s_is_tone : Stmt := top 10
abbrev N_is_tone : List Str := ["value", "over", "under"]
theorem sc_is_tone : FnScope N_is_tone ["value"] (defScope s_is_tone) := ⟨rfl, rfl, rfl, by decide +kernel, rfl, by decide +kernel, by decide +kernel⟩
abbrev s_tone_of : Stmt := top 11
abbrev N_tone_of : List Str := ["over", "under", "shared"]
theorem sc_tone_of : FnScope N_tone_of ["over", "under"] (defScope s_tone_of) := ⟨rfl, rfl, rfl, by decide +kernel, rfl, by decide +kernel, by decide +kernel⟩
abbrev s_tone_text : Stmt := top 12
abbrev N_tone_text : List Str := ["tone", "over", "under"]
theorem sc_tone_text : FnScope N_tone_text ["tone"] (defScope s_tone_text) := ⟨rfl, rfl, rfl, by decide +kernel, rfl, by decide +kernel, by decide +kernel⟩
abbrev s__read_number : Stmt := top 13
abbrev N__read_number : List Str := ["text", "digit"]
theorem sc__read_number : FnScope N__read_number ["text"] (defScope s__read_number) := ⟨rfl, rfl, rfl, by decide +kernel, rfl, by decide +kernel, by decide +kernel⟩
abbrev s_read_tone : Stmt := top 14
abbrev N_read_tone : List Str := ["text", "head", "slash", "tail", "over", "under"]
theorem sc_read_tone : FnScope N_read_tone ["text"] (defScope s_read_tone) := ⟨rfl, rfl, rfl, by decide +kernel, rfl, by decide +kernel, by decide +kernel⟩
abbrev s_l_bag : Stmt := top 16
abbrev N_l_bag : List Str := ["_law_script", "_law_seed", "_law_cell"]
theorem sc_l_bag : FnScope N_l_bag ["_law_script"] (defScope s_l_bag) := ⟨rfl, rfl, rfl, by decide +kernel, rfl, by decide +kernel, by decide +kernel⟩
abbrev s_l_draw : Stmt := top 17
abbrev N_l_draw : List Str := ["_law_bag_here", "_law_sides", "_law_cell", "_law_digit", "_law_seed"]
theorem sc_l_draw : FnScope N_l_draw ["_law_bag_here", "_law_sides"] (defScope s_l_draw) := ⟨rfl, rfl, rfl, by decide +kernel, rfl, by decide +kernel, by decide +kernel⟩
abbrev s_l_of : Stmt := top 18
abbrev N_l_of : List Str := ["_law_bag_here", "_law_things"]
theorem sc_l_of : FnScope N_l_of ["_law_bag_here", "_law_things"] (defScope s_l_of) := ⟨rfl, rfl, rfl, by decide +kernel, rfl, by decide +kernel, by decide +kernel⟩
abbrev s_l_same : Stmt := top 19
abbrev N_l_same : List Str := ["_law_found", "_law_due", "_law_x", "_law_y"]
theorem sc_l_same : FnScope N_l_same ["_law_found", "_law_due"] (defScope s_l_same) := ⟨rfl, rfl, rfl, by decide +kernel, rfl, by decide +kernel, by decide +kernel⟩
abbrev s_l_number : Stmt := top 20
abbrev N_l_number : List Str := ["_law_thing"]
theorem sc_l_number : FnScope N_l_number ["_law_thing"] (defScope s_l_number) := ⟨rfl, rfl, rfl, by decide +kernel, rfl, by decide +kernel, by decide +kernel⟩
abbrev s_l_gcd : Stmt := top 21
abbrev N_l_gcd : List Str := ["_law_x", "_law_y"]
theorem sc_l_gcd : FnScope N_l_gcd ["_law_x", "_law_y"] (defScope s_l_gcd) := ⟨rfl, rfl, rfl, by decide +kernel, rfl, by decide +kernel, by decide +kernel⟩
abbrev s_l_low : Stmt := top 22
abbrev N_l_low : List Str := ["_law_num", "_law_den", "_law_common"]
theorem sc_l_low : FnScope N_l_low ["_law_num", "_law_den"] (defScope s_l_low) := ⟨rfl, rfl, rfl, by decide +kernel, rfl, by decide +kernel, by decide +kernel⟩
abbrev s_l_said : Stmt := top 23
abbrev N_l_said : List Str := ["_law_x"]
theorem sc_l_said : FnScope N_l_said ["_law_x"] (defScope s_l_said) := ⟨rfl, rfl, rfl, by decide +kernel, rfl, by decide +kernel, by decide +kernel⟩
abbrev s_l_sign : Stmt := top 24
abbrev N_l_sign : List Str := ["_law_bag_here", "_law_signs"]
theorem sc_l_sign : FnScope N_l_sign ["_law_bag_here"] (defScope s_l_sign) := ⟨rfl, rfl, rfl, by decide +kernel, rfl, by decide +kernel, by decide +kernel⟩
abbrev s_l_title : Stmt := top 25
abbrev N_l_title : List Str := ["_law_bag_here", "_law_found", "_law_j", "_law_turn"]
theorem sc_l_title : FnScope N_l_title ["_law_bag_here"] (defScope s_l_title) := ⟨rfl, rfl, rfl, by decide +kernel, rfl, by decide +kernel, by decide +kernel⟩
abbrev s_l_name_due : Stmt := top 26
abbrev N_l_name_due : List Str := ["_law_thing", "_law_sign_here"]
theorem sc_l_name_due : FnScope N_l_name_due ["_law_thing"] (defScope s_l_name_due) := ⟨rfl, rfl, rfl, by decide +kernel, rfl, by decide +kernel, by decide +kernel⟩
abbrev s_l_tone_due : Stmt := top 27
abbrev N_l_tone_due : List Str := ["_law_thing"]
theorem sc_l_tone_due : FnScope N_l_tone_due ["_law_thing"] (defScope s_l_tone_due) := ⟨rfl, rfl, rfl, by decide +kernel, rfl, by decide +kernel, by decide +kernel⟩
abbrev s_l_whole : Stmt := top 28
abbrev N_l_whole : List Str := ["_law_told", "_law_sign_here"]
theorem sc_l_whole : FnScope N_l_whole ["_law_told"] (defScope s_l_whole) := ⟨rfl, rfl, rfl, by decide +kernel, rfl, by decide +kernel, by decide +kernel⟩
abbrev s_l_read : Stmt := top 29
abbrev N_l_read : List Str := ["_law_told", "_law_j", "_law_num", "_law_den"]
theorem sc_l_read : FnScope N_l_read ["_law_told"] (defScope s_l_read) := ⟨rfl, rfl, rfl, by decide +kernel, rfl, by decide +kernel, by decide +kernel⟩
abbrev s_l_any : Stmt := top 30
abbrev N_l_any : List Str := ["_law_bag_here", "_law_things"]
theorem sc_l_any : FnScope N_l_any ["_law_bag_here"] (defScope s_l_any) := ⟨rfl, rfl, rfl, by decide +kernel, rfl, by decide +kernel, by decide +kernel⟩
abbrev s_l_big : Stmt := top 31
abbrev N_l_big : List Str := ["_law_bag_here", "_law_wide", "_law_found"]
theorem sc_l_big : FnScope N_l_big ["_law_bag_here"] (defScope s_l_big) := ⟨rfl, rfl, rfl, by decide +kernel, rfl, by decide +kernel, by decide +kernel⟩
abbrev s_l_bent : Stmt := top 32
abbrev N_l_bent : List Str := ["_law_bag_here", "_law_told", "_law_j", "_law_sign_here"]
theorem sc_l_bent : FnScope N_l_bent ["_law_bag_here", "_law_told"] (defScope s_l_bent) := ⟨rfl, rfl, rfl, by decide +kernel, rfl, by decide +kernel, by decide +kernel⟩
abbrev s_l_long_so : Stmt := top 33
abbrev N_l_long_so : List Str := ["_law_bag_here", "_law_tail", "_law_long_one", "_law_less", "_law_more", "_law_num", "_law_den", "_law_told"]
theorem sc_l_long_so : FnScope N_l_long_so ["_law_bag_here"] (defScope s_l_long_so) := ⟨rfl, rfl, rfl, by decide +kernel, rfl, by decide +kernel, by decide +kernel⟩
abbrev s_law : Stmt := top 34
abbrev N_law : List Str := ["_law_script", "_law_bag_here", "_law_turn", "_law_title_here", "_law_thing", "_law_told", "_law_due", "_law_a", "_law_b", "_law_x", "_law_said_here", "_law_plain", "_law_bent_here"]
theorem sc_law : FnScope N_law ["_law_script"] (defScope s_law) := ⟨rfl, rfl, rfl, by decide +kernel, rfl, by decide +kernel, by decide +kernel⟩
structure InsOk (K : PySem.W.Frag) (C : Addr) : Prop where
  ca : PySem.W.findIn K (.ref C) "__class__" = some (some (.builtin "object.__class__"))
  cn : PySem.W.specialIn K (.builtin "object.__class__") "__get__" = some (some (.builtin "getset_descriptor.__get__"))
  ct : PySem.W.takesIn K (.builtin "object.__class__") = some true
  cm : PySem.W.mroIn K C (.type "object") = some true
  me : PySem.W.kitOne K (.ref C) (.ref C) = some true
def PR : List (Nat × Nat) := [(0, 1), (0, 2), (0, 3), (0, 4), (0, 5), (1, 2), (1, 3), (1, 4), (1, 5), (2, 3), (2, 4), (2, 5), (3, 4), (3, 5), (4, 5)]
set_option maxHeartbeats 0 in
structure Tx (K : PySem.W.Frag) (mg : Str → Option Value) : Type where
  z_len : mg "len" = none
  z_abs : mg "abs" = none
  z_int : mg "int" = none
  z_isinstance : mg "isinstance" = none
  z_list : mg "list" = none
  z_tuple : mg "tuple" = none
  z_bool : mg "bool" = none
  z_str : mg "str" = none
  z_all : mg "all" = none
  z_zip : mg "zip" = none
  z_range : mg "range" = none
  m_gcd : mg "gcd" = some (.builtin "math.gcd")
  t_LETTERS : Tok
  m_LETTERS : mg "LETTERS" = some (.str (Str.ofString "abcdefghijklmnopqrstuvwxyz") t_LETTERS)
  t_DIGITS : Tok
  m_DIGITS : mg "DIGITS" = some (.str (Str.ofString "0123456789") t_DIGITS)
  t_MOST_LETTERS : Tok
  m_MOST_LETTERS : mg "MOST_LETTERS" = some (.int 6 t_MOST_LETTERS)
  t_MOST_DIGITS : Tok
  m_MOST_DIGITS : mg "MOST_DIGITS" = some (.int 2000 t_MOST_DIGITS)
  f_is_name : Addr
  d_is_name : FuncData
  F_is_name : Fun K "is_name" "is_name" s_is_name f_is_name d_is_name
  b_is_name : Binds K d_is_name ["value"] []
  m_is_name : mg "is_name" = some (.ref f_is_name)
  f_is_number : Addr
  d_is_number : FuncData
  F_is_number : Fun K "is_number" "is_number" s_is_number f_is_number d_is_number
  b_is_number : Binds K d_is_number ["value"] []
  m_is_number : mg "is_number" = some (.ref f_is_number)
  f_is_listed : Addr
  d_is_listed : FuncData
  F_is_listed : Fun K "is_listed" "is_listed" s_is_listed f_is_listed d_is_listed
  b_is_listed : Binds K d_is_listed ["value"] []
  m_is_listed : mg "is_listed" = some (.ref f_is_listed)
  f_are_numbers : Addr
  d_are_numbers : FuncData
  F_are_numbers : Fun K "are_numbers" "are_numbers" s_are_numbers f_are_numbers d_are_numbers
  b_are_numbers : Binds K d_are_numbers ["value", "many"] []
  m_are_numbers : mg "are_numbers" = some (.ref f_are_numbers)
  f_is_tone : Addr
  d_is_tone : FuncData
  F_is_tone : Fun K "is_tone" "is_tone" s_is_tone f_is_tone d_is_tone
  b_is_tone : Binds K d_is_tone ["value"] []
  m_is_tone : mg "is_tone" = some (.ref f_is_tone)
  f_tone_of : Addr
  d_tone_of : FuncData
  F_tone_of : Fun K "tone_of" "tone_of" s_tone_of f_tone_of d_tone_of
  b_tone_of : Binds K d_tone_of ["over", "under"] []
  m_tone_of : mg "tone_of" = some (.ref f_tone_of)
  f_tone_text : Addr
  d_tone_text : FuncData
  F_tone_text : Fun K "tone_text" "tone_text" s_tone_text f_tone_text d_tone_text
  b_tone_text : Binds K d_tone_text ["tone"] []
  m_tone_text : mg "tone_text" = some (.ref f_tone_text)
  f__read_number : Addr
  d__read_number : FuncData
  F__read_number : Fun K "_read_number" "_read_number" s__read_number f__read_number d__read_number
  b__read_number : Binds K d__read_number ["text"] []
  m__read_number : mg "_read_number" = some (.ref f__read_number)
  f_read_tone : Addr
  d_read_tone : FuncData
  F_read_tone : Fun K "read_tone" "read_tone" s_read_tone f_read_tone d_read_tone
  b_read_tone : Binds K d_read_tone ["text"] []
  m_read_tone : mg "read_tone" = some (.ref f_read_tone)
  f_l_bag : Addr
  d_l_bag : FuncData
  F_l_bag : Fun K "_law_bag" "_law_bag" s_l_bag f_l_bag d_l_bag
  b_l_bag : Binds K d_l_bag ["_law_script"] []
  m_l_bag : mg "_law_bag" = some (.ref f_l_bag)
  f_l_draw : Addr
  d_l_draw : FuncData
  F_l_draw : Fun K "_law_draw" "_law_draw" s_l_draw f_l_draw d_l_draw
  b_l_draw : Binds K d_l_draw ["_law_bag_here", "_law_sides"] []
  m_l_draw : mg "_law_draw" = some (.ref f_l_draw)
  f_l_of : Addr
  d_l_of : FuncData
  F_l_of : Fun K "_law_of" "_law_of" s_l_of f_l_of d_l_of
  b_l_of : Binds K d_l_of ["_law_bag_here", "_law_things"] []
  m_l_of : mg "_law_of" = some (.ref f_l_of)
  f_l_same : Addr
  d_l_same : FuncData
  F_l_same : Fun K "_law_same" "_law_same" s_l_same f_l_same d_l_same
  b_l_same : Binds K d_l_same ["_law_found", "_law_due"] []
  m_l_same : mg "_law_same" = some (.ref f_l_same)
  f_l_number : Addr
  d_l_number : FuncData
  F_l_number : Fun K "_law_number" "_law_number" s_l_number f_l_number d_l_number
  b_l_number : Binds K d_l_number ["_law_thing"] []
  m_l_number : mg "_law_number" = some (.ref f_l_number)
  f_l_gcd : Addr
  d_l_gcd : FuncData
  F_l_gcd : Fun K "_law_gcd" "_law_gcd" s_l_gcd f_l_gcd d_l_gcd
  b_l_gcd : Binds K d_l_gcd ["_law_x", "_law_y"] []
  m_l_gcd : mg "_law_gcd" = some (.ref f_l_gcd)
  f_l_low : Addr
  d_l_low : FuncData
  F_l_low : Fun K "_law_low" "_law_low" s_l_low f_l_low d_l_low
  b_l_low : Binds K d_l_low ["_law_num", "_law_den"] []
  m_l_low : mg "_law_low" = some (.ref f_l_low)
  f_l_said : Addr
  d_l_said : FuncData
  F_l_said : Fun K "_law_said" "_law_said" s_l_said f_l_said d_l_said
  b_l_said : Binds K d_l_said ["_law_x"] []
  m_l_said : mg "_law_said" = some (.ref f_l_said)
  f_l_sign : Addr
  d_l_sign : FuncData
  F_l_sign : Fun K "_law_sign" "_law_sign" s_l_sign f_l_sign d_l_sign
  b_l_sign : Binds K d_l_sign ["_law_bag_here"] []
  m_l_sign : mg "_law_sign" = some (.ref f_l_sign)
  f_l_title : Addr
  d_l_title : FuncData
  F_l_title : Fun K "_law_title" "_law_title" s_l_title f_l_title d_l_title
  b_l_title : Binds K d_l_title ["_law_bag_here"] []
  m_l_title : mg "_law_title" = some (.ref f_l_title)
  f_l_name_due : Addr
  d_l_name_due : FuncData
  F_l_name_due : Fun K "_law_name_due" "_law_name_due" s_l_name_due f_l_name_due d_l_name_due
  b_l_name_due : Binds K d_l_name_due ["_law_thing"] []
  m_l_name_due : mg "_law_name_due" = some (.ref f_l_name_due)
  f_l_tone_due : Addr
  d_l_tone_due : FuncData
  F_l_tone_due : Fun K "_law_tone_due" "_law_tone_due" s_l_tone_due f_l_tone_due d_l_tone_due
  b_l_tone_due : Binds K d_l_tone_due ["_law_thing"] []
  m_l_tone_due : mg "_law_tone_due" = some (.ref f_l_tone_due)
  f_l_whole : Addr
  d_l_whole : FuncData
  F_l_whole : Fun K "_law_whole" "_law_whole" s_l_whole f_l_whole d_l_whole
  b_l_whole : Binds K d_l_whole ["_law_told"] []
  m_l_whole : mg "_law_whole" = some (.ref f_l_whole)
  f_l_read : Addr
  d_l_read : FuncData
  F_l_read : Fun K "_law_read" "_law_read" s_l_read f_l_read d_l_read
  b_l_read : Binds K d_l_read ["_law_told"] []
  m_l_read : mg "_law_read" = some (.ref f_l_read)
  f_l_any : Addr
  d_l_any : FuncData
  F_l_any : Fun K "_law_any" "_law_any" s_l_any f_l_any d_l_any
  b_l_any : Binds K d_l_any ["_law_bag_here"] []
  m_l_any : mg "_law_any" = some (.ref f_l_any)
  f_l_big : Addr
  d_l_big : FuncData
  F_l_big : Fun K "_law_big" "_law_big" s_l_big f_l_big d_l_big
  b_l_big : Binds K d_l_big ["_law_bag_here"] []
  m_l_big : mg "_law_big" = some (.ref f_l_big)
  f_l_bent : Addr
  d_l_bent : FuncData
  F_l_bent : Fun K "_law_bent" "_law_bent" s_l_bent f_l_bent d_l_bent
  b_l_bent : Binds K d_l_bent ["_law_bag_here", "_law_told"] []
  m_l_bent : mg "_law_bent" = some (.ref f_l_bent)
  f_l_long_so : Addr
  d_l_long_so : FuncData
  F_l_long_so : Fun K "_law_long_so" "_law_long_so" s_l_long_so f_l_long_so d_l_long_so
  b_l_long_so : Binds K d_l_long_so ["_law_bag_here"] []
  m_l_long_so : mg "_law_long_so" = some (.ref f_l_long_so)
  f_law : Addr
  d_law : FuncData
  F_law : Fun K "law" "law" s_law f_law d_law
  b_law : Binds K d_law ["_law_script"] []
  m_law : mg "law" = some (.ref f_law)
  no_limit : PySem.W.nsIn K cStatics "sys.int_max_str_digits" = some none
  kb_is_name : KBinds K d_is_name ["value"] ["value"] g01 g01
  kb_read_tone : KBinds K d_read_tone ["text"] ["text"] g01 g01
  kb_tone_of : KBinds K d_tone_of ["over", "under"] ["under", "over"] g02s g02s
/-! ### steps of a reading -/
local macro_rules | `(tactic| walk_at "hp") => `(tactic| first | assumption | exact upd_same | (refine (upd_ne (by first | assumption | (exact Ne.symm (by assumption)))).trans ?_; walk_at "hp"))
local macro_rules | `(tactic| walk_at "ok") => `(tactic| first | (exact Or.inr ⟨by decide, by decide⟩) | (exact ⟨by decide, by decide⟩) | (exact ⟨by decide, by decide, by decide⟩) | (show _ ≠ _; omega) | (show _ ≠ _; decide) | (exact Or.inl ⟨by omega, by omega⟩) | decide)
local macro_rules | `(tactic| walk_at "sq") => `(tactic| first | assumption | exact SqL.of (by walk_at "hp") | exact SqT.of (by walk_at "hp"))
local macro_rules | `(tactic| walk_at "ty") => `(tactic| first | refine ⟨_, _, Value.type "int", Value.type "list", false, rfl, ClsV.ty _, TyX.base (TyOf.int _), kt_int_list, ?_⟩ | refine ⟨_, _, Value.type "bool", Value.type "list", false, rfl, ClsV.ty _, TyX.base (TyOf.bl _), kt_bool_list, ?_⟩ | refine ⟨_, _, Value.type "str", Value.type "list", false, rfl, ClsV.ty _, TyX.base (TyOf.str _), kt_str_list, ?_⟩ | refine ⟨_, _, Value.type "NoneType", Value.type "list", false, rfl, ClsV.ty _, TyX.base TyOf.non, kt_NoneType_list, ?_⟩ | refine ⟨_, _, Value.type "list", Value.type "list", true, rfl, ClsV.ty _, tyx_L (by walk_at "sq"), kt_list_list, ?_⟩ | refine ⟨_, _, Value.type "tuple", Value.type "list", false, rfl, ClsV.ty _, tyx_T (by walk_at "sq"), kt_tuple_list, ?_⟩ | refine ⟨_, _, Value.type "int", Value.type "tuple", false, rfl, ClsV.ty _, TyX.base (TyOf.int _), kt_int_tuple, ?_⟩ | refine ⟨_, _, Value.type "bool", Value.type "tuple", false, rfl, ClsV.ty _, TyX.base (TyOf.bl _), kt_bool_tuple, ?_⟩ | refine ⟨_, _, Value.type "str", Value.type "tuple", false, rfl, ClsV.ty _, TyX.base (TyOf.str _), kt_str_tuple, ?_⟩ | refine ⟨_, _, Value.type "NoneType", Value.type "tuple", false, rfl, ClsV.ty _, TyX.base TyOf.non, kt_NoneType_tuple, ?_⟩ | refine ⟨_, _, Value.type "list", Value.type "tuple", false, rfl, ClsV.ty _, tyx_L (by walk_at "sq"), kt_list_tuple, ?_⟩ | refine ⟨_, _, Value.type "tuple", Value.type "tuple", true, rfl, ClsV.ty _, tyx_T (by walk_at "sq"), kt_tuple_tuple, ?_⟩ | refine ⟨_, _, Value.type "int", Value.type "bool", false, rfl, ClsV.ty _, TyX.base (TyOf.int _), kt_int_bool, ?_⟩ | refine ⟨_, _, Value.type "bool", Value.type "bool", true, rfl, ClsV.ty _, TyX.base (TyOf.bl _), kt_bool_bool, ?_⟩ | refine ⟨_, _, Value.type "str", Value.type "bool", false, rfl, ClsV.ty _, TyX.base (TyOf.str _), kt_str_bool, ?_⟩ | refine ⟨_, _, Value.type "NoneType", Value.type "bool", false, rfl, ClsV.ty _, TyX.base TyOf.non, kt_NoneType_bool, ?_⟩ | refine ⟨_, _, Value.type "list", Value.type "bool", false, rfl, ClsV.ty _, tyx_L (by walk_at "sq"), kt_list_bool, ?_⟩ | refine ⟨_, _, Value.type "tuple", Value.type "bool", false, rfl, ClsV.ty _, tyx_T (by walk_at "sq"), kt_tuple_bool, ?_⟩ | refine ⟨_, _, Value.type "int", Value.type "int", true, rfl, ClsV.ty _, TyX.base (TyOf.int _), kt_int_int, ?_⟩ | refine ⟨_, _, Value.type "bool", Value.type "int", true, rfl, ClsV.ty _, TyX.base (TyOf.bl _), kt_bool_int, ?_⟩ | refine ⟨_, _, Value.type "str", Value.type "int", false, rfl, ClsV.ty _, TyX.base (TyOf.str _), kt_str_int, ?_⟩ | refine ⟨_, _, Value.type "NoneType", Value.type "int", false, rfl, ClsV.ty _, TyX.base TyOf.non, kt_NoneType_int, ?_⟩ | refine ⟨_, _, Value.type "list", Value.type "int", false, rfl, ClsV.ty _, tyx_L (by walk_at "sq"), kt_list_int, ?_⟩ | refine ⟨_, _, Value.type "tuple", Value.type "int", false, rfl, ClsV.ty _, tyx_T (by walk_at "sq"), kt_tuple_int, ?_⟩ | refine ⟨_, _, Value.type "int", Value.type "str", false, rfl, ClsV.ty _, TyX.base (TyOf.int _), kt_int_str, ?_⟩ | refine ⟨_, _, Value.type "bool", Value.type "str", false, rfl, ClsV.ty _, TyX.base (TyOf.bl _), kt_bool_str, ?_⟩ | refine ⟨_, _, Value.type "str", Value.type "str", true, rfl, ClsV.ty _, TyX.base (TyOf.str _), kt_str_str, ?_⟩ | refine ⟨_, _, Value.type "NoneType", Value.type "str", false, rfl, ClsV.ty _, TyX.base TyOf.non, kt_NoneType_str, ?_⟩ | refine ⟨_, _, Value.type "list", Value.type "str", false, rfl, ClsV.ty _, tyx_L (by walk_at "sq"), kt_list_str, ?_⟩ | refine ⟨_, _, Value.type "tuple", Value.type "str", false, rfl, ClsV.ty _, tyx_T (by walk_at "sq"), kt_tuple_str, ?_⟩)
local macro_rules | `(tactic| walk_at "go1") => `(tactic| first
  | (refine ⟨_, rfl, ?_⟩)
  | (refine ⟨_, _, rfl, rfl, ?_⟩)
  | (refine ⟨_, _, _, _, rfl, rfl, SqL.of (by walk_at "hp"), rfl, ?_⟩)
  | (refine Or.inl ⟨_, rfl, ?_⟩)
  | (refine ⟨rfl, ?_⟩)
  | (refine ⟨_, _, rfl, .inl (SqL.of (by walk_at "hp")), ?_⟩)
  | (refine ⟨_, _, rfl, Or.inl (by assumption), ?_⟩)
  | (refine ⟨_, _, rfl, Or.inr (by assumption), ?_⟩)
  | (refine ⟨(by walk_at "ok"), ?_⟩)
  | (refine ⟨_, _, _, _, rfl, rfl, (by walk_at "hp"), rfl, ?_⟩))
local macro_rules | `(tactic| walk_at "go") => `(tactic| repeat (walk_at "go1"))
local macro_rules | `(tactic| walk_at "gt") => `(tactic| repeat (first | walk_at "go1" | walk_at "ty"))

/-! ### the law's own helpers -/
section
variable {P : Program} {w : World} {K : PySem.W.Frag} {mg : Str → Option Value} {base : Heap}
def spDraw : Sp := fun vs H Q _ => ∃ (B : Bg) (n : Int), vs = [.ref B.b, .int n] ∧ 0 < n ∧ n.natAbs < 2 ^ 200 ∧ Bag B H ∧ ∀ (d : Int) (H' : Hp), 0 ≤ d → d < n → Bag B H' → Kb B.b H H' → Q (.int d) H'
theorem ok_draw (T : Tx K mg) : FnOk P w K mg base CX0 1 T.f_l_draw T.d_l_draw ["_law_bag_here", "_law_sides"] spDraw := by
  refine T.F_l_draw.ok sc_l_draw (fun vs H Q E h => ?_) (fun cdv A outer s H vs Q E hr h => ?_)
  · obtain ⟨g, n, rfl, _⟩ := h
    rfl
  obtain ⟨⟨g, L, ns⟩, n, rfl, hn, hn2, ⟨⟨i, r, z, c, hg, hi, hrr, hz, hz2⟩, hL, hne⟩, q⟩ := h
  dsimp only at hg hL hne q
  have nd := sc_l_draw.nd
  refine ⟨_, (pss_cut (ps_if (PW.pt (pw_and (pt_cmpR op_eq (pe_ix (show IxR _ (rIxL K) from ix_list) (pv 0) pe_int (fun _ _ => rfl)) pe_int (nomark _)) (pw_and1 (pt_cmpR op_lt (pe_ix (show IxR _ (rIxL K) from ix_list) (pv 0) pe_int (fun _ _ => rfl)) (pe_callB (show CallR _ _ (rLenSq K) from call_len_seq) (by rfl) T.z_len (by decide +kernel) (pa_cons (pe_ix (show IxR _ (rIxL K) from ix_list) (pv 0) pe_int (fun _ _ => rfl)) pa_nil)) (nomark _))))) (pss_cons (ps_set (i := 2) nd rfl (Or.inl rfl) (pe_callB call_abs (by rfl) T.z_abs (by decide +kernel) (pa_cons (pe_callTy call_int1 (by rfl) T.z_int (by decide +kernel) (pa_cons (pe_ix (show IxR _ (rIxL K) from ix_list) (pe_ix (show IxR _ (rIxL K) from ix_list) (pv 0) pe_int (fun _ _ => rfl)) (pe_ix (show IxR _ (rIxL K) from ix_list) (pv 0) pe_int (fun _ _ => rfl)) (fun _ _ => rfl)) pa_nil)) pa_nil)))
    (pss_cons (ps_asg (pe_op op_add (pe_ix (show IxR _ (rIxL K) from ix_list) (pv 0) pe_int (fun _ _ => rfl)) pe_int) (pg_sub (pv 0) pe_int set_list))
    (pss_one (ps_if (pt_cmpR op_ge (pv 2) (pe_op op_pow pe_int pe_int) (nomark _)) (pss_one (ps_asg (pv 2) (pg_sub (pv 0) pe_int set_list))) (pss_one (ps_asg (pe_op op_modN (pe_callTy call_int1 (by rfl) T.z_int (by decide +kernel) (pa_cons (pe_op op_add (pe_op op_add (pe_op op_mul (pe_ix (show IxR _ (rIxL K) from ix_list) (pv 0) pe_int (fun _ _ => rfl)) pe_int) (pe_op op_mul (pe_op op_modN (pv 2) pe_int) pe_int)) pe_int) pa_nil)) pe_int) (pg_sub (pv 0) pe_int set_list))))))) pss_nil)
    (pss_cons (ps_if (pt_cmpR op_gt (pe_ix (show IxR _ (rIxL K) from ix_list) (pv 0) pe_int (fun _ _ => rfl)) pe_int (nomark _)) (pss_cons (ps_set (i := 3) nd rfl (Or.inl rfl) (pe_op op_modN (pe_callTy call_int1 (by rfl) T.z_int (by decide +kernel) (pa_cons (pe_ix (show IxR _ (rIxL K) from ix_list) (pv 0) pe_int (fun _ _ => rfl)) pa_nil)) (pv 1)))
    (pss_cons (ps_asg (pe_op op_fdivW (pe_ix (show IxR _ (rIxL K) from ix_list) (pv 0) pe_int (fun _ _ => rfl)) (pv 1)) (pg_sub (pv 0) pe_int set_list))
    (pss_one (ps_ret (pv 3))))) pss_nil)
    (pss_cons (ps_asg (pe_op op_add (pe_ix (show IxR _ (rIxL K) from ix_list) (pv 0) pe_int (fun _ _ => rfl)) pe_int) (pg_sub (pv 0) pe_int set_list))
    (pss_cons (ps_set (i := 4) nd rfl (Or.inl rfl) (pe_callTy call_int1 (by rfl) T.z_int (by decide +kernel) (pa_cons (pe_ix (show IxR _ (rIxL K) from ix_list) (pv 0) pe_int (fun _ _ => rfl)) pa_nil)))
    (pss_cons (ps_asg (pe_op op_modN (pe_callTy call_int1 (by rfl) T.z_int (by decide +kernel) (pa_cons (pe_op op_add (pe_op op_add (pe_op op_add (pe_op op_mul (pe_op op_mul (pv 4) (pv 4)) pe_int) (pe_op op_mul (pv 4) pe_int)) (pe_op op_mul (pe_ix (show IxR _ (rIxL K) from ix_list) (pv 0) pe_int (fun _ _ => rfl)) pe_int)) pe_int) pa_nil)) pe_int) (pg_sub (pv 0) pe_int set_list))
    (pss_one (ps_ret (pe_op op_modN (pe_callTy call_int1 (by rfl) T.z_int (by decide +kernel) (pa_cons (pe_op op_add (pe_op op_fdivN (pe_ix (show IxR _ (rIxL K) from ix_list) (pv 0) pe_int (fun _ _ => rfl)) pe_int) (pe_op op_mul (pe_op op_modN (pe_callTy call_int1 (by rfl) T.z_int (by decide +kernel) (pa_cons (pe_ix (show IxR _ (rIxL K) from ix_list) (pv 0) pe_int (fun _ _ => rfl)) pa_nil)) pe_int) pe_int)) pa_nil)) (pv 1))))))))), ?_⟩
  refine ⟨fun σ' H' => (∃ a : Option V, σ' = [some (.ref g), some (.int n), a, none, none]) ∧ Bag ⟨g, L, ns⟩ H' ∧ Kb g H H', ?_, ?_⟩
  · walk_at "go"
    refine ite2 (fun c1 => ?_) (fun c1 => ?_)
    · walk_at "go"
      refine ite2 (fun c2 => ?_) (fun c2 => ?_)
      · have c2' : i < (((ns.map V.int).length : Nat) : Int) := of_decide_eq_true c2
        rw [List.length_map] at c2'
        have hk : i.toNat < ns.length := by omega
        walk_at "go"
        refine ⟨L, ns.map V.int, i, V.int ns[i.toNat], rfl, rfl, SqL.of hL, at_of (j := i.toNat) (by omega) (by rw [List.getElem?_map, List.getElem?_eq_getElem hk]; rfl), ?_⟩
        walk_at "go"
        have c3 : 0 ≤ (if ns[i.toNat] < 0 then -ns[i.toNat] else ns[i.toNat]) := by split <;> omega
        refine ite2 (fun _ => ?_) (fun _ => ?_)
        · walk_at "go"
          exact ⟨⟨_, rfl⟩, ⟨⟨i + 1, _, z, c, upd_same, by omega, c3, hz, hz2⟩, by rw [upd_ne hne, upd_ne hne]; exact hL, hne⟩, Kb.at.trans Kb.at⟩
        · walk_at "go"
          have m1 := fm (i := z * 69621 + (if ns[i.toNat] < 0 then -ns[i.toNat] else ns[i.toNat]).fmod 1000003 * 907 + 29) (j := 2147483629) (by decide)
          exact ⟨⟨_, rfl⟩, ⟨⟨i + 1, r, _, c, upd_same, by omega, hrr, m1.1, by omega⟩, by rw [upd_ne hne, upd_ne hne]; exact hL, hne⟩, Kb.at.trans Kb.at⟩
      · exact ⟨⟨_, rfl⟩, ⟨⟨i, r, z, c, hg, hi, hrr, hz, hz2⟩, hL, hne⟩, Kb.refl _ _⟩
    · walk_at "go"
      exact ⟨⟨_, rfl⟩, ⟨⟨i, r, z, c, hg, hi, hrr, hz, hz2⟩, hL, hne⟩, Kb.refl _ _⟩
  · clear hg hL hne hi hrr hz hz2
    rintro σ' H' ⟨⟨a, rfl⟩, ⟨⟨i, r, z, c, hg, hi, hrr, hz, hz2⟩, hL, hne⟩, kb⟩
    dsimp only at hg hL hne
    walk_at "go"
    refine ite2 (fun c1 => ?_) (fun c1 => ?_)
    · have m1 := fm (i := r) (j := n) hn
      walk_at "go"
      refine ⟨wide_div hn hn2 (by decide) (by decide), ?_⟩
      walk_at "go"
      exact q _ _ m1.1 m1.2 ⟨⟨i, _, z, c, upd_same, hi, Int.ediv_nonneg hrr (by omega), hz, hz2⟩, by rw [upd_ne hne]; exact hL, hne⟩ (kb.trans Kb.at)
    · walk_at "go"
      have m1 := fm (i := z * z * 19 + z * 50021 + (c + 1) * 7877 + 40009) (j := 2147483587) (by decide)
      have m2 := fm (i := ((z * z * 19 + z * 50021 + (c + 1) * 7877 + 40009).fmod 2147483587).fdiv 89 + ((z * z * 19 + z * 50021 + (c + 1) * 7877 + 40009).fmod 2147483587).fmod 9973 * 53) (j := n) hn
      exact q _ _ m2.1 m2.2 ⟨⟨i, r, _, _, upd_same, hi, hrr, m1.1, by omega⟩, by rw [upd_ne hne, upd_ne hne]; exact hL, hne⟩ ((kb.trans Kb.at).trans Kb.at)
/-- the law's bag of a script -/
def spBag (K : PySem.W.Frag) : Sp := fun vs H Q _ => ∃ (a : Addr) (ns : List Int), vs = [.ref a] ∧ SqL K H a (ns.map V.int) ∧ ns.length ≤ 63 ∧ ∀ (B : Bg) (H' : Hp), Same H H' → Bag B H' → H B.b = none → Q (.ref B.b) H'
theorem cut63 {xs : List V} (h : xs.length ≤ 63) : cutV xs none (some 63) = xs := by
  unfold cutV
  have e1 : HT.sIx xs.length 0 none = 0 := rfl
  have e2 : HT.sIx xs.length xs.length (some 63) = xs.length := by
    unfold HT.sIx
    simp
    omega
  rw [e1, e2]
  simp
theorem ok_bag (T : Tx K mg) : FnOk P w K mg base CX0 1 T.f_l_bag T.d_l_bag ["_law_script"] (spBag K) := by
  refine T.F_l_bag.ok sc_l_bag (fun vs H Q E h => ?_) (fun cdv A outer s H vs Q E hr h => ?_)
  · obtain ⟨a, ns, rfl, _⟩ := h
    rfl
  obtain ⟨a, ns, rfl, hS, h63, q⟩ := h
  have nd := sc_l_bag.nd
  have hc : cutV (ns.map V.int) none (some 63) = ns.map V.int := cut63 (by rw [List.length_map]; exact h63)
  refine ⟨_, (pss_cons (ps_set (i := 1) nd rfl (Or.inl rfl) pe_int)
    (pss_cons (ps_for PassesOwn.never rfl (show PI _ _ _ (iList K _) from pi_list (pe_slice (show SlR _ (rSlL K) from sl_list) (pv 0) po_none (po_some pe_int))) (pg_name (i := 2) nd rfl (Or.inl rfl)) (pss_one (ps_set (i := 1) nd rfl (Or.inl rfl) (pe_op op_modN (pe_callTy call_int1 (by rfl) T.z_int (by decide +kernel) (pa_cons (pe_op op_add (pe_op op_add (pe_op op_mul (pv 1) pe_int) (pe_op op_mul (pe_op op_modN (pe_callTy call_int1 (by rfl) T.z_int (by decide +kernel) (pa_cons (pv 2) pa_nil)) pe_int) pe_int)) pe_int) pa_nil)) pe_int))))
    (pss_one (ps_ret (pe_lst (pa_cons (pe_callTy (show CallR _ _ (rListOf K) from call_list_of) (by rfl) T.z_list (by decide +kernel) (pa_cons (pe_slice (show SlR _ (rSlL K) from sl_list) (pv 0) po_none (po_some pe_int)) pa_nil)) (pa_cons pe_int (pa_cons pe_int (pa_cons (pv 1) (pa_cons pe_int pa_nil)))))))))), ?_⟩
  refine ⟨_, rfl, _, rfl, a, _, rfl, hS, fun p hp => ?_⟩
  rw [hc]
  refine ⟨p, rfl, ⟨_, SqL.of upd_same⟩, for_list (K := K) (a := p) (xs := ns.map V.int) (fun i σ' H' => (∃ (z : Int) (v : Option V), σ' = [some (.ref a), some (.int z), v] ∧ 0 ≤ z ∧ z < 2147483648) ∧ H' = upd H p (.lst (ns.map V.int)))
    ⟨⟨7919, none, rfl, by decide, by decide⟩, rfl⟩ (fun i σ' H' _ h => by rw [h.2]; exact SqL.of upd_same) ?_ ?_⟩
  · rintro i y σ' H' hi ⟨⟨z, v, rfl, h1, h2⟩, rfl⟩
    obtain ⟨k, rfl⟩ : ∃ k, y = V.int k := by
      rw [List.getElem?_map] at hi
      cases e : ns[i]? with
      | none => rw [e] at hi; cases hi
      | some k => rw [e] at hi; exact ⟨k, (Option.some.inj hi).symm⟩
    walk_at "go"
    have m1 := fm (i := z * 48271 + k.fmod 1000003 * 401 + 13) (j := 2147483647) (by decide)
    exact ⟨⟨_, _, rfl, m1.1, by omega⟩, rfl⟩
  · rintro σ' H' ⟨⟨z, v, rfl, h1, h2⟩, rfl⟩
    have s1 : Same H (upd H p (.lst (ns.map V.int))) := Same.new hp
    refine ⟨_, rfl, _, rfl, a, _, rfl, s1.seq hS, fun p2 hp2 => ?_⟩
    rw [hc]
    have s2 := s1.trans (Same.new (o := .lst (ns.map V.int)) hp2)
    refine ⟨_, _, rfl, .inl (SqL.of upd_same), fun p3 hp3 => ?_⟩
    have s3 := s2.trans (Same.new (o := .lst (ns.map V.int)) hp3)
    walk_at "go"
    refine ⟨(by show 5 ≤ sizeLine; decide), fun p4 hp4 => ?_⟩
    have n4 : p3 ≠ p4 := ne_of_none upd_same hp4
    exact q ⟨p4, p3, ns⟩ _ (s3.trans (Same.new hp4)) ⟨⟨0, 0, z, 0, upd_same, by decide, by decide, h1, h2⟩, by rw [upd_ne n4]; exact upd_same, n4⟩ (s3.free hp4)
/-- one of some things -/
def spOf (K : PySem.W.Frag) : Sp := fun vs H Q _ => ∃ (B : Bg) (a : Addr) (xs : List V), vs = [.ref B.b, .ref a] ∧ SqL K H a xs ∧ a ≠ B.b ∧ 0 < xs.length ∧ xs.length ≤ 1000 ∧ Bag B H ∧ ∀ (i : Nat) (v : V) (H' : Hp), xs[i]? = some v → Bag B H' → Kb B.b H H' → Q v H'
theorem Kb.seq {g : Addr} {H H' : Hp} {a : Addr} {xs : List V} (e : Kb g H H') (n : a ≠ g) (h : SqL K H a xs) : SqL K H' a xs := by
  rcases h with (h | ⟨o, h⟩) | h
  · exact .inl (.inl (e _ _ h n))
  · exact .inl (.inr ⟨o, e _ _ h n⟩)
  · exact .inr h
theorem ok_of (T : Tx K mg) : FnOk P w K mg base CX0 2 T.f_l_of T.d_l_of ["_law_bag_here", "_law_things"] (spOf K) := by
  have G_l_draw := ok_draw (P := P) (w := w) (base := base) T
  refine T.F_l_of.ok sc_l_of (fun vs H Q E h => ?_) (fun cdv A outer s H vs Q E hr h => ?_)
  · obtain ⟨B, a, xs, rfl, _⟩ := h
    rfl
  obtain ⟨B, a, xs, rfl, hS, hne, h0, h1, hB, q⟩ := h
  have nd := sc_l_of.nd
  refine ⟨_, (pss_one (ps_ret (pe_ix (show IxR _ (rIxL K) from ix_list) (pv 1) (pe_call G_l_draw (hr.mono (by decide)) (by rfl) T.m_l_draw T.F_l_draw.kp T.b_l_draw .nil pass0 (pa_cons (pv 0) (pa_cons (pe_callB (show CallR _ _ (rLenSq K) from call_len_seq) (by rfl) T.z_len (by decide +kernel) (pa_cons (pv 1) pa_nil)) pa_nil))) (fun _ _ => rfl)))), ?_⟩
  refine ⟨_, rfl, _, rfl, _, rfl, _, _, rfl, .inl hS, B, _, rfl, by omega, Nat.lt_of_le_of_lt (by omega : ((xs.length : Int)).natAbs ≤ 1000) (by decide), hB, fun d H' d0 d1 hB' kb => ?_⟩
  have hk : d.toNat < xs.length := by omega
  refine ⟨_, _, _, xs[d.toNat], rfl, rfl, kb.seq hne hS, at_of (j := d.toNat) (by omega) (List.getElem?_eq_getElem hk), ?_⟩
  exact q d.toNat _ H' (List.getElem?_eq_getElem hk) hB' kb
/-! ### equal data -/
inductive DEq (K : PySem.W.Frag) (H : Hp) : Nat → V → V → Prop where
  | non {n : Nat} : DEq K H n .non .non
  | bl {n : Nat} (b : Bool) : DEq K H n (.bl b) (.bl b)
  | int {n : Nat} (i : Int) : DEq K H n (.int i) (.int i)
  | str {n : Nat} (x : Str) : DEq K H n (.str x) (.str x)
  | lst {n : Nat} {a b : Addr} {xs ys : List V} (h1 : SqL K H a xs) (h2 : SqL K H b ys) (hlen : xs.length ≤ 100000) (hl : xs.length = ys.length) (h : ∀ (i : Nat) (x y : V), xs[i]? = some x → ys[i]? = some y → DEq K H n x y) : DEq K H (n + 1) (.ref a) (.ref b)
  | tup {n : Nat} {a b : Addr} {xs ys : List V} (h1 : SqT K H a xs) (h2 : SqT K H b ys) (hlen : xs.length ≤ 100000) (hl : xs.length = ys.length) (h : ∀ (i : Nat) (x y : V), xs[i]? = some x → ys[i]? = some y → DEq K H n x y) : DEq K H (n + 1) (.ref a) (.ref b)
theorem DEq.same {n : Nat} {H H' : Hp} {x y : V} (h : DEq K H n x y) (s : Same H H') : DEq K H' n x y := by
  induction h with
  | non => exact .non
  | bl b => exact .bl b
  | int i => exact .int i
  | str x => exact .str x
  | lst h1 h2 hlen hl _ ih => exact .lst (s.seq h1) (s.seq h2) hlen hl ih
  | tup h1 h2 hlen hl _ ih => exact .tup (seqT s h1) (seqT s h2) hlen hl ih
end

end TL
namespace TL
open PySem PySem.Spec PyProof.Rows L2
/-! ### kinds of values -/
inductive Kn | int | bool | str | non | list | tup | ins
deriving DecidableEq
def Kn.ty (C : Addr) : Kn → Value
  | .int => .type "int"
  | .bool => .type "bool"
  | .str => .type "str"
  | .non => .type "NoneType"
  | .list => .type "list"
  | .tup => .type "tuple"
  | .ins => .ref C
def Kn.isInt : Kn → Bool
  | .int => true
  | .bool => true
  | _ => false
def Kn.isBool : Kn → Bool
  | .bool => true
  | _ => false
def Kn.isStr : Kn → Bool
  | .str => true
  | _ => false
def Kn.isList : Kn → Bool
  | .list => true
  | _ => false
def Kn.isTup : Kn → Bool
  | .tup => true
  | _ => false
def Kn.isNum (k : Kn) : Bool := k.isInt && !k.isBool
/-- an own class that is none of these -/
structure NoCls (K : PySem.W.Frag) (C : Addr) : Prop where
  int : PySem.W.mroIn K C (.type "int") = some false
  bool : PySem.W.mroIn K C (.type "bool") = some false
  str : PySem.W.mroIn K C (.type "str") = some false
  list : PySem.W.mroIn K C (.type "list") = some false
  tup : PySem.W.mroIn K C (.type "tuple") = some false
section
variable {K : PySem.W.Frag} {C : Addr}
theorem kit_ref {T : String} {b : Bool} (h : PySem.W.mroIn K C (.type T) = some b) (hm : PySem.W.kitMeta T = true) : PySem.W.kitOne K (.ref C) (.type T) = some b := by
  unfold PySem.W.kitOne
  have hn : ¬ (Value.ref C == Value.type T) = true := fun e => by cases (beq_iff_eq.mp e)
  rw [if_neg hn]
  show (if PySem.W.kitMeta T = true then PySem.W.subIn K (.ref C) (.type T) else none) = some b
  rw [if_pos hm]
  exact h
theorem kn_int (J : NoCls K C) : ∀ k : Kn, PySem.W.kitOne K (k.ty C) (.type "int") = some k.isInt
  | .int => kt_int_int
  | .bool => kt_bool_int
  | .str => kt_str_int
  | .non => kt_NoneType_int
  | .list => kt_list_int
  | .tup => kt_tuple_int
  | .ins => kit_ref J.int (by decide +kernel)
theorem kn_bool (J : NoCls K C) : ∀ k : Kn, PySem.W.kitOne K (k.ty C) (.type "bool") = some k.isBool
  | .int => kt_int_bool
  | .bool => kt_bool_bool
  | .str => kt_str_bool
  | .non => kt_NoneType_bool
  | .list => kt_list_bool
  | .tup => kt_tuple_bool
  | .ins => kit_ref J.bool (by decide +kernel)
theorem kn_str (J : NoCls K C) : ∀ k : Kn, PySem.W.kitOne K (k.ty C) (.type "str") = some k.isStr
  | .int => kt_int_str
  | .bool => kt_bool_str
  | .str => kt_str_str
  | .non => kt_NoneType_str
  | .list => kt_list_str
  | .tup => kt_tuple_str
  | .ins => kit_ref J.str (by decide +kernel)
theorem kn_list (J : NoCls K C) : ∀ k : Kn, PySem.W.kitOne K (k.ty C) (.type "list") = some k.isList
  | .int => kt_int_list
  | .bool => kt_bool_list
  | .str => kt_str_list
  | .non => kt_NoneType_list
  | .list => kt_list_list
  | .tup => kt_tuple_list
  | .ins => kit_ref J.list (by decide +kernel)
theorem kn_tup (J : NoCls K C) : ∀ k : Kn, PySem.W.kitOne K (k.ty C) (.type "tuple") = some k.isTup
  | .int => kt_int_tuple
  | .bool => kt_bool_tuple
  | .str => kt_str_tuple
  | .non => kt_NoneType_tuple
  | .list => kt_list_tuple
  | .tup => kt_tuple_tuple
  | .ins => kit_ref J.tup (by decide +kernel)
/-- isinstance(x, (a, b)) -/
theorem kit_two {t a b : Value} {x y : Bool} (h1 : PySem.W.kitOne K t a = some x) (h2 : PySem.W.kitOne K t b = some y) : PySem.W.kitAny K t [a, b] = some (x || y) := by
  refine kitAny_cons h1 (fun e => ?_) (fun e => by rw [e]; rfl)
  subst e
  refine kitAny_cons h2 (fun e => ?_) (fun e => by rw [e]; rfl)
  subst e
  rfl
theorem kn_lt (J : NoCls K C) (k : Kn) : PySem.W.kitAny K (k.ty C) [.type "list", .type "tuple"] = some (k.isList || k.isTup) := kit_two (kn_list J k) (kn_tup J k)
end
section
variable {K : PySem.W.Frag} {C : Addr} {H H' : Hp} {v : V}
def KnV (K : PySem.W.Frag) (C : Addr) (H : Hp) (v : V) (k : Kn) : Prop := TyX K H v (k.ty C)
theorem KnV.i {n : Int} : KnV K C H (.int n) .int := .base (.int n)
theorem KnV.b {x : Bool} : KnV K C H (.bl x) .bool := .base (.bl x)
theorem KnV.s {x : Str} : KnV K C H (.str x) .str := .base (.str x)
theorem KnV.n : KnV K C H .non .non := .base .non
theorem KnV.l {a : Addr} {xs : List V} (h : SqL K H a xs) : KnV K C H (.ref a) .list := tyx_L h
theorem KnV.t {a : Addr} {xs : List V} (h : SqT K H a xs) : KnV K C H (.ref a) .tup := tyx_T h
theorem KnV.o {a dx : Addr} {fs : List (Str × V)} (e : H a = some (.ins C dx fs)) (cl : Cls K C) (ha : PySem.W.findIn K (.ref C) "__class__" = some (some (.builtin "object.__class__")))
    (hn : PySem.W.specialIn K (.builtin "object.__class__") "__get__" = some (some (.builtin "getset_descriptor.__get__"))) (htk : PySem.W.takesIn K (.builtin "object.__class__") = some true) (hm : PySem.W.mroIn K C (.type "object") = some true) : KnV K C H (.ref a) .ins := .base (.ins e cl ha hn htk hm)
end
end TL
namespace TL
open PySem PySem.Spec PyProof.Rows L2 PySem.Calls PySem.NumText
/-! ### int(text) of up to 4300 digits -/
theorem limitK {K : PySem.W.Frag} {M : Model} {A : Around} {E : Value → Shared → Prop} {s : Shared} {Q : Nat → Shared → Prop} (x : K.In s.heap) (e : PySem.W.nsIn K cStatics "sys.int_max_str_digits" = some none) (h : Q 4300 s) : wpAny M A Builtin.intMaxStrDigits Q E s := by
  unfold Builtin.intMaxStrDigits
  refine wpAny_bind (PySem.W.looks_nsIn x e _ _ _ _ (fun _ _ z => z) ?_)
  exact wpAny_pure h
theorem wp_textL {K : PySem.W.Frag} {M : Model} {A : Around} {E : Value → Shared → Prop} {s : Shared} {Q : Value → Shared → Prop} {v : Value} {text : List Nat} {n : Int} (x : K.In s.heap) (e : PySem.W.nsIn K cStatics "sys.int_max_str_digits" = some none)
    (hs : ¬ (text.takeWhile (· != 0)).length ≤ 640) (hr : (int_private% "readNumeral") 4300 10 (text.takeWhile (· != 0)) = (int_private% "Numeral.value") n)
    (ha : ((text.takeWhile (· != 0)).length == text.length) = true) (h : Q (.int n s.toks) { s with toks := s.toks + 1 }) :
    wpAny M A ((int_private% "intFromText") v text 10) Q E s := by
  obtain ⟨hp, g, d, tk, os⟩ := s
  repeat (any_goals (first
    | assumption
    | (with_reducible refine wpAny_ite_false (decide_eq_false hs) ?_)
    | (with_reducible refine wpAny_ite_true (decide_eq_true ha) ?_)
    | (with_reducible refine limitK x e ?_)
    | wp_step))
  all_goals (try rw [hr])
  all_goals (try dsimp only)
  repeat (any_goals (first
    | assumption
    | (with_reducible refine wpAny_ite_true (decide_eq_true ha) ?_)
    | wp_step))
set_option maxHeartbeats 4000000 in
theorem gives_textL {K : PySem.W.Frag} {M : Model} {A : Around} {E : Value → Shared → Prop} {s : Shared} {Q : Value → Shared → Prop} {x : PySem.Str} {u : Tok} {n : Int} (xk : K.In s.heap) (e : PySem.W.nsIn K cStatics "sys.int_max_str_digits" = some none) (hl : x.length ≤ 4300) (hn : PySem.intText? x = some n) (h : Q (.int n s.toks) { s with toks := s.toks + 1 }) :
    wpAny M A (Builtin.«int.__new__» ⟨[.type "int", .str x u], []⟩) (fun fin s' => ∃ v, fin = .done (.ret v) ∧ Q v s') E s := by
  obtain ⟨hp, g, d, tk, os⟩ := s
  have f1 := F.conv_sub_int
  have f2 := F.madeHere_int
  have f3 := PySem.W.KIN.str_int
  have f4 := PySem.W.KIN.str_idx
  have f5 := PySem.W.KIN.str_trunc
  have f6 : typeOf (.str x u) = pure (.type "str") := rfl
  have hk : PySem.W.KIN.Hid (∀ (v : Value) (s : Shared) (Q : Value → Shared → Prop), K.In s.heap → Q (.int n s.toks) { s with toks := s.toks + 1 } → wpAny M A ((int_private% "intFromText") v (numTextOf x) 10) Q E s) := by
    refine ⟨fun v s Q xk h => ?_⟩
    by_cases hs : (numSeenOf x).length ≤ 640
    · rcases read0 x hs with ⟨m, h1, h2, h3⟩ | ⟨h1, _⟩
      · rw [hn] at h1
        injection h1 with h1
        subst h1
        exact PySem.W.KIN.wp_text hs h3 h2 h
      · rw [hn] at h1
        cases h1
    · rcases read4300 x (Nat.le_trans hl (by decide)) with ⟨m, h1, h2, h3⟩ | ⟨h1, _⟩
      · rw [hn] at h1
        injection h1 with h1
        subst h1
        exact wp_textL xk e hs h3 h2 h
      · rw [hn] at h1
        cases h1
  clear hl hn e
  repeat (any_goals (first
    | assumption
    | ((with_reducible show wpAny _ _ ((int_private% "intFromText") _ _ _) _ _ _); refine hk.out _ _ _ ?_ ?_)
    | wp_step))
  all_goals first | exact ⟨_, rfl, h⟩ | skip
theorem call_textL {K : PySem.W.Frag} {prog : Program} {w : World} {A : Around} {E : Value → Shared → Prop} {s : Shared} {Q : Value → Shared → Prop} {x : PySem.Str} {u : Tok} {n : Int} (xk : K.In s.heap) (e : PySem.W.nsIn K cStatics "sys.int_max_str_digits" = some none) (hl : x.length ≤ 4300) (hn : PySem.intText? x = some n) (h : Q (.int n s.toks) { s with toks := s.toks + 1 }) :
    wpAny (model prog w) A (call (.type "int") [.str x u]) Q E s :=
  call_int_1 (S := fun _ R s => K.In s.heap ∧ R (.ok (.ret (.int n s.toks))) { s with toks := s.toks + 1 })
    (fun prog w A R s hS => wpAny_mono (gives_textL (Q := fun v s' => R (.ok (.ret v)) s') hS.1 e hl hn hS.2) (fun fin s' h' => by obtain ⟨v, rfl, hv⟩ := h'; exact hv) fun _ _ x => x)
    ⟨xk, rfl, h⟩
section
variable {X : Cx}
theorem call_int_strL (e : PySem.W.nsIn X.K cStatics "sys.int_max_str_digits" = some none) : CallR X (.type "int") (fun xs H Q => ∃ a n, xs = [.str a] ∧ PySem.intText? a = some n ∧ a.length ≤ 4300 ∧ Q (.int n) H) := by
  intro pins s σ H xs us Q I rs h
  obtain ⟨a, n, rfl, hn, hl, h⟩ := h
  cases rs with
  | cons r1 rs =>
    cases rs
    obtain ⟨t, rfl⟩ := r1
    exact call_textL I.kIn e hl hn ⟨.int n, H, I.tok _, ⟨_, rfl⟩, h⟩
end
end TL
namespace TL
open PySem PySem.NumText L2
def DIG : Str := Str.ofString "0123456789"
def LET : Str := Str.ofString "abcdefghijklmnopqrstuvwxyz"
def allIn (z a : Str) : Bool := a.cps.toList.all fun c => decide (c ∈ z.cps.toList)
def numO (a : Str) : Option Nat := if 1 ≤ a.length ∧ a.length ≤ 2000 ∧ a.cps.toList.head? ≠ some 48 ∧ allIn DIG a = true then some (digitsVal a.cps.toList) else none
def oV : Option Nat → V
  | none => .non
  | some n => .int (n : Int)
theorem dig_range : ∀ c ∈ DIG.cps.toList, 48 ≤ c ∧ c ≤ 57 := by decide +kernel
theorem all_digits {a : Str} (h : allIn DIG a = true) : AllDigits a.cps.toList := fun c hc => by
  have := List.all_eq_true.mp h c hc
  exact dig_range c (of_decide_eq_true this)
theorem num_int {a : Str} (h1 : 1 ≤ a.length) (h2 : a.length ≤ 2000) (h : allIn DIG a = true) : intText? a = some ((digitsVal a.cps.toList : Nat) : Int) := by
  refine intText_digits (all_digits h) (fun e => ?_) (by omega)
  have : a.cps.toList.length = a.length := Array.length_toList
  rw [e] at this
  simp at this
  omega
def nameB (a : Str) : Bool := decide (1 ≤ a.length) && (decide (a.length ≤ 6) && allIn LET a)
def SL : Str := Str.ofString "/"
theorem sl_len : SL.length = 1 := by decide +kernel
/-- the first slash: none, or at i -/
theorem part_cases (a : Str) : (Txt.partition a SL = (a, Str.empty, Str.empty) ∧ Txt.find a SL = -1) ∨
    ∃ i : Nat, i + 1 ≤ a.length ∧ Txt.partition a SL = (cutS a none (some (i : Int)), SL, cutS a (some ((i : Int) + 1)) none) ∧ Txt.find a SL = (i : Int) := by
  rcases PySem.StrLaws.occ_head a SL 1 (Nat.le_refl 1) with ⟨e, _⟩ | ⟨i, r, e, hi, _⟩
  · left
    refine ⟨?_, ?_⟩
    · unfold Txt.partition
      rw [e]
    · unfold Txt.find
      rw [e]
  · right
    have hb : i + 1 ≤ a.length := by
      have := hi.1
      rw [sl_len] at this
      exact this
    refine ⟨i, hb, ?_, ?_⟩
    · unfold Txt.partition
      rw [e, sl_len]
      have e1 : Builtin.Str.strSub a 0 i = cutS a none (some (i : Int)) := by
        unfold cutS Builtin.Str.strSub
        rw [HT.sIx_none, HT.sIx_nat, Nat.min_eq_left (by omega)]
        congr 1
        apply Array.ext'
        simp
      have e2 : Builtin.Str.strSub a (i + 1) a.length = cutS a (some ((i : Int) + 1)) none := by
        unfold cutS Builtin.Str.strSub
        rw [HT.sIx_none, show (i : Int) + 1 = ((i + 1 : Nat) : Int) by omega, HT.sIx_nat, Nat.min_eq_left hb]
        congr 1
        apply Array.ext'
        simp
      dsimp only
      rw [e1, e2]
    · unfold Txt.find
      rw [e]
def pairO (a : Str) : Option (Nat × Nat) :=
  match numO (Txt.partition a SL).1 with
  | none => none
  | some n => if (Txt.partition a SL).2.1 = Str.empty then some (n, 1) else match numO (Txt.partition a SL).2.2 with
    | none => none
    | some d => if d = 1 ∨ ¬ Nat.gcd n d = 1 then none else some (n, d)
theorem cut_len (a : Str) (lo hi : Option Int) : (cutS a lo hi).length ≤ a.length := by
  unfold cutS
  show ((a.cps.toList.drop _).take _).toArray.size ≤ a.cps.size
  rw [List.size_toArray, List.length_take, List.length_drop, Array.length_toList]
  omega
theorem part_len (a : Str) : (Txt.partition a SL).1.length ≤ a.length ∧ (Txt.partition a SL).2.2.length ≤ a.length := by
  rcases part_cases a with ⟨e, _⟩ | ⟨i, _, e, _⟩
  · rw [e]
    exact ⟨Nat.le_refl _, Nat.zero_le _⟩
  · rw [e]
    exact ⟨cut_len .., cut_len ..⟩
def OT (K : PySem.W.Frag) (H : Hp) : Option (Nat × Nat) → V → Prop
  | none, v => v = .non
  | some (n, d), v => ∃ t, v = .ref t ∧ SqT K H t [.int (n : Int), .int (d : Int)]
end TL
namespace TL
theorem iteT' {A B : Prop} {c : Bool} (e : c = true) (h : A) : if c = true then A else B := by
  rw [e]
  exact h
theorem iteF' {A B : Prop} {c : Bool} (e : c = false) (h : B) : if c = true then A else B := by
  rw [e]
  exact h
end TL
namespace TL
open PySem L2 PySem.NumText

/-! ### steps of a reading -/
local macro_rules | `(tactic| walk_at "hp") => `(tactic| first | assumption | exact upd_same | (refine (upd_ne (by first | assumption | (exact Ne.symm (by assumption)))).trans ?_; walk_at "hp"))
local macro_rules | `(tactic| walk_at "ok") => `(tactic| first | (exact Or.inr ⟨by decide, by decide⟩) | (exact ⟨by decide, by decide⟩) | (exact ⟨by decide, by decide, by decide⟩) | (show _ ≠ _; omega) | (show _ ≠ _; decide) | (exact Or.inl ⟨by omega, by omega⟩) | decide)
local macro_rules | `(tactic| walk_at "sq") => `(tactic| first | assumption | exact SqL.of (by walk_at "hp") | exact SqT.of (by walk_at "hp"))
local macro_rules | `(tactic| walk_at "ty") => `(tactic| first | refine ⟨_, _, Value.type "int", Value.type "list", false, rfl, ClsV.ty _, TyX.base (TyOf.int _), kt_int_list, ?_⟩ | refine ⟨_, _, Value.type "bool", Value.type "list", false, rfl, ClsV.ty _, TyX.base (TyOf.bl _), kt_bool_list, ?_⟩ | refine ⟨_, _, Value.type "str", Value.type "list", false, rfl, ClsV.ty _, TyX.base (TyOf.str _), kt_str_list, ?_⟩ | refine ⟨_, _, Value.type "NoneType", Value.type "list", false, rfl, ClsV.ty _, TyX.base TyOf.non, kt_NoneType_list, ?_⟩ | refine ⟨_, _, Value.type "list", Value.type "list", true, rfl, ClsV.ty _, tyx_L (by walk_at "sq"), kt_list_list, ?_⟩ | refine ⟨_, _, Value.type "tuple", Value.type "list", false, rfl, ClsV.ty _, tyx_T (by walk_at "sq"), kt_tuple_list, ?_⟩ | refine ⟨_, _, Value.type "int", Value.type "tuple", false, rfl, ClsV.ty _, TyX.base (TyOf.int _), kt_int_tuple, ?_⟩ | refine ⟨_, _, Value.type "bool", Value.type "tuple", false, rfl, ClsV.ty _, TyX.base (TyOf.bl _), kt_bool_tuple, ?_⟩ | refine ⟨_, _, Value.type "str", Value.type "tuple", false, rfl, ClsV.ty _, TyX.base (TyOf.str _), kt_str_tuple, ?_⟩ | refine ⟨_, _, Value.type "NoneType", Value.type "tuple", false, rfl, ClsV.ty _, TyX.base TyOf.non, kt_NoneType_tuple, ?_⟩ | refine ⟨_, _, Value.type "list", Value.type "tuple", false, rfl, ClsV.ty _, tyx_L (by walk_at "sq"), kt_list_tuple, ?_⟩ | refine ⟨_, _, Value.type "tuple", Value.type "tuple", true, rfl, ClsV.ty _, tyx_T (by walk_at "sq"), kt_tuple_tuple, ?_⟩ | refine ⟨_, _, Value.type "int", Value.type "bool", false, rfl, ClsV.ty _, TyX.base (TyOf.int _), kt_int_bool, ?_⟩ | refine ⟨_, _, Value.type "bool", Value.type "bool", true, rfl, ClsV.ty _, TyX.base (TyOf.bl _), kt_bool_bool, ?_⟩ | refine ⟨_, _, Value.type "str", Value.type "bool", false, rfl, ClsV.ty _, TyX.base (TyOf.str _), kt_str_bool, ?_⟩ | refine ⟨_, _, Value.type "NoneType", Value.type "bool", false, rfl, ClsV.ty _, TyX.base TyOf.non, kt_NoneType_bool, ?_⟩ | refine ⟨_, _, Value.type "list", Value.type "bool", false, rfl, ClsV.ty _, tyx_L (by walk_at "sq"), kt_list_bool, ?_⟩ | refine ⟨_, _, Value.type "tuple", Value.type "bool", false, rfl, ClsV.ty _, tyx_T (by walk_at "sq"), kt_tuple_bool, ?_⟩ | refine ⟨_, _, Value.type "int", Value.type "int", true, rfl, ClsV.ty _, TyX.base (TyOf.int _), kt_int_int, ?_⟩ | refine ⟨_, _, Value.type "bool", Value.type "int", true, rfl, ClsV.ty _, TyX.base (TyOf.bl _), kt_bool_int, ?_⟩ | refine ⟨_, _, Value.type "str", Value.type "int", false, rfl, ClsV.ty _, TyX.base (TyOf.str _), kt_str_int, ?_⟩ | refine ⟨_, _, Value.type "NoneType", Value.type "int", false, rfl, ClsV.ty _, TyX.base TyOf.non, kt_NoneType_int, ?_⟩ | refine ⟨_, _, Value.type "list", Value.type "int", false, rfl, ClsV.ty _, tyx_L (by walk_at "sq"), kt_list_int, ?_⟩ | refine ⟨_, _, Value.type "tuple", Value.type "int", false, rfl, ClsV.ty _, tyx_T (by walk_at "sq"), kt_tuple_int, ?_⟩ | refine ⟨_, _, Value.type "int", Value.type "str", false, rfl, ClsV.ty _, TyX.base (TyOf.int _), kt_int_str, ?_⟩ | refine ⟨_, _, Value.type "bool", Value.type "str", false, rfl, ClsV.ty _, TyX.base (TyOf.bl _), kt_bool_str, ?_⟩ | refine ⟨_, _, Value.type "str", Value.type "str", true, rfl, ClsV.ty _, TyX.base (TyOf.str _), kt_str_str, ?_⟩ | refine ⟨_, _, Value.type "NoneType", Value.type "str", false, rfl, ClsV.ty _, TyX.base TyOf.non, kt_NoneType_str, ?_⟩ | refine ⟨_, _, Value.type "list", Value.type "str", false, rfl, ClsV.ty _, tyx_L (by walk_at "sq"), kt_list_str, ?_⟩ | refine ⟨_, _, Value.type "tuple", Value.type "str", false, rfl, ClsV.ty _, tyx_T (by walk_at "sq"), kt_tuple_str, ?_⟩)
local macro_rules | `(tactic| walk_at "go1") => `(tactic| first
  | (refine ⟨_, rfl, ?_⟩)
  | (refine ⟨_, _, rfl, rfl, ?_⟩)
  | (refine ⟨_, _, _, _, rfl, rfl, SqL.of (by walk_at "hp"), rfl, ?_⟩)
  | (refine Or.inl ⟨_, rfl, ?_⟩)
  | (refine ⟨rfl, ?_⟩)
  | (refine ⟨_, _, rfl, .inl (SqL.of (by walk_at "hp")), ?_⟩)
  | (refine ⟨_, _, rfl, Or.inl (by assumption), ?_⟩)
  | (refine ⟨_, _, rfl, Or.inr (by assumption), ?_⟩)
  | (refine ⟨(by walk_at "ok"), ?_⟩)
  | (refine ⟨_, _, _, _, rfl, rfl, (by walk_at "hp"), rfl, ?_⟩))
local macro_rules | `(tactic| walk_at "go") => `(tactic| repeat (walk_at "go1"))
local macro_rules | `(tactic| walk_at "gt") => `(tactic| repeat (first | walk_at "go1" | walk_at "ty"))

section
variable {P : Program} {w : World} {K : PySem.W.Frag} {mg : Str → Option Value} {base : Heap}
-- [0=value, 1=letter] [0=text, 1=digit] [0=text, 1=head, 2=slash, 3=tail, 4=over, 5=under]
def spNum : Sp := fun vs H Q _ => ∃ (a : Str), vs = [.str a] ∧ a.length ≤ 100000 ∧ ∀ H', Same H H' → Q (oV (numO a)) H'
/-- [c in Z for c in a] -/
theorem lc_signs {Z a : Str} {D : Addr} {σ : L2.St} {H0 : Hp} {Qd : Hp → Prop} {i : Nat} (hw : ∀ x : V, wipe ((wipe σ [i]).set i (some x)) [i] = wipe σ [i]) (hi : ∀ x : V, ((wipe σ [i]).set i (some x))[i]? = some (some x)) (hz : a.length ≤ 100000) (hD : H0 D = none)
    (hd : ∀ H, Same H0 H → H D = some (.lst ((a.cps.toList.map fun c => decide (c ∈ Z.cps.toList)).map V.bl)) → Qd H) :
    LcGoal (Its a) (gName i) (tOp (fun x y H Q => ∃ (c : Nat) (z : Str), x = .str ⟨#[c]⟩ ∧ y = .str z ∧ Q (.bl (decide (c ∈ z.cps.toList))) H) (tVar i) (tC (.str Z))) [i] σ H0 D Qd := by
  refine lcm walk_str ((a.cps.toList.map fun c => decide (c ∈ Z.cps.toList)).map V.bl) (by simp) hz hD (fun _ _ => trivial) ?_ hd
  rintro t y x H2 H3 ht hy s2 ⟨rfl, c, hc, rfl⟩ k hk
  rw [List.getElem?_map, List.getElem?_map, Array.getElem?_toList, hc] at hy
  cases hy
  refine ⟨hw _, ?_⟩
  exact ⟨_, hi _, c, Z, rfl, rfl, hk _ (Same.refl _)⟩
theorem ok_read_number (T : Tx K mg) : FnOk P w K mg base CX0 1 T.f__read_number T.d__read_number ["text"] spNum := by
  refine T.F__read_number.ok sc__read_number (fun vs H Q E h => ?_) (fun cdv A outer s H vs Q E hr h => ?_)
  · obtain ⟨a, rfl, _⟩ := h
    rfl
  obtain ⟨a, rfl, hz, q⟩ := h
  have nd := sc__read_number.nd
  have hsz : a.length ≤ sizeLine := Nat.le_trans hz (by decide)
  have hal : a.cps.toList.length = a.length := Array.length_toList
  refine ⟨_, (pss_cons (ps_if (PW.pt (pw_or (pt_not (pt_chain op_le op_le pe_int (pe_callB call_len_str (by rfl) T.z_len (by decide +kernel) (pa_cons (pv 0) pa_nil)) (pe_glob (v := .int 2000) (by rfl) T.m_MOST_DIGITS ⟨_, rfl⟩))) (pw_or1 (pt_cmpR op_eq (pe_ix ix_str (pv 0) pe_int (fun _ _ => rfl)) pe_str (nomark _))))) (pss_one (ps_ret pe_non)) pss_nil)
    (pss_cons (ps_if (pt_not (pt_val (pe_callB (show CallR _ _ (rAll K) from cr_all rfl) (by rfl) T.z_all (by decide +kernel) (pa_cons (pe_lc (own := [("digit", 1)]) (g := (gName 1)) rfl nd (pi_str (pv 0)) (blkOk_by (own := [("digit", 1)]) (N := N__read_number) (sc := defScope s__read_number) (by decide +kernel)) (fun _ _ _ _ _ => by exact (pg_name (i := 1) nd rfl (Or.inl rfl))) (fun _ _ _ _ _ => by exact pts_nil) (fun _ _ _ _ _ => by exact (pe_cmpR op_in_sign (pv 1) (pe_glob (v := .str (Str.ofString "0123456789")) (by rfl) T.m_DIGITS ⟨_, rfl⟩) (by rfl)))) pa_nil)))) (pss_one (ps_ret pe_non)) pss_nil)
    (pss_one (ps_ret (pe_callTy (call_int_strL T.no_limit) (by rfl) T.z_int (by decide +kernel) (pa_cons (pv 0) pa_nil)))))), ?_⟩
  refine ⟨_, rfl, a, rfl, hsz, _, _, rfl, rfl, _, rfl, ?_⟩
  by_cases b1 : 1 ≤ a.length
  case neg =>
    have n1 : numO a = none := if_neg fun h => b1 h.1
    rw [n1] at q
    refine iteF' (decide_eq_false (by omega)) ?_
    refine ⟨_, rfl, ?_⟩
    refine iteT' (c := !false) rfl ?_
    exact q H (Same.refl _)
  refine iteT' (decide_eq_true (by omega)) ?_
  refine ⟨_, _, rfl, rfl, _, rfl, ?_⟩
  by_cases b2 : a.length ≤ 2000
  case neg =>
    have n1 : numO a = none := if_neg fun h => b2 h.2.1
    rw [n1] at q
    refine iteT' (c := !decide _) (by rw [decide_eq_false (by omega)]; rfl) ?_
    exact q H (Same.refl _)
  refine iteF' (c := !decide _) (by rw [decide_eq_true (by omega)]; rfl) ?_
  obtain ⟨c0, hc0⟩ : ∃ c0, a.cps.toList[0]? = some c0 := ⟨_, List.getElem?_eq_getElem (by omega)⟩
  refine ⟨_, rfl, a, 0, c0, rfl, rfl, hsz, (show atI a.cps.toList ((0 : Nat) : Int) = some c0 from atI_nat hc0), rfl, _, rfl, ?_⟩
  have hh : a.cps.toList.head? = some c0 := by rw [← hc0, List.head?_eq_getElem?]
  by_cases b3 : c0 = 48
  case pos =>
    have n1 : numO a = none := if_neg fun h => h.2.2.1 (by rw [hh, b3])
    rw [n1] at q
    subst b3
    refine iteT' (decide_eq_true (congrArg V.str (by decide +kernel))) ?_
    exact q H (Same.refl _)
  have ne0 : ¬ V.str ⟨#[c0]⟩ = V.str (Str.ofString "0") := fun z => by
    have z1 : (⟨#[c0]⟩ : Str) = ⟨#[48]⟩ := (V.str.inj z).trans (by decide +kernel)
    have z2 := Str.mk.inj z1
    exact b3 (by simpa using z2)
  refine iteF' (decide_eq_false ne0) ?_
  refine ⟨_, rfl, a, rfl, fun D hD => ?_⟩
  refine lc_signs (Z := DIG) (fun _ => rfl) (fun _ => rfl) hz hD fun H1 s1 hD1 => ?_
  refine ⟨D, _, rfl, SqL.of hD1, ?_⟩
  have eA : (a.cps.toList.map fun c => decide (c ∈ DIG.cps.toList)).all id = allIn DIG a := by
    rw [List.all_map]
    rfl
  rw [eA]
  refine ⟨_, rfl, ?_⟩
  cases b4 : allIn DIG a with
  | false =>
    have n1 : numO a = none := if_neg fun h => by rw [b4] at h; exact absurd h.2.2.2 (by decide)
    rw [n1] at q
    refine iteT' (c := !false) rfl ?_
    exact q H1 s1
  | true =>
    have n1 : numO a = some (digitsVal a.cps.toList) := if_pos ⟨b1, b2, by rw [hh]; exact fun z => b3 (Option.some.inj z), b4⟩
    rw [n1] at q
    refine iteF' (c := !true) rfl ?_
    exact ⟨_, rfl, a, _, rfl, num_int b1 b2 b4, by omega, q H1 s1⟩
def spRead (K : PySem.W.Frag) : Sp := fun vs H Q _ => ∃ (a : Str), vs = [.str a] ∧ a.length ≤ 100000 ∧ ∀ v H', Same H H' → OT K H' (pairO a) v → Q v H'
theorem ok_read_tone (T : Tx K mg) : FnOk P w K mg base CX0 2 T.f_read_tone T.d_read_tone ["text"] (spRead K) := by
  have G__read_number := ok_read_number (P := P) (w := w) (base := base) T
  refine T.F_read_tone.ok sc_read_tone (fun vs H Q E h => ?_) (fun cdv A outer s H vs Q E hr h => ?_)
  · obtain ⟨a, rfl, _⟩ := h
    rfl
  obtain ⟨a, rfl, hz, q⟩ := h
  have nd := sc_read_tone.nd
  refine ⟨_, (pss_cons (ps_if (pt_not (pt_val (pe_callB (show CallR _ _ (rIsi K) from call_isi) (by rfl) T.z_isinstance (by decide +kernel) (pa_cons (pv 0) (pa_cons (pe_bltn (v := .ty "str") (u := .type "str") (by rfl) T.z_str (by decide +kernel) rfl) pa_nil))))) (pss_one (ps_ret pe_non)) pss_nil)
    (pss_cons (ps_asg (pe_partition (pv 0) pe_str) (pg_tup rfl (pgs_cons (pg_name (i := 1) nd rfl (Or.inl rfl)) (pgs_cons (pg_name (i := 2) nd rfl (Or.inl rfl)) (pgs_cons (pg_name (i := 3) nd rfl (Or.inl rfl)) pgs_nil)))))
    (pss_cons (ps_set (i := 4) nd rfl (Or.inl rfl) (pe_call G__read_number (hr.mono (by decide)) (by rfl) T.m__read_number T.F__read_number.kp T.b__read_number .nil pass0 (pa_cons (pv 1) pa_nil)))
    (pss_cons (ps_if (pt_cmpR op_isN (pv 4) pe_non (nomark _)) (pss_one (ps_ret pe_non)) pss_nil)
    (pss_cons (ps_if (pt_cmpR op_eq (pv 2) pe_str (nomark _)) (pss_one (ps_ret (pe_tup (pa_cons (pv 4) (pa_cons pe_int pa_nil))))) pss_nil)
    (pss_cons (ps_set (i := 5) nd rfl (Or.inl rfl) (pe_call G__read_number (hr.mono (by decide)) (by rfl) T.m__read_number T.F__read_number.kp T.b__read_number .nil pass0 (pa_cons (pv 3) pa_nil)))
    (pss_cons (ps_if (PW.pt (pw_or (pt_cmpR op_isN (pv 5) pe_non (nomark _)) (pw_or (pt_cmpR op_eq (pv 5) pe_int (nomark _)) (pw_or1 (pt_cmpR op_ne (pe_callBfun cr_gcd (by rfl) T.m_gcd (pa_cons (pv 4) (pa_cons (pv 5) pa_nil))) pe_int (nomark _)))))) (pss_one (ps_ret pe_non)) pss_nil)
    (pss_one (ps_ret (pe_tup (pa_cons (pv 4) (pa_cons (pv 5) pa_nil)))))))))))), ?_⟩
  have pl := part_len a
  have hp0 : pairO a = match numO (Txt.partition a SL).1 with
      | none => none
      | some n => if (Txt.partition a SL).2.1 = Str.empty then some (n, 1) else match numO (Txt.partition a SL).2.2 with
        | none => none
        | some d => if d = 1 ∨ ¬ Nat.gcd n d = 1 then none else some (n, d) := rfl
  refine ⟨_, rfl, _, _, _, _, _, rfl, ClsV.ty _, TyX.base (.str _), kt_str_str, ?_⟩
  refine ⟨_, rfl, ?_⟩
  refine iteF' (c := !true) rfl ?_
  refine ⟨_, rfl, ⟨_, rfl⟩, a, SL, rfl, rfl, by decide +kernel, Nat.le_trans hz (by decide), fun p hp => ?_⟩
  have s1 := Same.new (o := .tup [V.str (Txt.partition a SL).1, V.str (Txt.partition a SL).2.1, V.str (Txt.partition a SL).2.2]) hp
  refine ⟨p, _, rfl, SqT.of upd_same, rfl, ?_⟩
  generalize upd H p (.tup [V.str (Txt.partition a SL).1, V.str (Txt.partition a SL).2.1, V.str (Txt.partition a SL).2.2]) = H1 at *
  generalize Txt.partition a SL = pt at *
  obtain ⟨h, sl, tt⟩ := pt
  dsimp only at *
  refine ⟨_, _, rfl, _, _, rfl, _, _, rfl, rfl, ?_⟩
  refine ⟨_, rfl, h, rfl, by omega, fun H2 s2 => ?_⟩
  have s12 := s1.trans s2
  cases en : numO h with
  | none =>
    rw [en] at hp0
    refine ⟨_, rfl, rfl, _, rfl, ?_⟩
    refine iteT' (decide_eq_true rfl) ?_
    exact q _ H2 s12 (by rw [hp0]; rfl)
  | some n =>
    rw [en] at hp0
    refine ⟨_, rfl, rfl, _, rfl, ?_⟩
    refine iteF' (decide_eq_false (fun z => by cases z)) ?_
    refine ⟨_, rfl, rfl, _, rfl, ?_⟩
    by_cases b1 : sl = Str.empty
    · subst b1
      dsimp only at hp0
      rw [if_pos rfl] at hp0
      refine iteT' (decide_eq_true (congrArg V.str (by decide +kernel))) ?_
      refine ⟨_, rfl, (by show 2 ≤ sizeLine; decide), fun t ht => ?_⟩
      exact q _ _ (s12.trans (Same.new ht)) (by rw [hp0]; exact ⟨t, rfl, SqT.of upd_same⟩)
    · dsimp only at hp0
      rw [if_neg b1] at hp0
      refine iteF' (decide_eq_false fun z => b1 ((V.str.inj z).trans (by decide +kernel))) ?_
      refine ⟨_, rfl, tt, rfl, by omega, fun H3 s3 => ?_⟩
      have s13 := s12.trans s3
      cases ed : numO tt with
      | none =>
        rw [ed] at hp0
        refine ⟨_, rfl, rfl, _, rfl, ?_⟩
        refine iteT' (decide_eq_true rfl) ?_
        exact q _ H3 s13 (by rw [hp0]; rfl)
      | some d =>
        rw [ed] at hp0
        dsimp only at hp0
        refine ⟨_, rfl, rfl, _, rfl, ?_⟩
        refine iteF' (decide_eq_false (fun z => by cases z)) ?_
        refine ⟨_, rfl, rfl, _, rfl, ?_⟩
        by_cases b2 : d = 1
        · rw [if_pos (.inl b2)] at hp0
          refine iteT' (by show decide (V.int (d : Int) = V.int 1) = true; rw [dec_int]; exact beq_iff_eq.mpr (by omega)) ?_
          exact q _ H3 s13 (by rw [hp0]; rfl)
        · refine iteF' (by show decide (V.int (d : Int) = V.int 1) = false; rw [dec_int]; exact beq_false_of_ne (by omega)) ?_
          refine ⟨_, rfl, _, rfl, (n : Int), (d : Int), rfl, rfl, _, rfl, ?_⟩
          rw [Int.natAbs_natCast, Int.natAbs_natCast]
          by_cases b3 : Nat.gcd n d = 1
          · rw [if_neg (fun z => z.elim b2 (fun z => z b3))] at hp0
            refine iteF' (by rw [dec_int, b3]; rfl) ?_
            refine ⟨_, rfl, _, rfl, (by show 2 ≤ sizeLine; decide), fun t ht => ?_⟩
            exact q _ _ (s13.trans (Same.new ht)) (by rw [hp0]; exact ⟨t, rfl, SqT.of upd_same⟩)
          · rw [if_pos (.inr b3)] at hp0
            refine iteT' (by rw [dec_int, beq_false_of_ne (by omega)]; rfl) ?_
            exact q _ H3 s13 (by rw [hp0]; rfl)
end
end TL
namespace TL
open PySem PySem.Spec PyProof.Rows L2
section
variable {J : It} {n : Nat} {G : Hp → Prop} {D : Addr} {g : TG} {tt : TT} {te : TE} {vs : List Nat} {σ : L2.St} {H0 : Hp} {Qd : Hp → Prop}
/-- what is to be shown of a comprehension with a test -/
def LcGoalT (J : It) (g : TG) (tt : TT) (te : TE) (vs : List Nat) (σ : L2.St) (H0 : Hp) (D : Addr) (Qd : Hp → Prop) : Prop :=
  ∃ W : Nat → Nat → Hp → Prop, (∃ m, W 0 m (upd H0 D (.lst []))) ∧ ∀ i m H, W i m H →
      (J.stop i H ∧ Qd H) ∨ (J.go i H ∧ ∃ Nx : Hp → Prop, (∀ H', Nx H' → ∃ m', m' < m ∧ W (i + 1) m' H') ∧ ∀ x H', J.yld i H x H' → g x (wipe σ vs) H' fun σ2 H2 => wipe σ2 vs = wipe σ vs ∧ tt σ2 H2 fun b H3 =>
        if b = true then te σ2 H3 fun y H4 => ∃ acc, H4 D = some (.lst acc) ∧ acc.length < sizeLine ∧ Nx (upd H4 D (.lst (acc ++ [y]))) else Nx H3)
/-- the items that pass a test, whatever is made of them -/
theorem lcf {xs : List V} (w : Walk J xs.length G (YAt xs)) (p : V → Bool) (f : V → V) (hz : xs.length ≤ 100000) (hD : H0 D = none) (hG : ∀ H, Same H0 H → G H)
    (hs : ∀ (i : Nat) x H, xs[i]? = some x → Same H0 H → ∀ k1 : Hp → Prop, ∀ k2 : VK, (p x = false → ∀ H4, Same H H4 → k1 H4) → (p x = true → ∀ H4, Same H H4 → k2 (f x) H4) → g x (wipe σ vs) H fun σ2 H2 => wipe σ2 vs = wipe σ vs ∧ tt σ2 H2 fun b H3 => if b = true then te σ2 H3 k2 else k1 H3)
    (hd : ∀ H, Same H0 H → H D = some (.lst ((xs.filter p).map f)) → Qd H) : LcGoalT J g tt te vs σ H0 D Qd := by
  refine lc_it w (fun i H => Same H0 H ∧ H D = some (.lst (((xs.take i).filter p).map f))) ⟨Same.new hD, upd_same⟩ (fun i H _ h => hG H h.1) (fun i x H H' hi h hy => ?_) (fun H h => ?_)
  · obtain ⟨rfl, hx⟩ := hy
    have et : (xs.take (i + 1)).filter p = (xs.take i).filter p ++ [x].filter p := by
      rw [List.take_succ, hx, List.filter_append]
      rfl
    refine hs i x H' hx h.1 _ _ (fun e H4 s4 => ⟨h.1.trans s4, ?_⟩) (fun e H4 s4 => ⟨((xs.take i).filter p).map f, s4 _ _ h.2, ?_, fun c u q => ?_, ?_⟩)
    · rw [s4 _ _ h.2, et, List.filter_cons, e]
      simp
    · rw [List.length_map]
      refine Nat.lt_of_le_of_lt (Nat.le_trans (List.length_filter_le ..) (Nat.le_trans (List.length_take_le' ..) hz)) (by decide)
    · rw [upd_ne (ne_of_none q hD)]
      exact s4 _ _ (h.1 _ _ q)
    · rw [upd_same, et, List.filter_cons, e]
      simp
  · refine hd H h.1 ?_
    rw [h.2, List.take_length]
end
/-! ### the signs of a text -/
def sgn (a : Str) : List V := a.cps.toList.map fun c => V.str ⟨#[c]⟩
theorem sgn_len (a : Str) : (sgn a).length = a.length := by
  unfold sgn
  rw [List.length_map]
  exact Array.length_toList
theorem walk_sgn {a : Str} : Walk (Its a) (sgn a).length (fun _ => True) (YAt (sgn a)) := by
  have w := walk_str (z := a)
  have e : (sgn a).length = a.cps.size := sgn_len a
  rw [e]
  refine ⟨w.1, w.2, fun i x H H' hi q y => ?_⟩
  obtain ⟨rfl, c, hc, rfl⟩ := w.3 i x H H' hi q y
  refine ⟨rfl, ?_⟩
  unfold sgn
  rw [List.getElem?_map, Array.getElem?_toList, hc]
  rfl
theorem dpAll_strs {K : PySem.W.Frag} {H : Hp} : ∀ ns : List Str, DpAll K H (ns.map V.str) (ns.map PyData.str)
  | [] => .nil
  | x :: xs => .cons (.str x) (dpAll_strs xs)
theorem lay_strs : ∀ ns : List Str, (∀ x ∈ ns, PyData.strOk x = true) → PyData.canLayAll0 (ns.map PyData.str) = true
  | [], _ => by simp [PyData.canLayAll0]
  | n :: ns, h => by simp [PyData.canLayAll0, PyData.canLay0, lay_strs ns (fun x hx => h x (List.mem_cons_of_mem _ hx)), h n (List.mem_cons_self ..)]
theorem depth_strs : ∀ ns : List Str, PyData.depthAll (ns.map PyData.str) = 0
  | [] => by simp [PyData.depthAll]
  | n :: ns => by simp [PyData.depthAll, PyData.depth, depth_strs ns]
theorem shaped_lstS (ns : List Str) (h : ∀ x ∈ ns, PyData.strOk x = true) : SeqAt.shaped (.list (ns.map PyData.str)) = true := by simp [SeqAt.shaped, PyData.canLay0, PyData.depth, lay_strs ns h, depth_strs]
theorem shaped_nil : SeqAt.shaped (.list []) = true := by simp [SeqAt.shaped, PyData.canLay0, PyData.depth, PyData.canLayAll0, PyData.depthAll]
theorem eqv_lstS_nil (ns : List Str) : PyData.eqv (.list (ns.map PyData.str)) (.list []) = ns.isEmpty := by
  cases ns <;> simp [PyData.eqv, PyData.eqvAll]
/-- the signs of a text that are not in another -/
def outs (z a : Str) : List Str := (a.cps.toList.filter fun c => !decide (c ∈ z.cps.toList)).map fun c => ⟨#[c]⟩
theorem outs_ok {z a : Str} (h : PyData.strOk a = true) : ∀ x ∈ outs z a, PyData.strOk x = true := fun x hx => by
  obtain ⟨c, hc, rfl⟩ := List.mem_map.mp hx
  have hm := (List.mem_filter.mp hc).1
  have h1 : a.cps.toList.all (· < 0x110000) = true := by
    rw [Array.all_toList]
    exact h
  have h2 := List.all_eq_true.mp h1 c hm
  show (#[c] : Array Nat).all (· < 0x110000) = true
  simpa using h2
theorem outs_nil (z a : Str) : (outs z a).isEmpty = a.cps.toList.all fun c => decide (c ∈ z.cps.toList) := by
  unfold outs
  rw [List.isEmpty_map]
  induction a.cps.toList with
  | nil => rfl
  | cons c cs ih =>
    rw [List.filter_cons, List.all_cons]
    by_cases hc : c ∈ z.cps.toList
    · rw [decide_eq_true hc]
      exact ih
    · rw [decide_eq_false hc]
      rfl
def pOut (z : Str) : V → Bool := fun v => match v with | .str x => (match x.cps[0]? with | some c => !decide (c ∈ z.cps.toList) | none => false) | _ => false
theorem outs_eq (z a : Str) : ((sgn a).filter (pOut z)).map id = (outs z a).map V.str := by
  unfold sgn outs
  rw [List.map_id, List.filter_map, List.map_map]
  rfl
theorem lc_outs {Z a : Str} {D : Addr} {σ : L2.St} {H0 : Hp} {Qd : Hp → Prop} {i : Nat} (hw : ∀ x : V, wipe ((wipe σ [i]).set i (some x)) [i] = wipe σ [i]) (hi : ∀ x : V, ((wipe σ [i]).set i (some x))[i]? = some (some x)) (hz : a.length ≤ 100000) (hD : H0 D = none)
    (hd : ∀ H, Same H0 H → H D = some (.lst ((outs Z a).map V.str)) → Qd H) :
    LcGoalT (Its a) (gName i) (tTest (tOp (fun x y H Q => ∃ (c : Nat) (z : Str), x = .str ⟨#[c]⟩ ∧ y = .str z ∧ Q (.bl (!decide (c ∈ z.cps.toList))) H) (tVar i) (tC (.str Z)))) (tVar i) [i] σ H0 D Qd := by
  refine lcf walk_sgn (pOut Z) id (by rw [sgn_len]; exact hz) hD (fun _ _ => trivial) ?_ (fun H s h => hd H s (by rw [h, outs_eq]))
  intro j x H hx s k1 k2 e1 e2
  unfold sgn at hx
  rw [List.getElem?_map] at hx
  obtain ⟨c, hc, rfl⟩ := Option.map_eq_some_iff.mp hx
  refine ⟨hw _, ?_⟩
  refine ⟨_, hi _, c, Z, rfl, rfl, _, rfl, ?_⟩
  have ep : pOut Z (V.str ⟨#[c]⟩) = !decide (c ∈ Z.cps.toList) := rfl
  cases hb : (!decide (c ∈ Z.cps.toList)) with
  | true => exact ⟨_, hi _, e2 (by rw [ep, hb]) _ (Same.refl _)⟩
  | false => exact e1 (by rw [ep, hb]) _ (Same.refl _)
end TL
namespace TL
open PySem L2 PySem.NumText

/-! ### steps of a reading -/
local macro_rules | `(tactic| walk_at "hp") => `(tactic| first | assumption | exact upd_same | (refine (upd_ne (by first | assumption | (exact Ne.symm (by assumption)))).trans ?_; walk_at "hp"))
local macro_rules | `(tactic| walk_at "ok") => `(tactic| first | (exact Or.inr ⟨by decide, by decide⟩) | (exact ⟨by decide, by decide⟩) | (exact ⟨by decide, by decide, by decide⟩) | (show _ ≠ _; omega) | (show _ ≠ _; decide) | (exact Or.inl ⟨by omega, by omega⟩) | decide)
local macro_rules | `(tactic| walk_at "sq") => `(tactic| first | assumption | exact SqL.of (by walk_at "hp") | exact SqT.of (by walk_at "hp"))
local macro_rules | `(tactic| walk_at "ty") => `(tactic| first | refine ⟨_, _, Value.type "int", Value.type "list", false, rfl, ClsV.ty _, TyX.base (TyOf.int _), kt_int_list, ?_⟩ | refine ⟨_, _, Value.type "bool", Value.type "list", false, rfl, ClsV.ty _, TyX.base (TyOf.bl _), kt_bool_list, ?_⟩ | refine ⟨_, _, Value.type "str", Value.type "list", false, rfl, ClsV.ty _, TyX.base (TyOf.str _), kt_str_list, ?_⟩ | refine ⟨_, _, Value.type "NoneType", Value.type "list", false, rfl, ClsV.ty _, TyX.base TyOf.non, kt_NoneType_list, ?_⟩ | refine ⟨_, _, Value.type "list", Value.type "list", true, rfl, ClsV.ty _, tyx_L (by walk_at "sq"), kt_list_list, ?_⟩ | refine ⟨_, _, Value.type "tuple", Value.type "list", false, rfl, ClsV.ty _, tyx_T (by walk_at "sq"), kt_tuple_list, ?_⟩ | refine ⟨_, _, Value.type "int", Value.type "tuple", false, rfl, ClsV.ty _, TyX.base (TyOf.int _), kt_int_tuple, ?_⟩ | refine ⟨_, _, Value.type "bool", Value.type "tuple", false, rfl, ClsV.ty _, TyX.base (TyOf.bl _), kt_bool_tuple, ?_⟩ | refine ⟨_, _, Value.type "str", Value.type "tuple", false, rfl, ClsV.ty _, TyX.base (TyOf.str _), kt_str_tuple, ?_⟩ | refine ⟨_, _, Value.type "NoneType", Value.type "tuple", false, rfl, ClsV.ty _, TyX.base TyOf.non, kt_NoneType_tuple, ?_⟩ | refine ⟨_, _, Value.type "list", Value.type "tuple", false, rfl, ClsV.ty _, tyx_L (by walk_at "sq"), kt_list_tuple, ?_⟩ | refine ⟨_, _, Value.type "tuple", Value.type "tuple", true, rfl, ClsV.ty _, tyx_T (by walk_at "sq"), kt_tuple_tuple, ?_⟩ | refine ⟨_, _, Value.type "int", Value.type "bool", false, rfl, ClsV.ty _, TyX.base (TyOf.int _), kt_int_bool, ?_⟩ | refine ⟨_, _, Value.type "bool", Value.type "bool", true, rfl, ClsV.ty _, TyX.base (TyOf.bl _), kt_bool_bool, ?_⟩ | refine ⟨_, _, Value.type "str", Value.type "bool", false, rfl, ClsV.ty _, TyX.base (TyOf.str _), kt_str_bool, ?_⟩ | refine ⟨_, _, Value.type "NoneType", Value.type "bool", false, rfl, ClsV.ty _, TyX.base TyOf.non, kt_NoneType_bool, ?_⟩ | refine ⟨_, _, Value.type "list", Value.type "bool", false, rfl, ClsV.ty _, tyx_L (by walk_at "sq"), kt_list_bool, ?_⟩ | refine ⟨_, _, Value.type "tuple", Value.type "bool", false, rfl, ClsV.ty _, tyx_T (by walk_at "sq"), kt_tuple_bool, ?_⟩ | refine ⟨_, _, Value.type "int", Value.type "int", true, rfl, ClsV.ty _, TyX.base (TyOf.int _), kt_int_int, ?_⟩ | refine ⟨_, _, Value.type "bool", Value.type "int", true, rfl, ClsV.ty _, TyX.base (TyOf.bl _), kt_bool_int, ?_⟩ | refine ⟨_, _, Value.type "str", Value.type "int", false, rfl, ClsV.ty _, TyX.base (TyOf.str _), kt_str_int, ?_⟩ | refine ⟨_, _, Value.type "NoneType", Value.type "int", false, rfl, ClsV.ty _, TyX.base TyOf.non, kt_NoneType_int, ?_⟩ | refine ⟨_, _, Value.type "list", Value.type "int", false, rfl, ClsV.ty _, tyx_L (by walk_at "sq"), kt_list_int, ?_⟩ | refine ⟨_, _, Value.type "tuple", Value.type "int", false, rfl, ClsV.ty _, tyx_T (by walk_at "sq"), kt_tuple_int, ?_⟩ | refine ⟨_, _, Value.type "int", Value.type "str", false, rfl, ClsV.ty _, TyX.base (TyOf.int _), kt_int_str, ?_⟩ | refine ⟨_, _, Value.type "bool", Value.type "str", false, rfl, ClsV.ty _, TyX.base (TyOf.bl _), kt_bool_str, ?_⟩ | refine ⟨_, _, Value.type "str", Value.type "str", true, rfl, ClsV.ty _, TyX.base (TyOf.str _), kt_str_str, ?_⟩ | refine ⟨_, _, Value.type "NoneType", Value.type "str", false, rfl, ClsV.ty _, TyX.base TyOf.non, kt_NoneType_str, ?_⟩ | refine ⟨_, _, Value.type "list", Value.type "str", false, rfl, ClsV.ty _, tyx_L (by walk_at "sq"), kt_list_str, ?_⟩ | refine ⟨_, _, Value.type "tuple", Value.type "str", false, rfl, ClsV.ty _, tyx_T (by walk_at "sq"), kt_tuple_str, ?_⟩)
local macro_rules | `(tactic| walk_at "go1") => `(tactic| first
  | (refine ⟨_, rfl, ?_⟩)
  | (refine ⟨_, _, rfl, rfl, ?_⟩)
  | (refine ⟨_, _, _, _, rfl, rfl, SqL.of (by walk_at "hp"), rfl, ?_⟩)
  | (refine Or.inl ⟨_, rfl, ?_⟩)
  | (refine ⟨rfl, ?_⟩)
  | (refine ⟨_, _, rfl, .inl (SqL.of (by walk_at "hp")), ?_⟩)
  | (refine ⟨_, _, rfl, Or.inl (by assumption), ?_⟩)
  | (refine ⟨_, _, rfl, Or.inr (by assumption), ?_⟩)
  | (refine ⟨(by walk_at "ok"), ?_⟩)
  | (refine ⟨_, _, _, _, rfl, rfl, (by walk_at "hp"), rfl, ?_⟩))
local macro_rules | `(tactic| walk_at "go") => `(tactic| repeat (walk_at "go1"))
local macro_rules | `(tactic| walk_at "gt") => `(tactic| repeat (first | walk_at "go1" | walk_at "ty"))

section
variable {P : Program} {w : World} {K : PySem.W.Frag} {mg : Str → Option Value} {base : Heap}
-- [0=_law_told, 1=_law_sign_here] [0=_law_told, 1=_law_j, 2=_law_num, 3=_law_den] [0=_law_x, 1=_law_y]
def spWhole : Sp := fun vs H Q _ => ∃ (a : Str), vs = [.str a] ∧ a.length ≤ 100000 ∧ PyData.strOk a = true ∧ ∀ H', Same H H' → Q (oV (numO a)) H'
theorem str_empty {a : Str} (h : a.length = 0) : a = Str.empty := by
  cases a with
  | mk c =>
    have : c.size = 0 := h
    have e : c = #[] := Array.eq_empty_of_size_eq_zero this
    rw [e]
    rfl
theorem ok_l_whole (T : Tx K mg) : FnOk P w K mg base CX0 1 T.f_l_whole T.d_l_whole ["_law_told"] spWhole := by
  refine T.F_l_whole.ok sc_l_whole (fun vs H Q E h => ?_) (fun cdv A outer s H vs Q E hr h => ?_)
  · obtain ⟨a, rfl, _⟩ := h
    rfl
  obtain ⟨a, rfl, hz, hok, q⟩ := h
  have nd := sc_l_whole.nd
  have hsz : a.length ≤ sizeLine := Nat.le_trans hz (by decide)
  have hal : a.cps.toList.length = a.length := Array.length_toList
  refine ⟨_, (pss_cons (ps_if (PW.pt (pw_or (pt_not (pt_val (pe_callB (show CallR _ _ (rIsi K) from call_isi) (by rfl) T.z_isinstance (by decide +kernel) (pa_cons (pv 0) (pa_cons (pe_bltn (v := .ty "str") (u := .type "str") (by rfl) T.z_str (by decide +kernel) rfl) pa_nil))))) (pw_or (pt_cmpR op_eq (pv 0) pe_str (nomark _)) (pw_or (pt_cmpR op_gt (pe_callB call_len_str (by rfl) T.z_len (by decide +kernel) (pa_cons (pv 0) pa_nil)) pe_int (nomark _)) (pw_or1 (pt_cmpR op_eq (pe_ix ix_str (pv 0) pe_int (fun _ _ => rfl)) pe_str (nomark _))))))) (pss_one (ps_ret pe_non)) pss_nil)
    (pss_one (ps_ret (pe_ifExp (pt_cmpR (show OpR _ _ (rEqD K) from op_eqD hr.units) (pe_lc (own := [("_law_sign_here", 1)]) (g := (gName 1)) rfl nd (pi_str (pv 0)) (blkOk_by (own := [("_law_sign_here", 1)]) (N := N_l_whole) (sc := defScope s_l_whole) (by decide +kernel)) (fun _ _ _ _ _ => by exact (pg_name (i := 1) nd rfl (Or.inl rfl))) (fun _ _ _ _ _ => by exact (pts_one (pt_cmpR op_notIn_sign (pv 1) pe_str (by rfl)))) (fun _ _ _ _ _ => by exact (pv 1))) (pe_lst pa_nil) (nomark _)) (pe_callTy (call_int_strL T.no_limit) (by rfl) T.z_int (by decide +kernel) (pa_cons (pv 0) pa_nil)) pe_non)))), ?_⟩
  refine ⟨_, rfl, _, _, _, _, _, rfl, ClsV.ty _, TyX.base (.str _), kt_str_str, ?_⟩
  refine ⟨_, rfl, ?_⟩
  refine iteF' (c := !true) rfl ?_
  refine ⟨_, rfl, rfl, _, rfl, ?_⟩
  by_cases b1 : a.length = 0
  · have n1 : numO a = none := if_neg fun h => absurd h.1 (by omega)
    rw [n1] at q
    obtain rfl := str_empty b1
    refine iteT' (decide_eq_true (congrArg V.str (by decide +kernel))) ?_
    exact q H (Same.refl _)
  refine iteF' (decide_eq_false fun z => b1 (by rw [V.str.inj z]; decide +kernel)) ?_
  refine ⟨_, rfl, a, rfl, hsz, _, _, rfl, rfl, _, rfl, ?_⟩
  by_cases b2 : a.length ≤ 2000
  case neg =>
    have n1 : numO a = none := if_neg fun h => b2 h.2.1
    rw [n1] at q
    refine iteT' (decide_eq_true (by omega)) ?_
    exact q H (Same.refl _)
  refine iteF' (decide_eq_false (by omega)) ?_
  obtain ⟨c0, hc0⟩ : ∃ c0, a.cps.toList[0]? = some c0 := ⟨_, List.getElem?_eq_getElem (by omega)⟩
  refine ⟨_, rfl, a, 0, c0, rfl, rfl, hsz, (show atI a.cps.toList ((0 : Nat) : Int) = some c0 from atI_nat hc0), rfl, _, rfl, ?_⟩
  have hh : a.cps.toList.head? = some c0 := by rw [← hc0, List.head?_eq_getElem?]
  by_cases b3 : c0 = 48
  case pos =>
    have n1 : numO a = none := if_neg fun h => h.2.2.1 (by rw [hh, b3])
    rw [n1] at q
    subst b3
    refine iteT' (decide_eq_true (congrArg V.str (by decide +kernel))) ?_
    exact q H (Same.refl _)
  have ne0 : ¬ V.str ⟨#[c0]⟩ = V.str (Str.ofString "0") := fun z => by
    have z1 : (⟨#[c0]⟩ : Str) = ⟨#[48]⟩ := (V.str.inj z).trans (by decide +kernel)
    have z2 := Str.mk.inj z1
    exact b3 (by simpa using z2)
  refine iteF' (decide_eq_false ne0) ?_
  refine ⟨_, rfl, a, rfl, fun D hD => ?_⟩
  refine lc_outs (Z := DIG) (fun _ => rfl) (fun _ => rfl) hz hD fun H1 s1 hD1 => ?_
  refine ⟨(by show 0 ≤ sizeLine; decide), fun p hp => ?_⟩
  have s2 := Same.new (o := .lst []) hp
  refine ⟨_, _, .lst (SqL.of (s2 _ _ hD1)) (dpAll_strs _), .lst (SqL.of upd_same) .nil, shaped_lstS _ (outs_ok hok), shaped_nil, _, rfl, ?_⟩
  have eA : PyData.eqv (.list ((outs DIG a).map PyData.str)) (.list []) = allIn DIG a := by rw [eqv_lstS_nil, outs_nil]; rfl
  rw [eA]
  cases b4 : allIn DIG a with
  | false =>
    have n1 : numO a = none := if_neg fun h => by rw [b4] at h; exact absurd h.2.2.2 (by decide)
    rw [n1] at q
    refine iteF' rfl ?_
    exact q _ (s1.trans s2)
  | true =>
    have n1 : numO a = some (digitsVal a.cps.toList) := if_pos ⟨by omega, b2, by rw [hh]; exact fun z => b3 (Option.some.inj z), b4⟩
    rw [n1] at q
    refine iteT' rfl ?_
    exact ⟨_, rfl, a, _, rfl, num_int (by omega) b2 b4, by omega, q _ (s1.trans s2)⟩
def spGcd : Sp := fun vs H Q _ => ∃ (x y : Nat), vs = [.int (x : Int), .int (y : Int)] ∧ ∀ H', Same H H' → Q (.int ((Nat.gcd x y : Nat) : Int)) H'
def spLRead (K : PySem.W.Frag) : Sp := fun vs H Q _ => ∃ (a : Str), vs = [.str a] ∧ a.length ≤ 100000 ∧ PyData.strOk a = true ∧ ∀ v H', Same H H' → OT K H' (pairO a) v → Q v H'
theorem ok_l_gcd (T : Tx K mg) : FnOk P w K mg base CX0 1 T.f_l_gcd T.d_l_gcd ["_law_x", "_law_y"] spGcd := by
  refine T.F_l_gcd.ok sc_l_gcd (fun vs H Q E h => ?_) (fun cdv A outer s H vs Q E hr h => ?_)
  · obtain ⟨x, y, rfl, _⟩ := h
    rfl
  obtain ⟨x, y, rfl, q⟩ := h
  have nd := sc_l_gcd.nd
  refine ⟨_, (pss_cons (ps_while PassesOwn.never (pt_cmpR op_gt (pv 1) pe_int (nomark _)) (pss_one (ps_par (i := 0) (j := 1) rfl nd rfl rfl (by decide) rfl rfl (pa_cons (pv 1) (pa_cons (pe_op op_mod (pe_callTy call_int1 (by rfl) T.z_int (by decide +kernel) (pa_cons (pv 0) pa_nil)) (pv 1)) pa_nil)) rfl)))
    (pss_one (ps_ret (pv 0)))), ?_⟩
  refine ⟨fun m σ H' => ∃ u v : Nat, m = v ∧ H' = H ∧ Nat.gcd u v = Nat.gcd x y ∧ σ = [some (.int (u : Int)), some (.int (v : Int))], ⟨y, x, y, rfl, rfl, rfl, rfl⟩, ?_⟩
  rintro m σ H2 ⟨u, v, rfl, rfl, hg, rfl⟩
  by_cases hv : 0 < m
  · refine ⟨_, rfl, _, _, rfl, rfl, true, congrArg V.bl (decide_eq_true (by omega)), ?_⟩
    refine ⟨fun σ' H' => H' = H2 ∧ σ' = [some (.int (m : Int)), some (.int ((u % m : Nat) : Int))], fun σ' H' ⟨a1, a2⟩ => ⟨u % m, Nat.mod_lt _ hv, m, u % m, rfl, a1, by rw [← hg, Nat.gcd_comm u m, Nat.gcd_rec m u, Nat.gcd_comm], a2⟩, ?_⟩
    refine ⟨_, rfl, _, rfl, .inl ⟨_, rfl, _, rfl, _, _, rfl, rfl, (by show (0 : Int) < (m : Int); omega), _, _, rfl, rfl, rfl⟩⟩
  · obtain rfl : m = 0 := by omega
    refine ⟨_, rfl, _, _, rfl, rfl, false, congrArg V.bl (decide_eq_false (by omega)), ?_⟩
    refine ⟨_, rfl, ?_⟩
    rw [Nat.gcd_zero_right] at hg
    rw [hg]
    exact q _ (Same.refl _)
theorem cut_ok {a : Str} (h : PyData.strOk a = true) (lo hi : Option Int) : PyData.strOk (cutS a lo hi) = true := by
  have h1 : a.cps.toList.all (· < 0x110000) = true := by
    rw [Array.all_toList]
    exact h
  show (cutS a lo hi).cps.all (· < 0x110000) = true
  rw [← Array.all_toList]
  refine List.all_eq_true.mpr fun c hc => List.all_eq_true.mp h1 c ?_
  unfold cutS at hc
  exact List.mem_of_mem_drop (List.mem_of_mem_take hc)
theorem ok_l_read (T : Tx K mg) : FnOk P w K mg base CX0 2 T.f_l_read T.d_l_read ["_law_told"] (spLRead K) := by
  have G_l_whole := ok_l_whole (P := P) (w := w) (base := base) T
  have G_l_gcd := ok_l_gcd (P := P) (w := w) (base := base) T
  refine T.F_l_read.ok sc_l_read (fun vs H Q E h => ?_) (fun cdv A outer s H vs Q E hr h => ?_)
  · obtain ⟨a, rfl, _⟩ := h
    rfl
  obtain ⟨a, rfl, hz, hok, q⟩ := h
  have nd := sc_l_read.nd
  refine ⟨_, (pss_cons (ps_if (pt_not (pt_val (pe_callB (show CallR _ _ (rIsi K) from call_isi) (by rfl) T.z_isinstance (by decide +kernel) (pa_cons (pv 0) (pa_cons (pe_bltn (v := .ty "str") (u := .type "str") (by rfl) T.z_str (by decide +kernel) rfl) pa_nil))))) (pss_one (ps_ret pe_non)) pss_nil)
    (pss_cons (ps_set (i := 1) nd rfl (Or.inl rfl) (pe_m1 PySem.F.slot_str_find PySem.F.type_str_find mt_find (pv 0) pe_str))
    (pss_cons (ps_if (pt_cmpR op_lt (pv 1) pe_int (nomark _)) (pss_cons (ps_set (i := 2) nd rfl (Or.inl rfl) (pe_call G_l_whole (hr.mono (by decide)) (by rfl) T.m_l_whole T.F_l_whole.kp T.b_l_whole .nil pass0 (pa_cons (pv 0) pa_nil)))
    (pss_one (ps_ret (pe_ifExp (pt_cmpR op_isN (pv 2) pe_non (nomark _)) pe_non (pe_tup (pa_cons (pv 2) (pa_cons pe_int pa_nil))))))) pss_nil)
    (pss_cons (ps_par (i := 2) (j := 3) rfl nd rfl rfl (by decide) rfl rfl (pa_cons (pe_call G_l_whole (hr.mono (by decide)) (by rfl) T.m_l_whole T.F_l_whole.kp T.b_l_whole .nil pass0 (pa_cons (pe_slice sl_str (pv 0) po_none (po_some (pv 1))) pa_nil)) (pa_cons (pe_call G_l_whole (hr.mono (by decide)) (by rfl) T.m_l_whole T.F_l_whole.kp T.b_l_whole .nil pass0 (pa_cons (pe_slice sl_str (pv 0) (po_some (pe_op op_add (pv 1) pe_int)) po_none) pa_nil)) pa_nil)) rfl)
    (pss_cons (ps_if (PW.pt (pw_or (pt_cmpR op_isN (pv 2) pe_non (nomark _)) (pw_or (pt_cmpR op_isN (pv 3) pe_non (nomark _)) (pw_or (pt_cmpR op_eq (pv 3) pe_int (nomark _)) (pw_or1 (pt_cmpR op_ne (pe_call G_l_gcd (hr.mono (by decide)) (by rfl) T.m_l_gcd T.F_l_gcd.kp T.b_l_gcd .nil pass0 (pa_cons (pv 2) (pa_cons (pv 3) pa_nil))) pe_int (nomark _))))))) (pss_one (ps_ret pe_non)) pss_nil)
    (pss_one (ps_ret (pe_tup (pa_cons (pv 2) (pa_cons (pv 3) pa_nil)))))))))), ?_⟩
  refine ⟨_, rfl, _, _, _, _, _, rfl, ClsV.ty _, TyX.base (.str _), kt_str_str, ?_⟩
  refine ⟨_, rfl, ?_⟩
  refine iteF' (c := !true) rfl ?_
  have hp0 : pairO a = match numO (Txt.partition a SL).1 with
      | none => none
      | some n => if (Txt.partition a SL).2.1 = Str.empty then some (n, 1) else match numO (Txt.partition a SL).2.2 with
        | none => none
        | some d => if d = 1 ∨ ¬ Nat.gcd n d = 1 then none else some (n, d) := rfl
  refine ⟨_, rfl, ⟨_, rfl⟩, a, SL, rfl, rfl, ?_⟩
  rcases part_cases a with ⟨e1, e2⟩ | ⟨i, hi, e1, e2⟩
  · rw [e2]
    rw [e1] at hp0
    dsimp only at hp0
    refine ⟨_, rfl, _, _, rfl, rfl, _, rfl, ?_⟩
    refine iteT' (by decide) ?_
    refine ⟨_, rfl, a, rfl, hz, hok, fun H2 s2 => ?_⟩
    refine ⟨_, rfl, rfl, _, rfl, ?_⟩
    cases en : numO a with
    | none =>
      rw [en] at hp0
      refine iteT' (decide_eq_true rfl) ?_
      exact q _ H2 s2 (by rw [hp0]; rfl)
    | some n =>
      rw [en] at hp0
      dsimp only at hp0
      rw [if_pos rfl] at hp0
      refine iteF' (decide_eq_false (fun z => by cases z)) ?_
      refine ⟨_, rfl, (by show 2 ≤ sizeLine; decide), fun t ht => ?_⟩
      exact q _ _ (s2.trans (Same.new ht)) (by rw [hp0]; exact ⟨t, rfl, SqT.of upd_same⟩)
  · rw [e2]
    rw [e1] at hp0
    dsimp only at hp0
    refine ⟨_, rfl, _, _, rfl, rfl, _, rfl, ?_⟩
    refine iteF' (decide_eq_false (by omega)) ?_
    have l1 := cut_len a none (some (i : Int))
    have l2 := cut_len a (some ((i : Int) + 1)) none
    have o1 := cut_ok hok none (some (i : Int))
    have o2 := cut_ok hok (some ((i : Int) + 1)) none
    have nsl : ¬ SL = Str.empty := by decide +kernel
    have hsz : a.length ≤ sizeLine := Nat.le_trans hz (by decide)
    refine ⟨_, rfl, _, rfl, _, rfl, a, rfl, hsz, ?_⟩
    generalize cutS a none (some (i : Int)) = h at *
    refine ⟨h, rfl, by omega, o1, fun H2 s2 => ?_⟩
    refine ⟨_, rfl, _, rfl, _, _, rfl, rfl, _, rfl, a, rfl, hsz, ?_⟩
    generalize cutS a (some ((i : Int) + 1)) none = tt at *
    refine ⟨tt, rfl, by omega, o2, fun H3 s3 => ⟨_, _, rfl, ?_⟩⟩
    have s13 := s2.trans s3
    cases en : numO h with
    | none =>
      rw [en] at hp0
      refine ⟨_, rfl, rfl, _, rfl, ?_⟩
      refine iteT' (decide_eq_true rfl) ?_
      exact q _ H3 s13 (by rw [hp0]; rfl)
    | some n =>
      rw [en] at hp0
      dsimp only at hp0
      rw [if_neg nsl] at hp0
      refine ⟨_, rfl, rfl, _, rfl, ?_⟩
      refine iteF' (decide_eq_false (fun z => by cases z)) ?_
      cases ed : numO tt with
      | none =>
        rw [ed] at hp0
        refine ⟨_, rfl, rfl, _, rfl, ?_⟩
        refine iteT' (decide_eq_true rfl) ?_
        exact q _ H3 s13 (by rw [hp0]; rfl)
      | some d =>
        rw [ed] at hp0
        dsimp only at hp0
        refine ⟨_, rfl, rfl, _, rfl, ?_⟩
        refine iteF' (decide_eq_false (fun z => by cases z)) ?_
        refine ⟨_, rfl, rfl, _, rfl, ?_⟩
        by_cases b2 : d = 1
        · rw [if_pos (.inl b2)] at hp0
          refine iteT' (by show decide (V.int (d : Int) = V.int 1) = true; rw [dec_int]; exact beq_iff_eq.mpr (by omega)) ?_
          exact q _ H3 s13 (by rw [hp0]; rfl)
        · refine iteF' (by show decide (V.int (d : Int) = V.int 1) = false; rw [dec_int]; exact beq_false_of_ne (by omega)) ?_
          refine ⟨_, rfl, _, rfl, n, d, rfl, fun H4 s4 => ⟨rfl, _, rfl, ?_⟩⟩
          have s14 := s13.trans s4
          by_cases b3 : Nat.gcd n d = 1
          · rw [if_neg (fun z => z.elim b2 (fun z => z b3))] at hp0
            refine iteF' (by rw [dec_int, b3]; rfl) ?_
            refine ⟨_, rfl, _, rfl, (by show 2 ≤ sizeLine; decide), fun t ht => ?_⟩
            exact q _ _ (s14.trans (Same.new ht)) (by rw [hp0]; exact ⟨t, rfl, SqT.of upd_same⟩)
          · rw [if_pos (.inr b3)] at hp0
            refine iteT' (by rw [dec_int, beq_false_of_ne (by omega)]; rfl) ?_
            exact q _ H4 s14 (by rw [hp0]; rfl)
end
end TL
namespace TL
open PySem L2 PySem.NumText

/-! ### steps of a reading -/
local macro_rules | `(tactic| walk_at "hp") => `(tactic| first | assumption | exact upd_same | (refine (upd_ne (by first | assumption | (exact Ne.symm (by assumption)))).trans ?_; walk_at "hp"))
local macro_rules | `(tactic| walk_at "ok") => `(tactic| first | (exact Or.inr ⟨by decide, by decide⟩) | (exact ⟨by decide, by decide⟩) | (exact ⟨by decide, by decide, by decide⟩) | (show _ ≠ _; omega) | (show _ ≠ _; decide) | (exact Or.inl ⟨by omega, by omega⟩) | decide)
local macro_rules | `(tactic| walk_at "sq") => `(tactic| first | assumption | exact SqL.of (by walk_at "hp") | exact SqT.of (by walk_at "hp"))
local macro_rules | `(tactic| walk_at "ty") => `(tactic| first | refine ⟨_, _, Value.type "int", Value.type "list", false, rfl, ClsV.ty _, TyX.base (TyOf.int _), kt_int_list, ?_⟩ | refine ⟨_, _, Value.type "bool", Value.type "list", false, rfl, ClsV.ty _, TyX.base (TyOf.bl _), kt_bool_list, ?_⟩ | refine ⟨_, _, Value.type "str", Value.type "list", false, rfl, ClsV.ty _, TyX.base (TyOf.str _), kt_str_list, ?_⟩ | refine ⟨_, _, Value.type "NoneType", Value.type "list", false, rfl, ClsV.ty _, TyX.base TyOf.non, kt_NoneType_list, ?_⟩ | refine ⟨_, _, Value.type "list", Value.type "list", true, rfl, ClsV.ty _, tyx_L (by walk_at "sq"), kt_list_list, ?_⟩ | refine ⟨_, _, Value.type "tuple", Value.type "list", false, rfl, ClsV.ty _, tyx_T (by walk_at "sq"), kt_tuple_list, ?_⟩ | refine ⟨_, _, Value.type "int", Value.type "tuple", false, rfl, ClsV.ty _, TyX.base (TyOf.int _), kt_int_tuple, ?_⟩ | refine ⟨_, _, Value.type "bool", Value.type "tuple", false, rfl, ClsV.ty _, TyX.base (TyOf.bl _), kt_bool_tuple, ?_⟩ | refine ⟨_, _, Value.type "str", Value.type "tuple", false, rfl, ClsV.ty _, TyX.base (TyOf.str _), kt_str_tuple, ?_⟩ | refine ⟨_, _, Value.type "NoneType", Value.type "tuple", false, rfl, ClsV.ty _, TyX.base TyOf.non, kt_NoneType_tuple, ?_⟩ | refine ⟨_, _, Value.type "list", Value.type "tuple", false, rfl, ClsV.ty _, tyx_L (by walk_at "sq"), kt_list_tuple, ?_⟩ | refine ⟨_, _, Value.type "tuple", Value.type "tuple", true, rfl, ClsV.ty _, tyx_T (by walk_at "sq"), kt_tuple_tuple, ?_⟩ | refine ⟨_, _, Value.type "int", Value.type "bool", false, rfl, ClsV.ty _, TyX.base (TyOf.int _), kt_int_bool, ?_⟩ | refine ⟨_, _, Value.type "bool", Value.type "bool", true, rfl, ClsV.ty _, TyX.base (TyOf.bl _), kt_bool_bool, ?_⟩ | refine ⟨_, _, Value.type "str", Value.type "bool", false, rfl, ClsV.ty _, TyX.base (TyOf.str _), kt_str_bool, ?_⟩ | refine ⟨_, _, Value.type "NoneType", Value.type "bool", false, rfl, ClsV.ty _, TyX.base TyOf.non, kt_NoneType_bool, ?_⟩ | refine ⟨_, _, Value.type "list", Value.type "bool", false, rfl, ClsV.ty _, tyx_L (by walk_at "sq"), kt_list_bool, ?_⟩ | refine ⟨_, _, Value.type "tuple", Value.type "bool", false, rfl, ClsV.ty _, tyx_T (by walk_at "sq"), kt_tuple_bool, ?_⟩ | refine ⟨_, _, Value.type "int", Value.type "int", true, rfl, ClsV.ty _, TyX.base (TyOf.int _), kt_int_int, ?_⟩ | refine ⟨_, _, Value.type "bool", Value.type "int", true, rfl, ClsV.ty _, TyX.base (TyOf.bl _), kt_bool_int, ?_⟩ | refine ⟨_, _, Value.type "str", Value.type "int", false, rfl, ClsV.ty _, TyX.base (TyOf.str _), kt_str_int, ?_⟩ | refine ⟨_, _, Value.type "NoneType", Value.type "int", false, rfl, ClsV.ty _, TyX.base TyOf.non, kt_NoneType_int, ?_⟩ | refine ⟨_, _, Value.type "list", Value.type "int", false, rfl, ClsV.ty _, tyx_L (by walk_at "sq"), kt_list_int, ?_⟩ | refine ⟨_, _, Value.type "tuple", Value.type "int", false, rfl, ClsV.ty _, tyx_T (by walk_at "sq"), kt_tuple_int, ?_⟩ | refine ⟨_, _, Value.type "int", Value.type "str", false, rfl, ClsV.ty _, TyX.base (TyOf.int _), kt_int_str, ?_⟩ | refine ⟨_, _, Value.type "bool", Value.type "str", false, rfl, ClsV.ty _, TyX.base (TyOf.bl _), kt_bool_str, ?_⟩ | refine ⟨_, _, Value.type "str", Value.type "str", true, rfl, ClsV.ty _, TyX.base (TyOf.str _), kt_str_str, ?_⟩ | refine ⟨_, _, Value.type "NoneType", Value.type "str", false, rfl, ClsV.ty _, TyX.base TyOf.non, kt_NoneType_str, ?_⟩ | refine ⟨_, _, Value.type "list", Value.type "str", false, rfl, ClsV.ty _, tyx_L (by walk_at "sq"), kt_list_str, ?_⟩ | refine ⟨_, _, Value.type "tuple", Value.type "str", false, rfl, ClsV.ty _, tyx_T (by walk_at "sq"), kt_tuple_str, ?_⟩)
local macro_rules | `(tactic| walk_at "go1") => `(tactic| first
  | (refine ⟨_, rfl, ?_⟩)
  | (refine ⟨_, _, rfl, rfl, ?_⟩)
  | (refine ⟨_, _, _, _, rfl, rfl, SqL.of (by walk_at "hp"), rfl, ?_⟩)
  | (refine Or.inl ⟨_, rfl, ?_⟩)
  | (refine ⟨rfl, ?_⟩)
  | (refine ⟨_, _, rfl, .inl (SqL.of (by walk_at "hp")), ?_⟩)
  | (refine ⟨_, _, rfl, Or.inl (by assumption), ?_⟩)
  | (refine ⟨_, _, rfl, Or.inr (by assumption), ?_⟩)
  | (refine ⟨(by walk_at "ok"), ?_⟩)
  | (refine ⟨_, _, _, _, rfl, rfl, (by walk_at "hp"), rfl, ?_⟩))
local macro_rules | `(tactic| walk_at "go") => `(tactic| repeat (walk_at "go1"))
local macro_rules | `(tactic| walk_at "gt") => `(tactic| repeat (first | walk_at "go1" | walk_at "ty"))

section
variable {P : Program} {w : World} {K : PySem.W.Frag} {mg : Str → Option Value} {base : Heap}
-- [0=value, 1=letter] [0=_law_thing, 1=_law_sign_here] [0=over, 1=under, 2=shared] [0=_law_num, 1=_law_den, 2=_law_common]
def spName : Sp := fun vs H Q _ => ∃ (a : Str), vs = [.str a] ∧ a.length ≤ 100000 ∧ PyData.strOk a = true ∧ ∀ H', Same H H' → Q (.bl (nameB a)) H'
theorem ok_is_name (T : Tx K mg) : FnOk P w K mg base CX0 1 T.f_is_name T.d_is_name ["value"] spName := by
  refine T.F_is_name.ok sc_is_name (fun vs H Q E h => ?_) (fun cdv A outer s H vs Q E hr h => ?_)
  · obtain ⟨a, rfl, _⟩ := h
    rfl
  obtain ⟨a, rfl, hz, hok, q⟩ := h
  have nd := sc_is_name.nd
  have hsz : a.length ≤ sizeLine := Nat.le_trans hz (by decide)
  refine ⟨_, (pss_cons (ps_if (PW.pt (pw_or (pt_not (pt_val (pe_callB (show CallR _ _ (rIsi K) from call_isi) (by rfl) T.z_isinstance (by decide +kernel) (pa_cons (pv 0) (pa_cons (pe_bltn (v := .ty "str") (u := .type "str") (by rfl) T.z_str (by decide +kernel) rfl) pa_nil))))) (pw_or1 (pt_not (pt_chain op_le op_le pe_int (pe_callB call_len_str (by rfl) T.z_len (by decide +kernel) (pa_cons (pv 0) pa_nil)) (pe_glob (v := .int 6) (by rfl) T.m_MOST_LETTERS ⟨_, rfl⟩)))))) (pss_one (ps_ret pe_bl)) pss_nil)
    (pss_one (ps_ret (pe_callB (show CallR _ _ (rAll K) from cr_all rfl) (by rfl) T.z_all (by decide +kernel) (pa_cons (pe_lc (own := [("letter", 1)]) (g := (gName 1)) rfl nd (pi_str (pv 0)) (blkOk_by (own := [("letter", 1)]) (N := N_is_name) (sc := defScope s_is_name) (by decide +kernel)) (fun _ _ _ _ _ => by exact (pg_name (i := 1) nd rfl (Or.inl rfl))) (fun _ _ _ _ _ => by exact pts_nil) (fun _ _ _ _ _ => by exact (pe_cmpR op_in_sign (pv 1) (pe_glob (v := .str (Str.ofString "abcdefghijklmnopqrstuvwxyz")) (by rfl) T.m_LETTERS ⟨_, rfl⟩) (by rfl)))) pa_nil))))), ?_⟩
  refine ⟨_, rfl, _, _, _, _, _, rfl, ClsV.ty _, TyX.base (.str _), kt_str_str, ?_⟩
  refine ⟨_, rfl, ?_⟩
  refine iteF' (c := !true) rfl ?_
  refine ⟨_, rfl, a, rfl, hsz, _, _, rfl, rfl, _, rfl, ?_⟩
  by_cases b1 : 1 ≤ a.length
  case neg =>
    have n1 : nameB a = false := by unfold nameB; rw [decide_eq_false b1]; rfl
    rw [n1] at q
    refine iteF' (decide_eq_false (by omega)) ?_
    refine ⟨_, rfl, ?_⟩
    refine iteT' (c := !false) rfl ?_
    exact q H (Same.refl _)
  refine iteT' (decide_eq_true (by omega)) ?_
  refine ⟨_, _, rfl, rfl, _, rfl, ?_⟩
  by_cases b2 : a.length ≤ 6
  case neg =>
    have n1 : nameB a = false := by unfold nameB; rw [decide_eq_false b2, Bool.false_and, Bool.and_false]
    rw [n1] at q
    refine iteT' (c := !decide _) (by rw [decide_eq_false (by omega)]; rfl) ?_
    exact q H (Same.refl _)
  refine iteF' (c := !decide _) (by rw [decide_eq_true (by omega)]; rfl) ?_
  have n1 : nameB a = allIn LET a := by unfold nameB; rw [decide_eq_true b1, decide_eq_true b2, Bool.true_and, Bool.true_and]
  rw [n1] at q
  refine ⟨_, rfl, a, rfl, fun D hD => ?_⟩
  refine lc_signs (Z := LET) (fun _ => rfl) (fun _ => rfl) hz hD fun H1 s1 hD1 => ?_
  refine ⟨D, _, rfl, SqL.of hD1, ?_⟩
  have eA : (a.cps.toList.map fun c => decide (c ∈ LET.cps.toList)).all id = allIn LET a := by
    rw [List.all_map]
    rfl
  rw [eA]
  exact q H1 s1
theorem ok_l_name_due (T : Tx K mg) : FnOk P w K mg base CX0 1 T.f_l_name_due T.d_l_name_due ["_law_thing"] spName := by
  refine T.F_l_name_due.ok sc_l_name_due (fun vs H Q E h => ?_) (fun cdv A outer s H vs Q E hr h => ?_)
  · obtain ⟨a, rfl, _⟩ := h
    rfl
  obtain ⟨a, rfl, hz, hok, q⟩ := h
  have nd := sc_l_name_due.nd
  have hsz : a.length ≤ sizeLine := Nat.le_trans hz (by decide)
  refine ⟨_, (pss_cons (ps_if (PW.pt (pw_or (pt_not (pt_val (pe_callB (show CallR _ _ (rIsi K) from call_isi) (by rfl) T.z_isinstance (by decide +kernel) (pa_cons (pv 0) (pa_cons (pe_bltn (v := .ty "str") (u := .type "str") (by rfl) T.z_str (by decide +kernel) rfl) pa_nil))))) (pw_or (pt_cmpR op_lt (pe_callB call_len_str (by rfl) T.z_len (by decide +kernel) (pa_cons (pv 0) pa_nil)) pe_int (nomark _)) (pw_or1 (pt_cmpR op_gt (pe_callB call_len_str (by rfl) T.z_len (by decide +kernel) (pa_cons (pv 0) pa_nil)) pe_int (nomark _)))))) (pss_one (ps_ret pe_bl)) pss_nil)
    (pss_one (ps_ret (pe_cmpR (show OpR _ _ (rEqD K) from op_eqD hr.units) (pe_lc (own := [("_law_sign_here", 1)]) (g := (gName 1)) rfl nd (pi_str (pv 0)) (blkOk_by (own := [("_law_sign_here", 1)]) (N := N_l_name_due) (sc := defScope s_l_name_due) (by decide +kernel)) (fun _ _ _ _ _ => by exact (pg_name (i := 1) nd rfl (Or.inl rfl))) (fun _ _ _ _ _ => by exact (pts_one (pt_cmpR op_notIn_sign (pv 1) pe_str (by rfl)))) (fun _ _ _ _ _ => by exact (pv 1))) (pe_lst pa_nil) (nomark _))))), ?_⟩
  refine ⟨_, rfl, _, _, _, _, _, rfl, ClsV.ty _, TyX.base (.str _), kt_str_str, ?_⟩
  refine ⟨_, rfl, ?_⟩
  refine iteF' (c := !true) rfl ?_
  refine ⟨_, rfl, a, rfl, hsz, _, _, rfl, rfl, _, rfl, ?_⟩
  by_cases b1 : 1 ≤ a.length
  case neg =>
    have n1 : nameB a = false := by unfold nameB; rw [decide_eq_false b1]; rfl
    rw [n1] at q
    refine iteT' (decide_eq_true (by omega)) ?_
    exact q H (Same.refl _)
  refine iteF' (decide_eq_false (by omega)) ?_
  refine ⟨_, rfl, a, rfl, hsz, _, _, rfl, rfl, _, rfl, ?_⟩
  by_cases b2 : a.length ≤ 6
  case neg =>
    have n1 : nameB a = false := by unfold nameB; rw [decide_eq_false b2, Bool.false_and, Bool.and_false]
    rw [n1] at q
    refine iteT' (decide_eq_true (by omega)) ?_
    exact q H (Same.refl _)
  refine iteF' (decide_eq_false (by omega)) ?_
  have n1 : nameB a = allIn LET a := by unfold nameB; rw [decide_eq_true b1, decide_eq_true b2, Bool.true_and, Bool.true_and]
  rw [n1] at q
  refine ⟨_, rfl, a, rfl, fun D hD => ?_⟩
  refine lc_outs (Z := LET) (fun _ => rfl) (fun _ => rfl) hz hD fun H1 s1 hD1 => ?_
  refine ⟨(by show 0 ≤ sizeLine; decide), fun p hp => ?_⟩
  have s2 := Same.new (o := .lst []) hp
  refine ⟨_, _, .lst (SqL.of (s2 _ _ hD1)) (dpAll_strs _), .lst (SqL.of upd_same) .nil, shaped_lstS _ (outs_ok hok), shaped_nil, ?_⟩
  have eA : PyData.eqv (.list ((outs LET a).map PyData.str)) (.list []) = allIn LET a := by rw [eqv_lstS_nil, outs_nil]; rfl
  rw [eA]
  exact q _ (s1.trans s2)
/-- a fraction m·u / m·d, u and d without a common divisor -/
def spToneOf (K : PySem.W.Frag) : Sp := fun vs H Q _ => ∃ (x y : Nat), vs = [.int (x : Int), .int (y : Int)] ∧ 0 < y ∧ x < 2 ^ 8000 ∧ y < 2 ^ 8000 ∧ ∀ t H', Same H H' → SqT K H' t [.int ((x / Nat.gcd x y : Nat) : Int), .int ((y / Nat.gcd x y : Nat) : Int)] → Q (.ref t) H'
theorem ok_tone_of (T : Tx K mg) : FnOk P w K mg base CX0 1 T.f_tone_of T.d_tone_of ["over", "under"] (spToneOf K) := by
  refine T.F_tone_of.ok sc_tone_of (fun vs H Q E h => ?_) (fun cdv A outer s H vs Q E hr h => ?_)
  · obtain ⟨x, y, rfl, _⟩ := h
    rfl
  obtain ⟨x, y, rfl, hy, hx2, hy2, q⟩ := h
  have nd := sc_tone_of.nd
  have hg : 0 < Nat.gcd x y := Nat.gcd_pos_of_pos_right _ hy
  have hgl : Nat.gcd x y < 2 ^ 8000 := Nat.lt_of_le_of_lt (Nat.le_of_dvd hy (Nat.gcd_dvd_right x y)) hy2
  have hW : ∀ i : Int, CDivW i ((Nat.gcd x y : Nat) : Int) := fun i => wide_div (by omega) (by rw [Int.natAbs_natCast]; exact hgl) (by decide) (by decide)
  refine ⟨_, (pss_cons (ps_set (i := 2) nd rfl (Or.inl rfl) (pe_callBfun cr_gcd (by rfl) T.m_gcd (pa_cons (pv 0) (pa_cons (pv 1) pa_nil))))
    (pss_one (ps_ret (pe_tup (pa_cons (pe_op op_fdivW (pv 0) (pv 2)) (pa_cons (pe_op op_fdivW (pv 1) (pv 2)) pa_nil)))))), ?_⟩
  refine ⟨_, rfl, _, rfl, (x : Int), (y : Int), rfl, ?_⟩
  rw [Int.natAbs_natCast, Int.natAbs_natCast]
  refine ⟨_, rfl, _, rfl, _, _, rfl, rfl, hW _, _, rfl, _, rfl, _, _, rfl, rfl, hW _, (by show 2 ≤ sizeLine; decide), fun t ht => q t _ (Same.new ht) ?_⟩
  rw [Int.natCast_ediv, Int.natCast_ediv]
  exact SqT.of upd_same
theorem ok_l_low (T : Tx K mg) : FnOk P w K mg base CX0 2 T.f_l_low T.d_l_low ["_law_num", "_law_den"] (spToneOf K) := by
  have G_l_gcd := ok_l_gcd (P := P) (w := w) (base := base) T
  refine T.F_l_low.ok sc_l_low (fun vs H Q E h => ?_) (fun cdv A outer s H vs Q E hr h => ?_)
  · obtain ⟨x, y, rfl, _⟩ := h
    rfl
  obtain ⟨x, y, rfl, hy, hx2, hy2, q⟩ := h
  have nd := sc_l_low.nd
  have hg : 0 < Nat.gcd x y := Nat.gcd_pos_of_pos_right _ hy
  have hgl : Nat.gcd x y < 2 ^ 8000 := Nat.lt_of_le_of_lt (Nat.le_of_dvd hy (Nat.gcd_dvd_right x y)) hy2
  have hW : ∀ i : Int, CDivW i ((Nat.gcd x y : Nat) : Int) := fun i => wide_div (by omega) (by rw [Int.natAbs_natCast]; exact hgl) (by decide) (by decide)
  refine ⟨_, (pss_cons (ps_set (i := 2) nd rfl (Or.inl rfl) (pe_call G_l_gcd (hr.mono (by decide)) (by rfl) T.m_l_gcd T.F_l_gcd.kp T.b_l_gcd .nil pass0 (pa_cons (pv 0) (pa_cons (pv 1) pa_nil))))
    (pss_one (ps_ret (pe_tup (pa_cons (pe_op op_fdivW (pv 0) (pv 2)) (pa_cons (pe_op op_fdivW (pv 1) (pv 2)) pa_nil)))))), ?_⟩
  refine ⟨_, rfl, _, rfl, x, y, rfl, fun H1 s1 => ?_⟩
  refine ⟨_, rfl, _, rfl, _, _, rfl, rfl, hW _, _, rfl, _, rfl, _, _, rfl, rfl, hW _, (by show 2 ≤ sizeLine; decide), fun t ht => q t _ (s1.trans (Same.new ht)) ?_⟩
  rw [Int.natCast_ediv, Int.natCast_ediv]
  exact SqT.of upd_same
end
end TL
namespace TL
open PySem L2 PySem.NumText

/-! ### steps of a reading -/
local macro_rules | `(tactic| walk_at "hp") => `(tactic| first | assumption | exact upd_same | (refine (upd_ne (by first | assumption | (exact Ne.symm (by assumption)))).trans ?_; walk_at "hp"))
local macro_rules | `(tactic| walk_at "ok") => `(tactic| first | (exact Or.inr ⟨by decide, by decide⟩) | (exact ⟨by decide, by decide⟩) | (exact ⟨by decide, by decide, by decide⟩) | (show _ ≠ _; omega) | (show _ ≠ _; decide) | (exact Or.inl ⟨by omega, by omega⟩) | decide)
local macro_rules | `(tactic| walk_at "sq") => `(tactic| first | assumption | exact SqL.of (by walk_at "hp") | exact SqT.of (by walk_at "hp"))
local macro_rules | `(tactic| walk_at "ty") => `(tactic| first | refine ⟨_, _, Value.type "int", Value.type "list", false, rfl, ClsV.ty _, TyX.base (TyOf.int _), kt_int_list, ?_⟩ | refine ⟨_, _, Value.type "bool", Value.type "list", false, rfl, ClsV.ty _, TyX.base (TyOf.bl _), kt_bool_list, ?_⟩ | refine ⟨_, _, Value.type "str", Value.type "list", false, rfl, ClsV.ty _, TyX.base (TyOf.str _), kt_str_list, ?_⟩ | refine ⟨_, _, Value.type "NoneType", Value.type "list", false, rfl, ClsV.ty _, TyX.base TyOf.non, kt_NoneType_list, ?_⟩ | refine ⟨_, _, Value.type "list", Value.type "list", true, rfl, ClsV.ty _, tyx_L (by walk_at "sq"), kt_list_list, ?_⟩ | refine ⟨_, _, Value.type "tuple", Value.type "list", false, rfl, ClsV.ty _, tyx_T (by walk_at "sq"), kt_tuple_list, ?_⟩ | refine ⟨_, _, Value.type "int", Value.type "tuple", false, rfl, ClsV.ty _, TyX.base (TyOf.int _), kt_int_tuple, ?_⟩ | refine ⟨_, _, Value.type "bool", Value.type "tuple", false, rfl, ClsV.ty _, TyX.base (TyOf.bl _), kt_bool_tuple, ?_⟩ | refine ⟨_, _, Value.type "str", Value.type "tuple", false, rfl, ClsV.ty _, TyX.base (TyOf.str _), kt_str_tuple, ?_⟩ | refine ⟨_, _, Value.type "NoneType", Value.type "tuple", false, rfl, ClsV.ty _, TyX.base TyOf.non, kt_NoneType_tuple, ?_⟩ | refine ⟨_, _, Value.type "list", Value.type "tuple", false, rfl, ClsV.ty _, tyx_L (by walk_at "sq"), kt_list_tuple, ?_⟩ | refine ⟨_, _, Value.type "tuple", Value.type "tuple", true, rfl, ClsV.ty _, tyx_T (by walk_at "sq"), kt_tuple_tuple, ?_⟩ | refine ⟨_, _, Value.type "int", Value.type "bool", false, rfl, ClsV.ty _, TyX.base (TyOf.int _), kt_int_bool, ?_⟩ | refine ⟨_, _, Value.type "bool", Value.type "bool", true, rfl, ClsV.ty _, TyX.base (TyOf.bl _), kt_bool_bool, ?_⟩ | refine ⟨_, _, Value.type "str", Value.type "bool", false, rfl, ClsV.ty _, TyX.base (TyOf.str _), kt_str_bool, ?_⟩ | refine ⟨_, _, Value.type "NoneType", Value.type "bool", false, rfl, ClsV.ty _, TyX.base TyOf.non, kt_NoneType_bool, ?_⟩ | refine ⟨_, _, Value.type "list", Value.type "bool", false, rfl, ClsV.ty _, tyx_L (by walk_at "sq"), kt_list_bool, ?_⟩ | refine ⟨_, _, Value.type "tuple", Value.type "bool", false, rfl, ClsV.ty _, tyx_T (by walk_at "sq"), kt_tuple_bool, ?_⟩ | refine ⟨_, _, Value.type "int", Value.type "int", true, rfl, ClsV.ty _, TyX.base (TyOf.int _), kt_int_int, ?_⟩ | refine ⟨_, _, Value.type "bool", Value.type "int", true, rfl, ClsV.ty _, TyX.base (TyOf.bl _), kt_bool_int, ?_⟩ | refine ⟨_, _, Value.type "str", Value.type "int", false, rfl, ClsV.ty _, TyX.base (TyOf.str _), kt_str_int, ?_⟩ | refine ⟨_, _, Value.type "NoneType", Value.type "int", false, rfl, ClsV.ty _, TyX.base TyOf.non, kt_NoneType_int, ?_⟩ | refine ⟨_, _, Value.type "list", Value.type "int", false, rfl, ClsV.ty _, tyx_L (by walk_at "sq"), kt_list_int, ?_⟩ | refine ⟨_, _, Value.type "tuple", Value.type "int", false, rfl, ClsV.ty _, tyx_T (by walk_at "sq"), kt_tuple_int, ?_⟩ | refine ⟨_, _, Value.type "int", Value.type "str", false, rfl, ClsV.ty _, TyX.base (TyOf.int _), kt_int_str, ?_⟩ | refine ⟨_, _, Value.type "bool", Value.type "str", false, rfl, ClsV.ty _, TyX.base (TyOf.bl _), kt_bool_str, ?_⟩ | refine ⟨_, _, Value.type "str", Value.type "str", true, rfl, ClsV.ty _, TyX.base (TyOf.str _), kt_str_str, ?_⟩ | refine ⟨_, _, Value.type "NoneType", Value.type "str", false, rfl, ClsV.ty _, TyX.base TyOf.non, kt_NoneType_str, ?_⟩ | refine ⟨_, _, Value.type "list", Value.type "str", false, rfl, ClsV.ty _, tyx_L (by walk_at "sq"), kt_list_str, ?_⟩ | refine ⟨_, _, Value.type "tuple", Value.type "str", false, rfl, ClsV.ty _, tyx_T (by walk_at "sq"), kt_tuple_str, ?_⟩)
local macro_rules | `(tactic| walk_at "go1") => `(tactic| first
  | (refine ⟨_, rfl, ?_⟩)
  | (refine ⟨_, _, rfl, rfl, ?_⟩)
  | (refine ⟨_, _, _, _, rfl, rfl, SqL.of (by walk_at "hp"), rfl, ?_⟩)
  | (refine Or.inl ⟨_, rfl, ?_⟩)
  | (refine ⟨rfl, ?_⟩)
  | (refine ⟨_, _, rfl, .inl (SqL.of (by walk_at "hp")), ?_⟩)
  | (refine ⟨_, _, rfl, Or.inl (by assumption), ?_⟩)
  | (refine ⟨_, _, rfl, Or.inr (by assumption), ?_⟩)
  | (refine ⟨(by walk_at "ok"), ?_⟩)
  | (refine ⟨_, _, _, _, rfl, rfl, (by walk_at "hp"), rfl, ?_⟩))
local macro_rules | `(tactic| walk_at "go") => `(tactic| repeat (walk_at "go1"))
local macro_rules | `(tactic| walk_at "gt") => `(tactic| repeat (first | walk_at "go1" | walk_at "ty"))

section
variable {P : Program} {w : World} {K : PySem.W.Frag} {mg : Str → Option Value} {base : Heap}
-- [0=_law_bag_here, 1=_law_things] [0=_law_bag_here, 1=_law_signs] [0=_law_bag_here*, 1=_law_found, 2=_law_j, 3=_law_turn]
/-- a sign of a text -/
def spOfS : Sp := fun vs H Q _ => ∃ (B : Bg) (z : Str), vs = [.ref B.b, .str z] ∧ 0 < z.length ∧ z.length ≤ 1000 ∧ Bag B H ∧ ∀ (c : Nat) (H' : Hp), c ∈ z.cps.toList → Bag B H' → Kb B.b H H' → Q (.str ⟨#[c]⟩) H'
theorem ok_ofS (T : Tx K mg) : FnOk P w K mg base CX0 2 T.f_l_of T.d_l_of ["_law_bag_here", "_law_things"] spOfS := by
  have G_l_draw := ok_draw (P := P) (w := w) (base := base) T
  refine T.F_l_of.ok sc_l_of (fun vs H Q E h => ?_) (fun cdv A outer s H vs Q E hr h => ?_)
  · obtain ⟨B, z, rfl, _⟩ := h
    rfl
  obtain ⟨B, z, rfl, h0, hz, hB, q⟩ := h
  have nd := sc_l_of.nd
  have hsz : z.length ≤ sizeLine := Nat.le_trans hz (by decide)
  have hal : z.cps.toList.length = z.length := Array.length_toList
  refine ⟨_, (pss_one (ps_ret (pe_ix ix_str (pv 1) (pe_call G_l_draw hr (by rfl) T.m_l_draw T.F_l_draw.kp T.b_l_draw .nil pass0 (pa_cons (pv 0) (pa_cons (pe_callB call_len_str (by rfl) T.z_len (by decide +kernel) (pa_cons (pv 1) pa_nil)) pa_nil))) (fun _ _ => rfl)))), ?_⟩
  refine ⟨_, rfl, _, rfl, _, rfl, z, rfl, hsz, B, _, rfl, by omega, Nat.lt_of_le_of_lt (by omega : ((z.length : Int)).natAbs ≤ 1000) (by decide), hB, fun d H' d0 d1 hB' kb => ?_⟩
  obtain ⟨c, hc⟩ : ∃ c, z.cps.toList[d.toNat]? = some c := ⟨_, List.getElem?_eq_getElem (by omega)⟩
  refine ⟨z, d, c, rfl, rfl, hsz, ?_, q c H' (List.mem_of_getElem? hc) hB' kb⟩
  rw [show d = ((d.toNat : Nat) : Int) by omega]
  exact atI_nat hc
def SGN : Str := Str.ofString " !\"#$&'()*+,-./0123456789:;<=>?@ABCDEFGHIJKLMNOPQRSTUVWXYZ[\\]^_`abcdefghijklmnopqrstuvwxyz{|}~\n"
theorem ok_l_sign (T : Tx K mg) : FnOk P w K mg base CX0 3 T.f_l_sign T.d_l_sign ["_law_bag_here"] (fun vs H Q _ => ∃ (B : Bg), vs = [.ref B.b] ∧ Bag B H ∧ ∀ (c : Nat) (H' : Hp), c < 128 → Bag B H' → Kb B.b H H' → Q (.str ⟨#[c]⟩) H') := by
  have G_l_of := ok_ofS (P := P) (w := w) (base := base) T
  refine T.F_l_sign.ok sc_l_sign (fun vs H Q E h => ?_) (fun cdv A outer s H vs Q E hr h => ?_)
  · obtain ⟨B, rfl, _⟩ := h
    rfl
  obtain ⟨B, rfl, hB, q⟩ := h
  have nd := sc_l_sign.nd
  refine ⟨_, (pss_cons (ps_set (i := 1) nd rfl (Or.inl rfl) pe_str)
    (pss_one (ps_ret (pe_call G_l_of hr (by rfl) T.m_l_of T.F_l_of.kp T.b_l_of .nil pass0 (pa_cons (pv 0) (pa_cons (pv 1) pa_nil)))))), ?_⟩
  have hl : ∀ c ∈ SGN.cps.toList, c < 128 := by decide +kernel
  exact ⟨_, rfl, _, rfl, B, SGN, rfl, by decide +kernel, by decide +kernel, hB, fun c H' hc hB' kb => q c H' (hl c hc) hB' kb⟩
theorem FnOk.or2 {n : Nat} {f : Addr} {d : FuncData} {ps : List Str} {S1 S2 : Sp} (h1 : FnOk P w K mg base CX0 n f d ps S1) (h2 : FnOk P w K mg base CX0 n f d ps S2) : FnOk P w K mg base CX0 n f d ps (fun vs H Q E => S1 vs H Q E ∨ S2 vs H Q E) :=
  ⟨fun vs H Q E h => h.elim (h1.1 vs H Q E) (h2.1 vs H Q E), fun A outer s H args us vs Q E a b c e h => h.elim (h1.2 A outer s H args us vs Q E a b c e) (h2.2 A outer s H args us vs Q E a b c e)⟩
/-- a short text of plain signs -/
def Asc (n : Nat) (a : Str) : Prop := a.length ≤ n ∧ ∀ c ∈ a.cps.toList, c < 128
theorem joinL_sing : ∀ cs : List Nat, joinL [] (cs.map fun c => [c]) = cs
  | [] => rfl
  | [c] => rfl
  | c :: e :: cs => by
    have := joinL_sing (e :: cs)
    show [c] ++ [] ++ joinL [] ((e :: cs).map fun c => [c]) = _
    rw [this]
    rfl
theorem join_sing (cs : List Nat) : (Txt.join (Str.ofString "") (cs.map fun c => (⟨#[c]⟩ : Str))).cps.toList = cs := by
  rw [join_eq]
  show tl (Str.join (Str.ofString "") (cs.map fun c => (⟨#[c]⟩ : Str))) = cs
  rw [tl_join, List.map_map]
  exact joinL_sing cs
theorem asc_cut {n : Nat} {a : Str} (h : Asc n a) (lo hi : Option Int) : Asc n (cutS a lo hi) := ⟨Nat.le_trans (cut_len a lo hi) h.1, fun c hc => h.2 c (by
  unfold cutS at hc
  exact List.mem_of_mem_drop (List.mem_of_mem_take hc))⟩
theorem asc_app {n m : Nat} {a b : Str} (h : Asc n a) (k : Asc m b) : Asc (n + m) (a ++ b) := ⟨by
  rw [Str.length_append]
  exact Nat.add_le_add h.1 k.1, fun c hc => by
  have e : (a ++ b).cps.toList = a.cps.toList ++ b.cps.toList := Array.toList_append
  rw [e] at hc
  rcases List.mem_append.mp hc with z | z
  · exact h.2 c z
  · exact k.2 c z⟩
theorem Asc.le {n m : Nat} {a : Str} (h : Asc n a) (k : n ≤ m) : Asc m a := ⟨Nat.le_trans h.1 k, h.2⟩
theorem Asc.ok {n : Nat} {a : Str} (h : Asc n a) : PyData.strOk a = true := by
  show a.cps.all (· < 0x110000) = true
  rw [← Array.all_toList]
  exact List.all_eq_true.mpr fun c hc => decide_eq_true (Nat.lt_trans (h.2 c hc) (by decide))
theorem signs_of : ∀ ys : List V, (∀ y ∈ ys, ∃ c : Nat, y = V.str ⟨#[c]⟩ ∧ c < 128) → ∃ cs : List Nat, ys = cs.map (fun c => V.str ⟨#[c]⟩) ∧ cs.length = ys.length ∧ ∀ c ∈ cs, c < 128
  | [], _ => ⟨[], rfl, rfl, fun d h => by cases h⟩
  | y :: ys, h => by
    obtain ⟨d, rfl, hd⟩ := h y (List.mem_cons_self ..)
    obtain ⟨ns, rfl, hl, hn⟩ := signs_of ys fun z hz => h z (List.mem_cons_of_mem _ hz)
    refine ⟨d :: ns, rfl, by simp, fun x hx => ?_⟩
    rcases List.mem_cons.mp hx with rfl | hx
    · exact hd
    · exact hn x hx
theorem sum_sing : ∀ cs : List Nat, ((cs.map fun c => (⟨#[c]⟩ : Str)).map (·.length)).sum = cs.length
  | [] => rfl
  | c :: cs => by
    rw [List.map_cons, List.map_cons, List.sum_cons, sum_sing cs]
    show 1 + cs.length = cs.length + 1
    omega
def titles : List Str := ["self", "none", "nothing", "names", "undo", "line", "abcdef", "abcdefg", "a b", "A", "a1"].map Str.ofString
theorem titles_asc : ∀ a ∈ titles, Asc 30 a := fun a ha => by
  have h : ∀ a ∈ titles, a.length ≤ 30 ∧ ∀ c ∈ a.cps.toList, c < 128 := by decide +kernel
  exact h a ha
def spTitle : Sp := fun vs H Q _ => ∃ (B : Bg), vs = [.ref B.b] ∧ Bag B H ∧ ∀ a H', Asc 30 a → Bag B H' → Kb B.b H H' → Q (.str a) H'
theorem ok_l_title (T : Tx K mg) : FnOk P w K mg base CX0 4 T.f_l_title T.d_l_title ["_law_bag_here"] spTitle := by
  have G_l_draw := ok_draw (P := P) (w := w) (base := base) T
  have G_l_of := FnOk.or2 (ok_of (P := P) (w := w) (base := base) T) (ok_ofS (P := P) (w := w) (base := base) T)
  have G_l_sign := ok_l_sign (P := P) (w := w) (base := base) T
  refine T.F_l_title.ok sc_l_title (fun vs H Q E h => ?_) (fun cdv A outer s H vs Q E hr h => ?_)
  · obtain ⟨B, rfl, _⟩ := h
    rfl
  obtain ⟨B, rfl, hB, q⟩ := h
  have nd := sc_l_title.nd
  refine ⟨_, (pss_cons (ps_if (pt_cmpR op_eq (pe_call G_l_draw (hr.mono (by decide)) (by rfl) T.m_l_draw T.F_l_draw.kp T.b_l_draw .nil pass0 (pa_cons (pv 0) (pa_cons pe_int pa_nil))) pe_int (nomark _)) (pss_one (ps_ret (pe_call G_l_of (hr.mono (by decide)) (by rfl) T.m_l_of T.F_l_of.kp T.b_l_of .nil pass0 (pa_cons (pv 0) (pa_cons (pe_lst (pa_cons pe_str (pa_cons pe_str (pa_cons pe_str (pa_cons pe_str (pa_cons pe_str (pa_cons pe_str (pa_cons pe_str (pa_cons pe_str (pa_cons pe_str (pa_cons pe_str (pa_cons pe_str pa_nil)))))))))))) pa_nil))))) pss_nil)
    (pss_cons (ps_set (i := 1) nd rfl (Or.inl rfl) (pe_join pe_str (pe_lc (own := [("_law_turn", 3)]) (g := (gName 3)) rfl nd (pi_range1 (by rfl) T.z_range (pa_cons (pe_call G_l_draw (hr.mono (by decide)) (by rfl) T.m_l_draw T.F_l_draw.kp T.b_l_draw .nil pass0 (pa_cons (pv 0) (pa_cons pe_int pa_nil))) pa_nil)) (blkOk_by (own := [("_law_turn", 3)]) (N := N_l_title) (sc := defScope s_l_title) (by decide +kernel)) (fun _ _ _ _ _ => by exact (pg_name (i := 3) nd rfl (Or.inl rfl))) (fun _ _ _ _ _ => by exact pts_nil) (fun _ _ _ _ _ => by exact (pe_call G_l_of (hr.mono (by decide)) (by rfl) T.m_l_of T.F_l_of.kp T.b_l_of .nil pass0 (pa_cons (pv 0) (pa_cons pe_str pa_nil)))))))
    (pss_cons (ps_if (pt_cmpR op_eq (pe_call G_l_draw (hr.mono (by decide)) (by rfl) T.m_l_draw T.F_l_draw.kp T.b_l_draw .nil pass0 (pa_cons (pv 0) (pa_cons pe_int pa_nil))) pe_int (nomark _)) (pss_cons (ps_set (i := 2) nd rfl (Or.inl rfl) (pe_call G_l_draw (hr.mono (by decide)) (by rfl) T.m_l_draw T.F_l_draw.kp T.b_l_draw .nil pass0 (pa_cons (pv 0) (pa_cons (pe_op op_add (pe_callB call_len_str (by rfl) T.z_len (by decide +kernel) (pa_cons (pv 1) pa_nil)) pe_int) pa_nil))))
    (pss_one (ps_set (i := 1) nd rfl (Or.inl rfl) (pe_op op_add_str (pe_op op_add_str (pe_slice sl_str (pv 1) po_none (po_some (pv 2))) (pe_call G_l_sign (hr.mono (by decide)) (by rfl) T.m_l_sign T.F_l_sign.kp T.b_l_sign .nil pass0 (pa_cons (pv 0) pa_nil))) (pe_slice sl_str (pv 1) (po_some (pe_op op_add (pv 2) (pe_call G_l_draw (hr.mono (by decide)) (by rfl) T.m_l_draw T.F_l_draw.kp T.b_l_draw .nil pass0 (pa_cons (pv 0) (pa_cons pe_int pa_nil))))) po_none))))) pss_nil)
    (pss_one (ps_ret (pv 1)))))), ?_⟩
  refine ⟨_, rfl, B, 8, rfl, by decide, by decide, hB, fun d H1 d0 d1 hB1 kb1 => ⟨rfl, _, rfl, ?_⟩⟩
  refine ite2 (fun c => ?_) (fun c => ?_)
  · refine ⟨_, rfl, (by show 11 ≤ sizeLine; decide), fun p hp => .inl ⟨B, p, titles.map V.str, rfl, SqL.of upd_same, hB1.nb hp, by decide, by decide, hB1.same (Same.new hp), fun i v H2 hv hB2 kb2 => ?_⟩⟩
    obtain ⟨a, ha, rfl⟩ := List.mem_map.mp (List.mem_of_getElem? hv)
    exact q a H2 (titles_asc a ha) hB2 ((kb1.trans (Kb.same (Same.new hp))).trans kb2)
  refine ⟨⟨_, rfl⟩, ?_⟩
  refine ⟨_, rfl, B, 9, rfl, by decide, by decide, hB1, fun n H2 n0 n1 hB2 kb2 => ?_⟩
  obtain ⟨m, rfl⟩ := Int.eq_ofNat_of_zero_le n0
  refine ⟨(m : Int), rfl, by omega, Int.lt_trans n1 (by decide), fun D hD => ?_⟩
  refine lcb (walk_range (lo := 0) (n := (m : Int).toNat)) (fun y => ∃ c : Nat, y = .str ⟨#[c]⟩ ∧ c < 128) (by omega) hB2 hD (fun _ _ => trivial) ?_ ?_
  · rintro j y H5 H6 hj kb7 hB6 ⟨rfl, rfl⟩ k hk
    refine ⟨rfl, ?_⟩
    have hl : ∀ c ∈ LET.cps.toList, c < 128 := by decide +kernel
    exact ⟨_, rfl, .inr ⟨B, LET, rfl, by decide +kernel, by decide +kernel, hB6, fun c H7 hc hB7 kb8 => hk _ H7 ⟨c, rfl, hl c hc⟩ kb8 hB7⟩⟩
  intro ys H3 hl hys kb3 hB3 hD3
  obtain ⟨cs, rfl, hcl, hcs⟩ := signs_of ys hys
  rw [Int.toNat_natCast] at hl
  have hjs := join_sing cs
  have hj8 : Asc 8 (Txt.join (Str.ofString "") (cs.map fun c => (⟨#[c]⟩ : Str))) := ⟨by
    have e : (Txt.join (Str.ofString "") (cs.map fun c => (⟨#[c]⟩ : Str))).cps.toList.length = cs.length := by rw [hjs]
    have e2 : (Txt.join (Str.ofString "") (cs.map fun c => (⟨#[c]⟩ : Str))).cps.toList.length = (Txt.join (Str.ofString "") (cs.map fun c => (⟨#[c]⟩ : Str))).length := Array.length_toList
    rw [← e2, e]
    omega, fun c hc => hcs c (by rw [hjs] at hc; exact hc)⟩
  refine ⟨_, D, cs.map fun c => (⟨#[c]⟩ : Str), rfl, rfl, .inl (SqL.of (by rw [hD3, List.map_map]; rfl)), by rw [sum_sing, List.length_map]; show cs.length + cs.length * 0 ≤ _; omega, ?_⟩
  generalize Txt.join (Str.ofString "") (cs.map fun c => (⟨#[c]⟩ : Str)) = f at *
  clear hjs
  have kb13 := (kb1.trans kb2).trans kb3
  refine ⟨_, rfl, B, 3, rfl, by decide, by decide, hB3, fun d3 H4 d30 d31 hB4 kb4 => ⟨rfl, _, rfl, ?_⟩⟩
  have hfz : f.length ≤ sizeLine := Nat.le_trans hj8.1 (by decide)
  refine ite2 (fun c => ?_) (fun c => ?_)
  · have hf8 := hj8.1
    refine ⟨_, rfl, _, rfl, f, rfl, hfz, _, _, rfl, rfl, B, _, rfl, by omega, Nat.lt_of_le_of_lt (by omega : ((f.length : Int) + 1).natAbs ≤ 9) (by decide), hB4, fun j H5 j0 j1 hB5 kb5 => ?_⟩
    refine ⟨_, rfl, _, rfl, j, rfl, f, rfl, hfz, ?_⟩
    refine ⟨_, rfl, B, rfl, hB5, fun sc H6 hsc hB6 kb6 => ?_⟩
    have a1 := asc_cut hj8 none (some j)
    have as : Asc 1 (⟨#[sc]⟩ : Str) := ⟨Nat.le_refl 1, fun c hc => by
      have : c = sc := by simpa using hc
      rw [this]
      exact hsc⟩
    have a2 := asc_app a1 as
    refine ⟨_, _, rfl, rfl, Nat.le_trans (Nat.add_le_add a1.1 as.1) (by decide), ?_⟩
    refine ⟨_, rfl, _, rfl, _, rfl, B, 2, rfl, by decide, by decide, hB6, fun k H7 k0 k1 hB7 kb7 => ⟨_, _, rfl, rfl, _, rfl, f, rfl, hfz, ?_⟩⟩
    have a3 := asc_cut hj8 (some (j + k)) none
    refine ⟨_, _, rfl, rfl, Nat.le_trans (Nat.add_le_add a2.1 a3.1) (by decide), ?_⟩
    exact ⟨_, rfl, q _ H7 ((asc_app a2 a3).le (by decide)) hB7 ((((kb13.trans kb4).trans kb5).trans kb6).trans kb7)⟩
  · exact ⟨_, rfl, q f H4 (hj8.le (by decide)) hB4 (kb13.trans kb4)⟩
end
end TL
namespace TL
open PySem L2 PySem.NumText

/-! ### steps of a reading -/
local macro_rules | `(tactic| walk_at "hp") => `(tactic| first | assumption | exact upd_same | (refine (upd_ne (by first | assumption | (exact Ne.symm (by assumption)))).trans ?_; walk_at "hp"))
local macro_rules | `(tactic| walk_at "ok") => `(tactic| first | (exact Or.inr ⟨by decide, by decide⟩) | (exact ⟨by decide, by decide⟩) | (exact ⟨by decide, by decide, by decide⟩) | (show _ ≠ _; omega) | (show _ ≠ _; decide) | (exact Or.inl ⟨by omega, by omega⟩) | decide)
local macro_rules | `(tactic| walk_at "sq") => `(tactic| first | assumption | exact SqL.of (by walk_at "hp") | exact SqT.of (by walk_at "hp"))
local macro_rules | `(tactic| walk_at "ty") => `(tactic| first | refine ⟨_, _, Value.type "int", Value.type "list", false, rfl, ClsV.ty _, TyX.base (TyOf.int _), kt_int_list, ?_⟩ | refine ⟨_, _, Value.type "bool", Value.type "list", false, rfl, ClsV.ty _, TyX.base (TyOf.bl _), kt_bool_list, ?_⟩ | refine ⟨_, _, Value.type "str", Value.type "list", false, rfl, ClsV.ty _, TyX.base (TyOf.str _), kt_str_list, ?_⟩ | refine ⟨_, _, Value.type "NoneType", Value.type "list", false, rfl, ClsV.ty _, TyX.base TyOf.non, kt_NoneType_list, ?_⟩ | refine ⟨_, _, Value.type "list", Value.type "list", true, rfl, ClsV.ty _, tyx_L (by walk_at "sq"), kt_list_list, ?_⟩ | refine ⟨_, _, Value.type "tuple", Value.type "list", false, rfl, ClsV.ty _, tyx_T (by walk_at "sq"), kt_tuple_list, ?_⟩ | refine ⟨_, _, Value.type "int", Value.type "tuple", false, rfl, ClsV.ty _, TyX.base (TyOf.int _), kt_int_tuple, ?_⟩ | refine ⟨_, _, Value.type "bool", Value.type "tuple", false, rfl, ClsV.ty _, TyX.base (TyOf.bl _), kt_bool_tuple, ?_⟩ | refine ⟨_, _, Value.type "str", Value.type "tuple", false, rfl, ClsV.ty _, TyX.base (TyOf.str _), kt_str_tuple, ?_⟩ | refine ⟨_, _, Value.type "NoneType", Value.type "tuple", false, rfl, ClsV.ty _, TyX.base TyOf.non, kt_NoneType_tuple, ?_⟩ | refine ⟨_, _, Value.type "list", Value.type "tuple", false, rfl, ClsV.ty _, tyx_L (by walk_at "sq"), kt_list_tuple, ?_⟩ | refine ⟨_, _, Value.type "tuple", Value.type "tuple", true, rfl, ClsV.ty _, tyx_T (by walk_at "sq"), kt_tuple_tuple, ?_⟩ | refine ⟨_, _, Value.type "int", Value.type "bool", false, rfl, ClsV.ty _, TyX.base (TyOf.int _), kt_int_bool, ?_⟩ | refine ⟨_, _, Value.type "bool", Value.type "bool", true, rfl, ClsV.ty _, TyX.base (TyOf.bl _), kt_bool_bool, ?_⟩ | refine ⟨_, _, Value.type "str", Value.type "bool", false, rfl, ClsV.ty _, TyX.base (TyOf.str _), kt_str_bool, ?_⟩ | refine ⟨_, _, Value.type "NoneType", Value.type "bool", false, rfl, ClsV.ty _, TyX.base TyOf.non, kt_NoneType_bool, ?_⟩ | refine ⟨_, _, Value.type "list", Value.type "bool", false, rfl, ClsV.ty _, tyx_L (by walk_at "sq"), kt_list_bool, ?_⟩ | refine ⟨_, _, Value.type "tuple", Value.type "bool", false, rfl, ClsV.ty _, tyx_T (by walk_at "sq"), kt_tuple_bool, ?_⟩ | refine ⟨_, _, Value.type "int", Value.type "int", true, rfl, ClsV.ty _, TyX.base (TyOf.int _), kt_int_int, ?_⟩ | refine ⟨_, _, Value.type "bool", Value.type "int", true, rfl, ClsV.ty _, TyX.base (TyOf.bl _), kt_bool_int, ?_⟩ | refine ⟨_, _, Value.type "str", Value.type "int", false, rfl, ClsV.ty _, TyX.base (TyOf.str _), kt_str_int, ?_⟩ | refine ⟨_, _, Value.type "NoneType", Value.type "int", false, rfl, ClsV.ty _, TyX.base TyOf.non, kt_NoneType_int, ?_⟩ | refine ⟨_, _, Value.type "list", Value.type "int", false, rfl, ClsV.ty _, tyx_L (by walk_at "sq"), kt_list_int, ?_⟩ | refine ⟨_, _, Value.type "tuple", Value.type "int", false, rfl, ClsV.ty _, tyx_T (by walk_at "sq"), kt_tuple_int, ?_⟩ | refine ⟨_, _, Value.type "int", Value.type "str", false, rfl, ClsV.ty _, TyX.base (TyOf.int _), kt_int_str, ?_⟩ | refine ⟨_, _, Value.type "bool", Value.type "str", false, rfl, ClsV.ty _, TyX.base (TyOf.bl _), kt_bool_str, ?_⟩ | refine ⟨_, _, Value.type "str", Value.type "str", true, rfl, ClsV.ty _, TyX.base (TyOf.str _), kt_str_str, ?_⟩ | refine ⟨_, _, Value.type "NoneType", Value.type "str", false, rfl, ClsV.ty _, TyX.base TyOf.non, kt_NoneType_str, ?_⟩ | refine ⟨_, _, Value.type "list", Value.type "str", false, rfl, ClsV.ty _, tyx_L (by walk_at "sq"), kt_list_str, ?_⟩ | refine ⟨_, _, Value.type "tuple", Value.type "str", false, rfl, ClsV.ty _, tyx_T (by walk_at "sq"), kt_tuple_str, ?_⟩)
local macro_rules | `(tactic| walk_at "go1") => `(tactic| first
  | (refine ⟨_, rfl, ?_⟩)
  | (refine ⟨_, _, rfl, rfl, ?_⟩)
  | (refine ⟨_, _, _, _, rfl, rfl, SqL.of (by walk_at "hp"), rfl, ?_⟩)
  | (refine Or.inl ⟨_, rfl, ?_⟩)
  | (refine ⟨rfl, ?_⟩)
  | (refine ⟨_, _, rfl, .inl (SqL.of (by walk_at "hp")), ?_⟩)
  | (refine ⟨_, _, rfl, Or.inl (by assumption), ?_⟩)
  | (refine ⟨_, _, rfl, Or.inr (by assumption), ?_⟩)
  | (refine ⟨(by walk_at "ok"), ?_⟩)
  | (refine ⟨_, _, _, _, rfl, rfl, (by walk_at "hp"), rfl, ?_⟩))
local macro_rules | `(tactic| walk_at "go") => `(tactic| repeat (walk_at "go1"))
local macro_rules | `(tactic| walk_at "gt") => `(tactic| repeat (first | walk_at "go1" | walk_at "ty"))

section
variable {P : Program} {w : World} {K : PySem.W.Frag} {mg : Str → Option Value} {base : Heap}
-- [0=value, 1=letter] [0=_law_thing, 1=_law_sign_here] [0=text, 1=head, 2=slash, 3=tail, 4=over, 5=under] [0=_law_told, 1=_law_j, 2=_law_num, 3=_law_den]
/-- a value that is no text -/
def NoStr (K : PySem.W.Frag) (H : Hp) (v : V) : Prop := ∃ t, TyX K H v t ∧ PySem.W.kitOne K t (.type "str") = some false
theorem ok_is_nameN (T : Tx K mg) : FnOk P w K mg base CX0 1 T.f_is_name T.d_is_name ["value"] (fun vs H Q _ => ∃ v, vs = [v] ∧ NoStr K H v ∧ Q (.bl false) H) := by
  refine T.F_is_name.ok sc_is_name (fun vs H Q E h => ?_) (fun cdv A outer s H vs Q E hr h => ?_)
  · obtain ⟨a, rfl, _⟩ := h
    rfl
  obtain ⟨v, rfl, ⟨t, ht, hk⟩, q⟩ := h
  have nd := sc_is_name.nd
  refine ⟨_, (pss_cons (ps_if (PW.pt (pw_or (pt_not (pt_val (pe_callB (show CallR _ _ (rIsi K) from call_isi) (by rfl) T.z_isinstance (by decide +kernel) (pa_cons (pv 0) (pa_cons (pe_bltn (v := .ty "str") (u := .type "str") (by rfl) T.z_str (by decide +kernel) rfl) pa_nil))))) (pw_or1 (pt_not (pt_chain op_le op_le pe_int (pe_callB call_len_str (by rfl) T.z_len (by decide +kernel) (pa_cons (pv 0) pa_nil)) (pe_glob (v := .int 6) (by rfl) T.m_MOST_LETTERS ⟨_, rfl⟩)))))) (pss_one (ps_ret pe_bl)) pss_nil)
    (pss_one (ps_ret (pe_callB (show CallR _ _ (rAll K) from cr_all rfl) (by rfl) T.z_all (by decide +kernel) (pa_cons (pe_lc (own := [("letter", 1)]) (g := (gName 1)) rfl nd (pi_str (pv 0)) (blkOk_by (own := [("letter", 1)]) (N := N_is_name) (sc := defScope s_is_name) (by decide +kernel)) (fun _ _ _ _ _ => by exact (pg_name (i := 1) nd rfl (Or.inl rfl))) (fun _ _ _ _ _ => by exact pts_nil) (fun _ _ _ _ _ => by exact (pe_cmpR op_in_sign (pv 1) (pe_glob (v := .str (Str.ofString "abcdefghijklmnopqrstuvwxyz")) (by rfl) T.m_LETTERS ⟨_, rfl⟩) (by rfl)))) pa_nil))))), ?_⟩
  refine ⟨_, rfl, _, _, _, _, _, rfl, ClsV.ty _, ht, hk, ?_⟩
  exact ⟨_, rfl, iteT' (c := !false) rfl q⟩
theorem ok_l_name_dueN (T : Tx K mg) : FnOk P w K mg base CX0 1 T.f_l_name_due T.d_l_name_due ["_law_thing"] (fun vs H Q _ => ∃ v, vs = [v] ∧ NoStr K H v ∧ Q (.bl false) H) := by
  refine T.F_l_name_due.ok sc_l_name_due (fun vs H Q E h => ?_) (fun cdv A outer s H vs Q E hr h => ?_)
  · obtain ⟨a, rfl, _⟩ := h
    rfl
  obtain ⟨v, rfl, ⟨t, ht, hk⟩, q⟩ := h
  have nd := sc_l_name_due.nd
  refine ⟨_, (pss_cons (ps_if (PW.pt (pw_or (pt_not (pt_val (pe_callB (show CallR _ _ (rIsi K) from call_isi) (by rfl) T.z_isinstance (by decide +kernel) (pa_cons (pv 0) (pa_cons (pe_bltn (v := .ty "str") (u := .type "str") (by rfl) T.z_str (by decide +kernel) rfl) pa_nil))))) (pw_or (pt_cmpR op_lt (pe_callB call_len_str (by rfl) T.z_len (by decide +kernel) (pa_cons (pv 0) pa_nil)) pe_int (nomark _)) (pw_or1 (pt_cmpR op_gt (pe_callB call_len_str (by rfl) T.z_len (by decide +kernel) (pa_cons (pv 0) pa_nil)) pe_int (nomark _)))))) (pss_one (ps_ret pe_bl)) pss_nil)
    (pss_one (ps_ret (pe_cmpR (show OpR _ _ (rEqD K) from op_eqD hr.units) (pe_lc (own := [("_law_sign_here", 1)]) (g := (gName 1)) rfl nd (pi_str (pv 0)) (blkOk_by (own := [("_law_sign_here", 1)]) (N := N_l_name_due) (sc := defScope s_l_name_due) (by decide +kernel)) (fun _ _ _ _ _ => by exact (pg_name (i := 1) nd rfl (Or.inl rfl))) (fun _ _ _ _ _ => by exact (pts_one (pt_cmpR op_notIn_sign (pv 1) pe_str (by rfl)))) (fun _ _ _ _ _ => by exact (pv 1))) (pe_lst pa_nil) (nomark _))))), ?_⟩
  refine ⟨_, rfl, _, _, _, _, _, rfl, ClsV.ty _, ht, hk, ?_⟩
  exact ⟨_, rfl, iteT' (c := !false) rfl q⟩
theorem ok_read_toneN (T : Tx K mg) : FnOk P w K mg base CX0 2 T.f_read_tone T.d_read_tone ["text"] (fun vs H Q _ => ∃ v, vs = [v] ∧ NoStr K H v ∧ Q .non H) := by
  have G__read_number := ok_read_number (P := P) (w := w) (base := base) T
  refine T.F_read_tone.ok sc_read_tone (fun vs H Q E h => ?_) (fun cdv A outer s H vs Q E hr h => ?_)
  · obtain ⟨a, rfl, _⟩ := h
    rfl
  obtain ⟨v, rfl, ⟨t, ht, hk⟩, q⟩ := h
  have nd := sc_read_tone.nd
  refine ⟨_, (pss_cons (ps_if (pt_not (pt_val (pe_callB (show CallR _ _ (rIsi K) from call_isi) (by rfl) T.z_isinstance (by decide +kernel) (pa_cons (pv 0) (pa_cons (pe_bltn (v := .ty "str") (u := .type "str") (by rfl) T.z_str (by decide +kernel) rfl) pa_nil))))) (pss_one (ps_ret pe_non)) pss_nil)
    (pss_cons (ps_asg (pe_partition (pv 0) pe_str) (pg_tup rfl (pgs_cons (pg_name (i := 1) nd rfl (Or.inl rfl)) (pgs_cons (pg_name (i := 2) nd rfl (Or.inl rfl)) (pgs_cons (pg_name (i := 3) nd rfl (Or.inl rfl)) pgs_nil)))))
    (pss_cons (ps_set (i := 4) nd rfl (Or.inl rfl) (pe_call G__read_number (hr.mono (by decide)) (by rfl) T.m__read_number T.F__read_number.kp T.b__read_number .nil pass0 (pa_cons (pv 1) pa_nil)))
    (pss_cons (ps_if (pt_cmpR op_isN (pv 4) pe_non (nomark _)) (pss_one (ps_ret pe_non)) pss_nil)
    (pss_cons (ps_if (pt_cmpR op_eq (pv 2) pe_str (nomark _)) (pss_one (ps_ret (pe_tup (pa_cons (pv 4) (pa_cons pe_int pa_nil))))) pss_nil)
    (pss_cons (ps_set (i := 5) nd rfl (Or.inl rfl) (pe_call G__read_number (hr.mono (by decide)) (by rfl) T.m__read_number T.F__read_number.kp T.b__read_number .nil pass0 (pa_cons (pv 3) pa_nil)))
    (pss_cons (ps_if (PW.pt (pw_or (pt_cmpR op_isN (pv 5) pe_non (nomark _)) (pw_or (pt_cmpR op_eq (pv 5) pe_int (nomark _)) (pw_or1 (pt_cmpR op_ne (pe_callBfun cr_gcd (by rfl) T.m_gcd (pa_cons (pv 4) (pa_cons (pv 5) pa_nil))) pe_int (nomark _)))))) (pss_one (ps_ret pe_non)) pss_nil)
    (pss_one (ps_ret (pe_tup (pa_cons (pv 4) (pa_cons (pv 5) pa_nil)))))))))))), ?_⟩
  refine ⟨_, rfl, _, _, _, _, _, rfl, ClsV.ty _, ht, hk, ?_⟩
  exact ⟨_, rfl, iteT' (c := !false) rfl q⟩
theorem ok_l_readN (T : Tx K mg) : FnOk P w K mg base CX0 2 T.f_l_read T.d_l_read ["_law_told"] (fun vs H Q _ => ∃ v, vs = [v] ∧ NoStr K H v ∧ Q .non H) := by
  have G_l_whole := ok_l_whole (P := P) (w := w) (base := base) T
  have G_l_gcd := ok_l_gcd (P := P) (w := w) (base := base) T
  refine T.F_l_read.ok sc_l_read (fun vs H Q E h => ?_) (fun cdv A outer s H vs Q E hr h => ?_)
  · obtain ⟨a, rfl, _⟩ := h
    rfl
  obtain ⟨v, rfl, ⟨t, ht, hk⟩, q⟩ := h
  have nd := sc_l_read.nd
  refine ⟨_, (pss_cons (ps_if (pt_not (pt_val (pe_callB (show CallR _ _ (rIsi K) from call_isi) (by rfl) T.z_isinstance (by decide +kernel) (pa_cons (pv 0) (pa_cons (pe_bltn (v := .ty "str") (u := .type "str") (by rfl) T.z_str (by decide +kernel) rfl) pa_nil))))) (pss_one (ps_ret pe_non)) pss_nil)
    (pss_cons (ps_set (i := 1) nd rfl (Or.inl rfl) (pe_m1 PySem.F.slot_str_find PySem.F.type_str_find mt_find (pv 0) pe_str))
    (pss_cons (ps_if (pt_cmpR op_lt (pv 1) pe_int (nomark _)) (pss_cons (ps_set (i := 2) nd rfl (Or.inl rfl) (pe_call G_l_whole (hr.mono (by decide)) (by rfl) T.m_l_whole T.F_l_whole.kp T.b_l_whole .nil pass0 (pa_cons (pv 0) pa_nil)))
    (pss_one (ps_ret (pe_ifExp (pt_cmpR op_isN (pv 2) pe_non (nomark _)) pe_non (pe_tup (pa_cons (pv 2) (pa_cons pe_int pa_nil))))))) pss_nil)
    (pss_cons (ps_par (i := 2) (j := 3) rfl nd rfl rfl (by decide) rfl rfl (pa_cons (pe_call G_l_whole (hr.mono (by decide)) (by rfl) T.m_l_whole T.F_l_whole.kp T.b_l_whole .nil pass0 (pa_cons (pe_slice sl_str (pv 0) po_none (po_some (pv 1))) pa_nil)) (pa_cons (pe_call G_l_whole (hr.mono (by decide)) (by rfl) T.m_l_whole T.F_l_whole.kp T.b_l_whole .nil pass0 (pa_cons (pe_slice sl_str (pv 0) (po_some (pe_op op_add (pv 1) pe_int)) po_none) pa_nil)) pa_nil)) rfl)
    (pss_cons (ps_if (PW.pt (pw_or (pt_cmpR op_isN (pv 2) pe_non (nomark _)) (pw_or (pt_cmpR op_isN (pv 3) pe_non (nomark _)) (pw_or (pt_cmpR op_eq (pv 3) pe_int (nomark _)) (pw_or1 (pt_cmpR op_ne (pe_call G_l_gcd (hr.mono (by decide)) (by rfl) T.m_l_gcd T.F_l_gcd.kp T.b_l_gcd .nil pass0 (pa_cons (pv 2) (pa_cons (pv 3) pa_nil))) pe_int (nomark _))))))) (pss_one (ps_ret pe_non)) pss_nil)
    (pss_one (ps_ret (pe_tup (pa_cons (pv 2) (pa_cons (pv 3) pa_nil)))))))))), ?_⟩
  refine ⟨_, rfl, _, _, _, _, _, rfl, ClsV.ty _, ht, hk, ?_⟩
  exact ⟨_, rfl, iteT' (c := !false) rfl q⟩
end
end TL
namespace TL
open PySem L2 PySem.NumText

/-! ### steps of a reading -/
local macro_rules | `(tactic| walk_at "hp") => `(tactic| first | assumption | exact upd_same | (refine (upd_ne (by first | assumption | (exact Ne.symm (by assumption)))).trans ?_; walk_at "hp"))
local macro_rules | `(tactic| walk_at "ok") => `(tactic| first | (exact Or.inr ⟨by decide, by decide⟩) | (exact ⟨by decide, by decide⟩) | (exact ⟨by decide, by decide, by decide⟩) | (show _ ≠ _; omega) | (show _ ≠ _; decide) | (exact Or.inl ⟨by omega, by omega⟩) | decide)
local macro_rules | `(tactic| walk_at "sq") => `(tactic| first | assumption | exact SqL.of (by walk_at "hp") | exact SqT.of (by walk_at "hp"))
local macro_rules | `(tactic| walk_at "ty") => `(tactic| first | refine ⟨_, _, Value.type "int", Value.type "list", false, rfl, ClsV.ty _, TyX.base (TyOf.int _), kt_int_list, ?_⟩ | refine ⟨_, _, Value.type "bool", Value.type "list", false, rfl, ClsV.ty _, TyX.base (TyOf.bl _), kt_bool_list, ?_⟩ | refine ⟨_, _, Value.type "str", Value.type "list", false, rfl, ClsV.ty _, TyX.base (TyOf.str _), kt_str_list, ?_⟩ | refine ⟨_, _, Value.type "NoneType", Value.type "list", false, rfl, ClsV.ty _, TyX.base TyOf.non, kt_NoneType_list, ?_⟩ | refine ⟨_, _, Value.type "list", Value.type "list", true, rfl, ClsV.ty _, tyx_L (by walk_at "sq"), kt_list_list, ?_⟩ | refine ⟨_, _, Value.type "tuple", Value.type "list", false, rfl, ClsV.ty _, tyx_T (by walk_at "sq"), kt_tuple_list, ?_⟩ | refine ⟨_, _, Value.type "int", Value.type "tuple", false, rfl, ClsV.ty _, TyX.base (TyOf.int _), kt_int_tuple, ?_⟩ | refine ⟨_, _, Value.type "bool", Value.type "tuple", false, rfl, ClsV.ty _, TyX.base (TyOf.bl _), kt_bool_tuple, ?_⟩ | refine ⟨_, _, Value.type "str", Value.type "tuple", false, rfl, ClsV.ty _, TyX.base (TyOf.str _), kt_str_tuple, ?_⟩ | refine ⟨_, _, Value.type "NoneType", Value.type "tuple", false, rfl, ClsV.ty _, TyX.base TyOf.non, kt_NoneType_tuple, ?_⟩ | refine ⟨_, _, Value.type "list", Value.type "tuple", false, rfl, ClsV.ty _, tyx_L (by walk_at "sq"), kt_list_tuple, ?_⟩ | refine ⟨_, _, Value.type "tuple", Value.type "tuple", true, rfl, ClsV.ty _, tyx_T (by walk_at "sq"), kt_tuple_tuple, ?_⟩ | refine ⟨_, _, Value.type "int", Value.type "bool", false, rfl, ClsV.ty _, TyX.base (TyOf.int _), kt_int_bool, ?_⟩ | refine ⟨_, _, Value.type "bool", Value.type "bool", true, rfl, ClsV.ty _, TyX.base (TyOf.bl _), kt_bool_bool, ?_⟩ | refine ⟨_, _, Value.type "str", Value.type "bool", false, rfl, ClsV.ty _, TyX.base (TyOf.str _), kt_str_bool, ?_⟩ | refine ⟨_, _, Value.type "NoneType", Value.type "bool", false, rfl, ClsV.ty _, TyX.base TyOf.non, kt_NoneType_bool, ?_⟩ | refine ⟨_, _, Value.type "list", Value.type "bool", false, rfl, ClsV.ty _, tyx_L (by walk_at "sq"), kt_list_bool, ?_⟩ | refine ⟨_, _, Value.type "tuple", Value.type "bool", false, rfl, ClsV.ty _, tyx_T (by walk_at "sq"), kt_tuple_bool, ?_⟩ | refine ⟨_, _, Value.type "int", Value.type "int", true, rfl, ClsV.ty _, TyX.base (TyOf.int _), kt_int_int, ?_⟩ | refine ⟨_, _, Value.type "bool", Value.type "int", true, rfl, ClsV.ty _, TyX.base (TyOf.bl _), kt_bool_int, ?_⟩ | refine ⟨_, _, Value.type "str", Value.type "int", false, rfl, ClsV.ty _, TyX.base (TyOf.str _), kt_str_int, ?_⟩ | refine ⟨_, _, Value.type "NoneType", Value.type "int", false, rfl, ClsV.ty _, TyX.base TyOf.non, kt_NoneType_int, ?_⟩ | refine ⟨_, _, Value.type "list", Value.type "int", false, rfl, ClsV.ty _, tyx_L (by walk_at "sq"), kt_list_int, ?_⟩ | refine ⟨_, _, Value.type "tuple", Value.type "int", false, rfl, ClsV.ty _, tyx_T (by walk_at "sq"), kt_tuple_int, ?_⟩ | refine ⟨_, _, Value.type "int", Value.type "str", false, rfl, ClsV.ty _, TyX.base (TyOf.int _), kt_int_str, ?_⟩ | refine ⟨_, _, Value.type "bool", Value.type "str", false, rfl, ClsV.ty _, TyX.base (TyOf.bl _), kt_bool_str, ?_⟩ | refine ⟨_, _, Value.type "str", Value.type "str", true, rfl, ClsV.ty _, TyX.base (TyOf.str _), kt_str_str, ?_⟩ | refine ⟨_, _, Value.type "NoneType", Value.type "str", false, rfl, ClsV.ty _, TyX.base TyOf.non, kt_NoneType_str, ?_⟩ | refine ⟨_, _, Value.type "list", Value.type "str", false, rfl, ClsV.ty _, tyx_L (by walk_at "sq"), kt_list_str, ?_⟩ | refine ⟨_, _, Value.type "tuple", Value.type "str", false, rfl, ClsV.ty _, tyx_T (by walk_at "sq"), kt_tuple_str, ?_⟩)
local macro_rules | `(tactic| walk_at "go1") => `(tactic| first
  | (refine ⟨_, rfl, ?_⟩)
  | (refine ⟨_, _, rfl, rfl, ?_⟩)
  | (refine ⟨_, _, _, _, rfl, rfl, SqL.of (by walk_at "hp"), rfl, ?_⟩)
  | (refine Or.inl ⟨_, rfl, ?_⟩)
  | (refine ⟨rfl, ?_⟩)
  | (refine ⟨_, _, rfl, .inl (SqL.of (by walk_at "hp")), ?_⟩)
  | (refine ⟨_, _, rfl, Or.inl (by assumption), ?_⟩)
  | (refine ⟨_, _, rfl, Or.inr (by assumption), ?_⟩)
  | (refine ⟨(by walk_at "ok"), ?_⟩)
  | (refine ⟨_, _, _, _, rfl, rfl, (by walk_at "hp"), rfl, ?_⟩))
local macro_rules | `(tactic| walk_at "go") => `(tactic| repeat (walk_at "go1"))
local macro_rules | `(tactic| walk_at "gt") => `(tactic| repeat (first | walk_at "go1" | walk_at "ty"))

section
variable {P : Program} {w : World} {K : PySem.W.Frag} {mg : Str → Option Value} {base : Heap}
-- [0=value] [0=value] [0=_law_thing]
theorem kx_int {C : Addr} : ∀ k : Kn, k ≠ .ins → PySem.W.kitOne K (k.ty C) (.type "int") = some k.isInt
  | .int, _ => kt_int_int
  | .bool, _ => kt_bool_int
  | .str, _ => kt_str_int
  | .non, _ => kt_NoneType_int
  | .list, _ => kt_list_int
  | .tup, _ => kt_tuple_int
  | .ins, h => absurd rfl h
theorem kx_bool {C : Addr} : ∀ k : Kn, k ≠ .ins → PySem.W.kitOne K (k.ty C) (.type "bool") = some k.isBool
  | .int, _ => kt_int_bool
  | .bool, _ => kt_bool_bool
  | .str, _ => kt_str_bool
  | .non, _ => kt_NoneType_bool
  | .list, _ => kt_list_bool
  | .tup, _ => kt_tuple_bool
  | .ins, h => absurd rfl h
def spNumP (K : PySem.W.Frag) : Sp := fun vs H Q _ => ∃ (v : V) (k : Kn), vs = [v] ∧ KnV K 0 H v k ∧ k ≠ .ins ∧ Q (.bl k.isNum) H
theorem ok_is_numP (T : Tx K mg) : FnOk P w K mg base CX0 1 T.f_is_number T.d_is_number ["value"] (spNumP K) := by
  refine T.F_is_number.ok sc_is_number (fun vs H Q E h => ?_) (fun cdv A outer s H vs Q E hr h => ?_)
  · obtain ⟨v, k, rfl, _⟩ := h
    rfl
  obtain ⟨v, k, rfl, hk, hn, q⟩ := h
  refine ⟨_, (pss_one (ps_ret (pe_and (pe_callB (show CallR _ _ (rIsi K) from call_isi) (by rfl) T.z_isinstance (by decide +kernel) (pa_cons (pv 0) (pa_cons (pe_bltn (v := .ty "int") (u := .type "int") (by rfl) T.z_int (by decide +kernel) rfl) pa_nil))) (pe_one (pe_not (pe_callB (show CallR _ _ (rIsi K) from call_isi) (by rfl) T.z_isinstance (by decide +kernel) (pa_cons (pv 0) (pa_cons (pe_bltn (v := .ty "bool") (u := .type "bool") (by rfl) T.z_bool (by decide +kernel) rfl) pa_nil)))))))), ?_⟩
  refine ⟨_, rfl, _, _, _, _, _, rfl, ClsV.ty _, hk, kx_int k hn, _, rfl, ?_⟩
  cases e : k.isInt
  · have : k.isNum = false := by rw [Kn.isNum, e]; rfl
    rw [this] at q
    exact q
  · refine ⟨_, rfl, _, _, _, _, _, rfl, ClsV.ty _, hk, kx_bool k hn, _, rfl, ?_⟩
    have : k.isNum = !k.isBool := by rw [Kn.isNum, e]; rfl
    rw [this] at q
    exact q
theorem ok_l_numP (T : Tx K mg) : FnOk P w K mg base CX0 1 T.f_l_number T.d_l_number ["_law_thing"] (spNumP K) := by
  refine T.F_l_number.ok sc_l_number (fun vs H Q E h => ?_) (fun cdv A outer s H vs Q E hr h => ?_)
  · obtain ⟨v, k, rfl, _⟩ := h
    rfl
  obtain ⟨v, k, rfl, hk, hn, q⟩ := h
  refine ⟨_, (pss_one (ps_ret (pe_and (pe_callB (show CallR _ _ (rIsi K) from call_isi) (by rfl) T.z_isinstance (by decide +kernel) (pa_cons (pv 0) (pa_cons (pe_bltn (v := .ty "int") (u := .type "int") (by rfl) T.z_int (by decide +kernel) rfl) pa_nil))) (pe_one (pe_not (pe_callB (show CallR _ _ (rIsi K) from call_isi) (by rfl) T.z_isinstance (by decide +kernel) (pa_cons (pv 0) (pa_cons (pe_bltn (v := .ty "bool") (u := .type "bool") (by rfl) T.z_bool (by decide +kernel) rfl) pa_nil)))))))), ?_⟩
  refine ⟨_, rfl, _, _, _, _, _, rfl, ClsV.ty _, hk, kx_int k hn, _, rfl, ?_⟩
  cases e : k.isInt
  · have : k.isNum = false := by rw [Kn.isNum, e]; rfl
    rw [this] at q
    exact q
  · refine ⟨_, rfl, _, _, _, _, _, rfl, ClsV.ty _, hk, kx_bool k hn, _, rfl, ?_⟩
    have : k.isNum = !k.isBool := by rw [Kn.isNum, e]; rfl
    rw [this] at q
    exact q
end
end TL
namespace TL
open PySem L2 PySem.NumText

/-! ### steps of a reading -/
local macro_rules | `(tactic| walk_at "hp") => `(tactic| first | assumption | exact upd_same | (refine (upd_ne (by first | assumption | (exact Ne.symm (by assumption)))).trans ?_; walk_at "hp"))
local macro_rules | `(tactic| walk_at "ok") => `(tactic| first | (exact Or.inr ⟨by decide, by decide⟩) | (exact ⟨by decide, by decide⟩) | (exact ⟨by decide, by decide, by decide⟩) | (show _ ≠ _; omega) | (show _ ≠ _; decide) | (exact Or.inl ⟨by omega, by omega⟩) | decide)
local macro_rules | `(tactic| walk_at "sq") => `(tactic| first | assumption | exact SqL.of (by walk_at "hp") | exact SqT.of (by walk_at "hp"))
local macro_rules | `(tactic| walk_at "ty") => `(tactic| first | refine ⟨_, _, Value.type "int", Value.type "list", false, rfl, ClsV.ty _, TyX.base (TyOf.int _), kt_int_list, ?_⟩ | refine ⟨_, _, Value.type "bool", Value.type "list", false, rfl, ClsV.ty _, TyX.base (TyOf.bl _), kt_bool_list, ?_⟩ | refine ⟨_, _, Value.type "str", Value.type "list", false, rfl, ClsV.ty _, TyX.base (TyOf.str _), kt_str_list, ?_⟩ | refine ⟨_, _, Value.type "NoneType", Value.type "list", false, rfl, ClsV.ty _, TyX.base TyOf.non, kt_NoneType_list, ?_⟩ | refine ⟨_, _, Value.type "list", Value.type "list", true, rfl, ClsV.ty _, tyx_L (by walk_at "sq"), kt_list_list, ?_⟩ | refine ⟨_, _, Value.type "tuple", Value.type "list", false, rfl, ClsV.ty _, tyx_T (by walk_at "sq"), kt_tuple_list, ?_⟩ | refine ⟨_, _, Value.type "int", Value.type "tuple", false, rfl, ClsV.ty _, TyX.base (TyOf.int _), kt_int_tuple, ?_⟩ | refine ⟨_, _, Value.type "bool", Value.type "tuple", false, rfl, ClsV.ty _, TyX.base (TyOf.bl _), kt_bool_tuple, ?_⟩ | refine ⟨_, _, Value.type "str", Value.type "tuple", false, rfl, ClsV.ty _, TyX.base (TyOf.str _), kt_str_tuple, ?_⟩ | refine ⟨_, _, Value.type "NoneType", Value.type "tuple", false, rfl, ClsV.ty _, TyX.base TyOf.non, kt_NoneType_tuple, ?_⟩ | refine ⟨_, _, Value.type "list", Value.type "tuple", false, rfl, ClsV.ty _, tyx_L (by walk_at "sq"), kt_list_tuple, ?_⟩ | refine ⟨_, _, Value.type "tuple", Value.type "tuple", true, rfl, ClsV.ty _, tyx_T (by walk_at "sq"), kt_tuple_tuple, ?_⟩ | refine ⟨_, _, Value.type "int", Value.type "bool", false, rfl, ClsV.ty _, TyX.base (TyOf.int _), kt_int_bool, ?_⟩ | refine ⟨_, _, Value.type "bool", Value.type "bool", true, rfl, ClsV.ty _, TyX.base (TyOf.bl _), kt_bool_bool, ?_⟩ | refine ⟨_, _, Value.type "str", Value.type "bool", false, rfl, ClsV.ty _, TyX.base (TyOf.str _), kt_str_bool, ?_⟩ | refine ⟨_, _, Value.type "NoneType", Value.type "bool", false, rfl, ClsV.ty _, TyX.base TyOf.non, kt_NoneType_bool, ?_⟩ | refine ⟨_, _, Value.type "list", Value.type "bool", false, rfl, ClsV.ty _, tyx_L (by walk_at "sq"), kt_list_bool, ?_⟩ | refine ⟨_, _, Value.type "tuple", Value.type "bool", false, rfl, ClsV.ty _, tyx_T (by walk_at "sq"), kt_tuple_bool, ?_⟩ | refine ⟨_, _, Value.type "int", Value.type "int", true, rfl, ClsV.ty _, TyX.base (TyOf.int _), kt_int_int, ?_⟩ | refine ⟨_, _, Value.type "bool", Value.type "int", true, rfl, ClsV.ty _, TyX.base (TyOf.bl _), kt_bool_int, ?_⟩ | refine ⟨_, _, Value.type "str", Value.type "int", false, rfl, ClsV.ty _, TyX.base (TyOf.str _), kt_str_int, ?_⟩ | refine ⟨_, _, Value.type "NoneType", Value.type "int", false, rfl, ClsV.ty _, TyX.base TyOf.non, kt_NoneType_int, ?_⟩ | refine ⟨_, _, Value.type "list", Value.type "int", false, rfl, ClsV.ty _, tyx_L (by walk_at "sq"), kt_list_int, ?_⟩ | refine ⟨_, _, Value.type "tuple", Value.type "int", false, rfl, ClsV.ty _, tyx_T (by walk_at "sq"), kt_tuple_int, ?_⟩ | refine ⟨_, _, Value.type "int", Value.type "str", false, rfl, ClsV.ty _, TyX.base (TyOf.int _), kt_int_str, ?_⟩ | refine ⟨_, _, Value.type "bool", Value.type "str", false, rfl, ClsV.ty _, TyX.base (TyOf.bl _), kt_bool_str, ?_⟩ | refine ⟨_, _, Value.type "str", Value.type "str", true, rfl, ClsV.ty _, TyX.base (TyOf.str _), kt_str_str, ?_⟩ | refine ⟨_, _, Value.type "NoneType", Value.type "str", false, rfl, ClsV.ty _, TyX.base TyOf.non, kt_NoneType_str, ?_⟩ | refine ⟨_, _, Value.type "list", Value.type "str", false, rfl, ClsV.ty _, tyx_L (by walk_at "sq"), kt_list_str, ?_⟩ | refine ⟨_, _, Value.type "tuple", Value.type "str", false, rfl, ClsV.ty _, tyx_T (by walk_at "sq"), kt_tuple_str, ?_⟩)
local macro_rules | `(tactic| walk_at "go1") => `(tactic| first
  | (refine ⟨_, rfl, ?_⟩)
  | (refine ⟨_, _, rfl, rfl, ?_⟩)
  | (refine ⟨_, _, _, _, rfl, rfl, SqL.of (by walk_at "hp"), rfl, ?_⟩)
  | (refine Or.inl ⟨_, rfl, ?_⟩)
  | (refine ⟨rfl, ?_⟩)
  | (refine ⟨_, _, rfl, .inl (SqL.of (by walk_at "hp")), ?_⟩)
  | (refine ⟨_, _, rfl, Or.inl (by assumption), ?_⟩)
  | (refine ⟨_, _, rfl, Or.inr (by assumption), ?_⟩)
  | (refine ⟨(by walk_at "ok"), ?_⟩)
  | (refine ⟨_, _, _, _, rfl, rfl, (by walk_at "hp"), rfl, ?_⟩))
local macro_rules | `(tactic| walk_at "go") => `(tactic| repeat (walk_at "go1"))
local macro_rules | `(tactic| walk_at "gt") => `(tactic| repeat (first | walk_at "go1" | walk_at "ty"))

section
variable {P : Program} {w : World} {K : PySem.W.Frag} {mg : Str → Option Value} {base : Heap}
-- [0=value] [0=value, 1=many, 2=item] [0=value, 1=over, 2=under] [0=_law_thing]
/-- the items of a tuple: their kinds, and which are numbers -/
def Its2 (K : PySem.W.Frag) (H : Hp) (xs : List V) (ks : List Kn) : Prop := ks.length = xs.length ∧ xs.length ≤ 1000 ∧ ∀ (i : Nat) x k, xs[i]? = some x → ks[i]? = some k → k ≠ .ins ∧ (∀ H', Same H H' → KnV K 0 H' x k) ∧ (k.isNum = true → ∃ n : Int, x = .int n)
theorem kx_lt {C : Addr} : ∀ k : Kn, k ≠ .ins → PySem.W.kitAny K (k.ty C) [.type "list", .type "tuple"] = some (k.isList || k.isTup)
  | .int, _ => kit_two kt_int_list kt_int_tuple
  | .bool, _ => kit_two kt_bool_list kt_bool_tuple
  | .str, _ => kit_two kt_str_list kt_str_tuple
  | .non, _ => kit_two kt_NoneType_list kt_NoneType_tuple
  | .list, _ => kit_two kt_list_list kt_list_tuple
  | .tup, _ => kit_two kt_tuple_list kt_tuple_tuple
  | .ins, h => absurd rfl h
def spListP (K : PySem.W.Frag) : Sp := fun vs H Q _ => ∃ (v : V) (k : Kn), vs = [v] ∧ k ≠ .ins ∧ (∀ H', Same H H' → KnV K 0 H' v k) ∧ ∀ H', Same H H' → Q (.bl (k.isList || k.isTup)) H'
theorem ok_listP (T : Tx K mg) : FnOk P w K mg base CX0 1 T.f_is_listed T.d_is_listed ["value"] (spListP K) := by
  refine T.F_is_listed.ok sc_is_listed (fun vs H Q E h => ?_) (fun cdv A outer s H vs Q E hr h => ?_)
  · obtain ⟨v, k, rfl, _⟩ := h
    rfl
  obtain ⟨v, k, rfl, hk, hs, q⟩ := h
  refine ⟨_, (pss_one (ps_ret (pe_callB (show CallR _ _ (rIsiT K) from call_isiT) (by rfl) T.z_isinstance (by decide +kernel) (pa_cons (pv 0) (pa_cons (pe_tup (pa_cons (pe_bltn (v := .ty "list") (u := .type "list") (by rfl) T.z_list (by decide +kernel) rfl) (pa_cons (pe_bltn (v := .ty "tuple") (u := .type "tuple") (by rfl) T.z_tuple (by decide +kernel) rfl) pa_nil))) pa_nil))))), ?_⟩
  refine ⟨_, rfl, (by show 2 ≤ sizeLine; decide), fun p hp => ?_⟩
  have s1 : Same H (upd H p (.tup [.ty "list", .ty "tuple"])) := Same.new hp
  exact ⟨_, p, _, _, [.type "list", .type "tuple"], _, rfl, upd_same, .cons (.ty _) (.cons (.ty _) .nil), hs _ s1, kx_lt k hk, q _ s1⟩
theorem lc_numsP {J : It} {G : Hp → Prop} {D : Addr} {xs : List V} {ks : List Kn} {σ : L2.St} {H0 : Hp} {Qd : Hp → Prop} {i : Nat} (wk : Walk J xs.length G (YAt xs)) (hw : ∀ x : V, wipe ((wipe σ [i]).set i (some x)) [i] = wipe σ [i]) (hi : ∀ x : V, ((wipe σ [i]).set i (some x))[i]? = some (some x)) (hD : H0 D = none) (hG : ∀ H, Same H0 H → G H)
    (hk : Its2 K H0 xs ks)
    (hd : ∀ H, Same H0 H → H D = some (.lst ((ks.map Kn.isNum).map V.bl)) → Qd H) : LcGoal J (gName i) (tCall (spNumP K) [] E0 (tCons (tVar i) tNil)) [i] σ H0 D Qd := by
  refine lcm wk ((ks.map Kn.isNum).map V.bl) (by simp [hk.1]) (Nat.le_trans hk.2.1 (by decide)) hD hG ?_ hd
  rintro t y x H2 H3 ht hy s2 ⟨rfl, hx⟩ k hk'
  rw [List.getElem?_map, List.getElem?_map] at hy
  obtain ⟨b, hb, rfl⟩ := Option.map_eq_some_iff.mp hy
  obtain ⟨kn, hkn, rfl⟩ := Option.map_eq_some_iff.mp hb
  have h3 := hk.2.2 t x kn hx hkn
  refine ⟨hw x, ?_⟩
  exact ⟨x, hi x, x, kn, rfl, h3.2.1 _ s2, h3.1, hk' _ (Same.refl _)⟩
def spArePT (K : PySem.W.Frag) : Sp := fun vs H Q _ => ∃ (a : Addr) (xs : List V) (ks : List Kn) (m : Nat), vs = [.ref a, .int (m : Int)] ∧ SqT K H a xs ∧ Its2 K H xs ks ∧ ∀ H', Same H H' → Q (.bl (decide (xs.length = m) && ks.all Kn.isNum)) H'
theorem ok_areP (T : Tx K mg) : FnOk P w K mg base CX0 2 T.f_are_numbers T.d_are_numbers ["value", "many"] (spArePT K) := by
  have G_is_listed := ok_listP (P := P) (w := w) (base := base) T
  have G_is_number := ok_is_numP (P := P) (w := w) (base := base) T
  refine T.F_are_numbers.ok sc_are_numbers (fun vs H Q E h => ?_) (fun cdv A outer s H vs Q E hr h => ?_)
  · obtain ⟨a, xs, ks, m, rfl, _⟩ := h
    rfl
  obtain ⟨a, xs, ks, m, rfl, ha, hk, q⟩ := h
  have nd := sc_are_numbers.nd
  refine ⟨_, (pss_cons (ps_if (PW.pt (pw_or (pt_not (pt_val (pe_call G_is_listed hr (by rfl) T.m_is_listed T.F_is_listed.kp T.b_is_listed .nil pass0 (pa_cons (pv 0) pa_nil)))) (pw_or1 (pt_cmpR op_ne (pe_callB (show CallR _ _ (rLenSq K) from call_len_seq) (by rfl) T.z_len (by decide +kernel) (pa_cons (pv 0) pa_nil)) (pv 1) (nomark _))))) (pss_one (ps_ret pe_bl)) pss_nil)
    (pss_one (ps_ret (pe_callB (show CallR _ _ (rAll K) from cr_all rfl) (by rfl) T.z_all (by decide +kernel) (pa_cons (pe_lc (own := [("item", 2)]) (g := (gName 2)) rfl nd (show PI _ _ _ (iTup K _) from pi_tup (pv 0)) (blkOk_by (own := [("item", 2)]) (N := N_are_numbers) (sc := defScope s_are_numbers) (by decide +kernel)) (fun _ _ _ _ _ => by exact (pg_name (i := 2) nd rfl (Or.inl rfl))) (fun _ _ _ _ _ => by exact pts_nil) (fun _ _ _ _ _ => by exact (pe_call G_is_number hr (by rfl) T.m_is_number T.F_is_number.kp T.b_is_number .nil pass0 (pa_cons (pv 2) pa_nil)))) pa_nil))))), ?_⟩
  refine ⟨_, rfl, _, .tup, rfl, by decide, fun H' s' => .t (seqT s' ha), fun H1 s1 => ⟨_, rfl, ?_⟩⟩
  refine iteF' (c := !true) rfl ?_
  have ha1 := seqT s1 ha
  refine ⟨_, rfl, a, _, rfl, .inr ha1, _, rfl, rfl, _, rfl, ?_⟩
  by_cases b1 : xs.length = m
  case neg =>
    rw [decide_eq_false b1, Bool.false_and] at q
    refine iteT' (c := !decide _) (by rw [dec_int, beq_false_of_ne (by omega)]; rfl) ?_
    exact q H1 s1
  rw [decide_eq_true b1, Bool.true_and] at q
  refine iteF' (c := !decide _) (by rw [dec_int, b1]; simp) ?_
  refine ⟨_, rfl, a, rfl, ⟨_, ha1⟩, fun D hD => ?_⟩
  have hk1 : Its2 K H1 xs ks := ⟨hk.1, hk.2.1, fun i x k hx hkk => by
    have := hk.2.2 i x k hx hkk
    exact ⟨this.1, fun H' s' => this.2.1 H' (s1.trans s'), this.2.2⟩⟩
  refine lc_numsP (K := K) (ks := ks) (walk_tup (K := K) (a := a) (xs := xs)) (fun _ => rfl) (fun _ => rfl) hD (fun H' s' => seqT s' ha1) hk1 fun H2 s2 hD2 => ?_
  refine ⟨D, _, rfl, SqL.of hD2, ?_⟩
  rw [List.all_map]
  exact q H2 (s1.trans s2)
def tonB : List V → Bool
  | [.int i, .int j] => decide (1 ≤ i) && (decide (1 ≤ j) && (Nat.gcd i.natAbs j.natAbs == 1))
  | _ => false
theorem gcd_one (g : Nat) : decide (V.int ((g : Nat) : Int) = V.int 1) = (g == 1) := by
  rw [dec_int, Bool.eq_iff_iff, beq_iff_eq, beq_iff_eq]
  omega
theorem ton_no {xs : List V} {ks : List Kn} {H : Hp} (hk : Its2 K H xs ks) (h : (decide (xs.length = 2) && ks.all Kn.isNum) = true) : ∃ i j : Int, xs = [.int i, .int j] := by
  obtain ⟨h1, h2⟩ := Bool.and_eq_true_iff.mp h
  have hl := of_decide_eq_true h1
  have kl := hk.1
  match xs, ks, hl, kl with
  | [x, y], [k1, k2], _, _ =>
    have e1 : k1.isNum = true := List.all_eq_true.mp h2 k1 (by simp)
    have e2 : k2.isNum = true := List.all_eq_true.mp h2 k2 (by simp)
    obtain ⟨i, rfl⟩ := (hk.2.2 0 x k1 rfl rfl).2.2 e1
    obtain ⟨j, rfl⟩ := (hk.2.2 1 y k2 rfl rfl).2.2 e2
    exact ⟨i, j, rfl⟩
def spTone (K : PySem.W.Frag) : Sp := fun vs H Q _ => ∃ (a : Addr) (xs : List V) (ks : List Kn), vs = [.ref a] ∧ SqT K H a xs ∧ Its2 K H xs ks ∧ ∀ H', Same H H' → Q (.bl (tonB xs && (decide (xs.length = 2) && ks.all Kn.isNum))) H'
theorem ok_is_toneT (T : Tx K mg) : FnOk P w K mg base CX0 3 T.f_is_tone T.d_is_tone ["value"] (spTone K) := by
  have G_are_numbers := ok_areP (P := P) (w := w) (base := base) T
  refine T.F_is_tone.ok sc_is_tone (fun vs H Q E h => ?_) (fun cdv A outer s H vs Q E hr h => ?_)
  · obtain ⟨a, xs, ks, rfl, _⟩ := h
    rfl
  obtain ⟨a, xs, ks, rfl, ha, hk, q⟩ := h
  have nd := sc_is_tone.nd
  refine ⟨_, (pss_cons (ps_if (PW.pt (pw_or (pt_not (pt_val (pe_callB (show CallR _ _ (rIsi K) from call_isi) (by rfl) T.z_isinstance (by decide +kernel) (pa_cons (pv 0) (pa_cons (pe_bltn (v := .ty "tuple") (u := .type "tuple") (by rfl) T.z_tuple (by decide +kernel) rfl) pa_nil))))) (pw_or1 (pt_not (pt_val (pe_call G_are_numbers hr (by rfl) T.m_are_numbers T.F_are_numbers.kp T.b_are_numbers .nil pass0 (pa_cons (pv 0) (pa_cons pe_int pa_nil)))))))) (pss_one (ps_ret pe_bl)) pss_nil)
    (pss_cons (ps_asg (pv 0) (pg_tup rfl (pgs_cons (pg_name (i := 1) nd rfl (Or.inl rfl)) (pgs_cons (pg_name (i := 2) nd rfl (Or.inl rfl)) pgs_nil))))
    (pss_one (ps_ret (pe_and (pe_cmpR op_ge (pv 1) pe_int (nomark _)) (pe_and (pe_cmpR op_ge (pv 2) pe_int (nomark _)) (pe_one (pe_cmpR op_eq (pe_callBfun cr_gcd (by rfl) T.m_gcd (pa_cons (pv 1) (pa_cons (pv 2) pa_nil))) pe_int (nomark _))))))))), ?_⟩
  refine ⟨_, rfl, _, _, _, _, _, rfl, ClsV.ty _, tyx_T ha, kt_tuple_tuple, ?_⟩
  refine ⟨_, rfl, ?_⟩
  refine iteF' (c := !true) rfl ?_
  refine ⟨_, rfl, a, xs, ks, 2, rfl, ha, hk, fun H1 s1 => ⟨_, rfl, ?_⟩⟩
  cases hb : (decide (xs.length = 2) && ks.all Kn.isNum) with
  | false =>
    rw [hb, Bool.and_false] at q
    refine iteT' (c := !false) rfl ?_
    exact q H1 s1
  | true =>
    obtain ⟨i, j, rfl⟩ := ton_no hk hb
    rw [hb, Bool.and_true] at q
    refine iteF' (c := !true) rfl ?_
    refine ⟨_, rfl, a, _, rfl, seqT s1 ha, rfl, ?_⟩
    refine ⟨_, _, rfl, _, _, rfl, rfl, ?_⟩
    have q1 := q H1 s1
    rw [show tonB [V.int i, V.int j] = (decide (1 ≤ i) && (decide (1 ≤ j) && (Nat.gcd i.natAbs j.natAbs == 1))) from rfl] at q1
    refine ⟨_, rfl, _, _, rfl, rfl, _, rfl, ?_⟩
    by_cases b1 : 1 ≤ i
    case neg =>
      rw [decide_eq_false b1, Bool.false_and] at q1
      exact iteF' (decide_eq_false b1) q1
    rw [decide_eq_true b1, Bool.true_and] at q1
    refine iteT' (decide_eq_true b1) ?_
    refine ⟨_, rfl, _, _, rfl, rfl, _, rfl, ?_⟩
    by_cases b2 : 1 ≤ j
    case neg =>
      rw [decide_eq_false b2, Bool.false_and] at q1
      exact iteF' (decide_eq_false b2) q1
    rw [decide_eq_true b2, Bool.true_and] at q1
    refine iteT' (decide_eq_true b2) ?_
    refine ⟨_, rfl, _, rfl, i, j, rfl, rfl, ?_⟩
    rw [gcd_one]
    exact q1
theorem ok_is_toneN (T : Tx K mg) : FnOk P w K mg base CX0 3 T.f_is_tone T.d_is_tone ["value"] (fun vs H Q _ => ∃ (v : V) (t : Value), vs = [v] ∧ TyX K H v t ∧ PySem.W.kitOne K t (.type "tuple") = some false ∧ Q (.bl false) H) := by
  have G_are_numbers := ok_areP (P := P) (w := w) (base := base) T
  refine T.F_is_tone.ok sc_is_tone (fun vs H Q E h => ?_) (fun cdv A outer s H vs Q E hr h => ?_)
  · obtain ⟨a, t, rfl, _⟩ := h
    rfl
  obtain ⟨v, t, rfl, ht, hk, q⟩ := h
  have nd := sc_is_tone.nd
  refine ⟨_, (pss_cons (ps_if (PW.pt (pw_or (pt_not (pt_val (pe_callB (show CallR _ _ (rIsi K) from call_isi) (by rfl) T.z_isinstance (by decide +kernel) (pa_cons (pv 0) (pa_cons (pe_bltn (v := .ty "tuple") (u := .type "tuple") (by rfl) T.z_tuple (by decide +kernel) rfl) pa_nil))))) (pw_or1 (pt_not (pt_val (pe_call G_are_numbers hr (by rfl) T.m_are_numbers T.F_are_numbers.kp T.b_are_numbers .nil pass0 (pa_cons (pv 0) (pa_cons pe_int pa_nil)))))))) (pss_one (ps_ret pe_bl)) pss_nil)
    (pss_cons (ps_asg (pv 0) (pg_tup rfl (pgs_cons (pg_name (i := 1) nd rfl (Or.inl rfl)) (pgs_cons (pg_name (i := 2) nd rfl (Or.inl rfl)) pgs_nil))))
    (pss_one (ps_ret (pe_and (pe_cmpR op_ge (pv 1) pe_int (nomark _)) (pe_and (pe_cmpR op_ge (pv 2) pe_int (nomark _)) (pe_one (pe_cmpR op_eq (pe_callBfun cr_gcd (by rfl) T.m_gcd (pa_cons (pv 1) (pa_cons (pv 2) pa_nil))) pe_int (nomark _))))))))), ?_⟩
  refine ⟨_, rfl, _, _, _, _, _, rfl, ClsV.ty _, ht, hk, ?_⟩
  exact ⟨_, rfl, iteT' (c := !false) rfl q⟩
theorem ok_tone_dueN (T : Tx K mg) : FnOk P w K mg base CX0 2 T.f_l_tone_due T.d_l_tone_due ["_law_thing"] (fun vs H Q _ => ∃ (v : V) (t : Value), vs = [v] ∧ TyX K H v t ∧ PySem.W.kitOne K t (.type "tuple") = some false ∧ Q (.bl false) H) := by
  have G_l_number := ok_l_numP (P := P) (w := w) (base := base) T
  have G_l_gcd := ok_l_gcd (P := P) (w := w) (base := base) T
  refine T.F_l_tone_due.ok sc_l_tone_due (fun vs H Q E h => ?_) (fun cdv A outer s H vs Q E hr h => ?_)
  · obtain ⟨a, t, rfl, _⟩ := h
    rfl
  obtain ⟨v, t, rfl, ht, hk, q⟩ := h
  have nd := sc_l_tone_due.nd
  refine ⟨_, (pss_cons (ps_if (PW.pt (pw_or (pt_not (pt_val (pe_callB (show CallR _ _ (rIsi K) from call_isi) (by rfl) T.z_isinstance (by decide +kernel) (pa_cons (pv 0) (pa_cons (pe_bltn (v := .ty "tuple") (u := .type "tuple") (by rfl) T.z_tuple (by decide +kernel) rfl) pa_nil))))) (pw_or (pt_cmpR op_ne (pe_callB (show CallR _ _ (rLenSq K) from call_len_seq) (by rfl) T.z_len (by decide +kernel) (pa_cons (pv 0) pa_nil)) pe_int (nomark _)) (pw_or (pt_not (pt_val (pe_call G_l_number (hr.mono (by decide)) (by rfl) T.m_l_number T.F_l_number.kp T.b_l_number .nil pass0 (pa_cons (pe_ix (show IxR _ (rIxT K) from ix_tup) (pv 0) pe_int (fun _ _ => rfl)) pa_nil)))) (pw_or1 (pt_not (pt_val (pe_call G_l_number (hr.mono (by decide)) (by rfl) T.m_l_number T.F_l_number.kp T.b_l_number .nil pass0 (pa_cons (pe_ix (show IxR _ (rIxT K) from ix_tup) (pv 0) pe_int (fun _ _ => rfl)) pa_nil))))))))) (pss_one (ps_ret pe_bl)) pss_nil)
    (pss_one (ps_ret (pe_and (pe_cmpR op_gt (pe_ix (show IxR _ (rIxT K) from ix_tup) (pv 0) pe_int (fun _ _ => rfl)) pe_int (nomark _)) (pe_and (pe_cmpR op_gt (pe_ix (show IxR _ (rIxT K) from ix_tup) (pv 0) pe_int (fun _ _ => rfl)) pe_int (nomark _)) (pe_one (pe_cmpR op_eq (pe_call G_l_gcd (hr.mono (by decide)) (by rfl) T.m_l_gcd T.F_l_gcd.kp T.b_l_gcd .nil pass0 (pa_cons (pe_ix (show IxR _ (rIxT K) from ix_tup) (pv 0) pe_int (fun _ _ => rfl)) (pa_cons (pe_ix (show IxR _ (rIxT K) from ix_tup) (pv 0) pe_int (fun _ _ => rfl)) pa_nil))) pe_int (nomark _)))))))), ?_⟩
  refine ⟨_, rfl, _, _, _, _, _, rfl, ClsV.ty _, ht, hk, ?_⟩
  exact ⟨_, rfl, iteT' (c := !false) rfl q⟩
theorem ok_tone_dueT (T : Tx K mg) : FnOk P w K mg base CX0 2 T.f_l_tone_due T.d_l_tone_due ["_law_thing"] (spTone K) := by
  have G_l_number := ok_l_numP (P := P) (w := w) (base := base) T
  have G_l_gcd := ok_l_gcd (P := P) (w := w) (base := base) T
  refine T.F_l_tone_due.ok sc_l_tone_due (fun vs H Q E h => ?_) (fun cdv A outer s H vs Q E hr h => ?_)
  · obtain ⟨a, xs, ks, rfl, _⟩ := h
    rfl
  obtain ⟨a, xs, ks, rfl, ha, hk, q⟩ := h
  have nd := sc_l_tone_due.nd
  refine ⟨_, (pss_cons (ps_if (PW.pt (pw_or (pt_not (pt_val (pe_callB (show CallR _ _ (rIsi K) from call_isi) (by rfl) T.z_isinstance (by decide +kernel) (pa_cons (pv 0) (pa_cons (pe_bltn (v := .ty "tuple") (u := .type "tuple") (by rfl) T.z_tuple (by decide +kernel) rfl) pa_nil))))) (pw_or (pt_cmpR op_ne (pe_callB (show CallR _ _ (rLenSq K) from call_len_seq) (by rfl) T.z_len (by decide +kernel) (pa_cons (pv 0) pa_nil)) pe_int (nomark _)) (pw_or (pt_not (pt_val (pe_call G_l_number (hr.mono (by decide)) (by rfl) T.m_l_number T.F_l_number.kp T.b_l_number .nil pass0 (pa_cons (pe_ix (show IxR _ (rIxT K) from ix_tup) (pv 0) pe_int (fun _ _ => rfl)) pa_nil)))) (pw_or1 (pt_not (pt_val (pe_call G_l_number (hr.mono (by decide)) (by rfl) T.m_l_number T.F_l_number.kp T.b_l_number .nil pass0 (pa_cons (pe_ix (show IxR _ (rIxT K) from ix_tup) (pv 0) pe_int (fun _ _ => rfl)) pa_nil))))))))) (pss_one (ps_ret pe_bl)) pss_nil)
    (pss_one (ps_ret (pe_and (pe_cmpR op_gt (pe_ix (show IxR _ (rIxT K) from ix_tup) (pv 0) pe_int (fun _ _ => rfl)) pe_int (nomark _)) (pe_and (pe_cmpR op_gt (pe_ix (show IxR _ (rIxT K) from ix_tup) (pv 0) pe_int (fun _ _ => rfl)) pe_int (nomark _)) (pe_one (pe_cmpR op_eq (pe_call G_l_gcd (hr.mono (by decide)) (by rfl) T.m_l_gcd T.F_l_gcd.kp T.b_l_gcd .nil pass0 (pa_cons (pe_ix (show IxR _ (rIxT K) from ix_tup) (pv 0) pe_int (fun _ _ => rfl)) (pa_cons (pe_ix (show IxR _ (rIxT K) from ix_tup) (pv 0) pe_int (fun _ _ => rfl)) pa_nil))) pe_int (nomark _)))))))), ?_⟩
  refine ⟨_, rfl, _, _, _, _, _, rfl, ClsV.ty _, tyx_T ha, kt_tuple_tuple, ?_⟩
  refine ⟨_, rfl, ?_⟩
  refine iteF' (c := !true) rfl ?_
  refine ⟨_, rfl, a, _, rfl, .inr ha, rfl, _, rfl, ?_⟩
  by_cases b0 : xs.length = 2
  case neg =>
    rw [decide_eq_false b0, Bool.false_and, Bool.and_false] at q
    refine iteT' (c := !decide _) (by rw [dec_int, beq_false_of_ne (by omega)]; rfl) ?_
    exact q H (Same.refl _)
  refine iteF' (c := !decide _) (by rw [dec_int, b0]; rfl) ?_
  obtain ⟨x, y, rfl⟩ : ∃ x y, xs = [x, y] := by
    match xs, b0 with
    | [x, y], _ => exact ⟨x, y, rfl⟩
  obtain ⟨k1, k2, rfl⟩ : ∃ k1 k2, ks = [k1, k2] := by
    have kl := hk.1
    match ks, kl with
    | [k1, k2], _ => exact ⟨k1, k2, rfl⟩
  have h1 := hk.2.2 0 x k1 rfl rfl
  have h2 := hk.2.2 1 y k2 rfl rfl
  refine ⟨_, rfl, _, _, _, _, rfl, rfl, ha, rfl, x, k1, rfl, h1.2.1 _ (Same.refl _), h1.1, ⟨_, rfl, ?_⟩⟩
  cases e1 : k1.isNum with
  | false =>
    rw [show (List.all [k1, k2] Kn.isNum) = false by simp [e1], Bool.and_false, Bool.and_false] at q
    exact iteT' (c := !false) rfl (q H (Same.refl _))
  | true =>
    refine iteF' (c := !true) rfl ?_
    refine ⟨_, rfl, _, _, _, _, rfl, rfl, ha, rfl, y, k2, rfl, h2.2.1 _ (Same.refl _), h2.1, ⟨_, rfl, ?_⟩⟩
    cases e2 : k2.isNum with
    | false =>
      rw [show (List.all [k1, k2] Kn.isNum) = false by simp [e2], Bool.and_false, Bool.and_false] at q
      exact iteT' (c := !false) rfl (q H (Same.refl _))
    | true =>
      refine iteF' (c := !true) rfl ?_
      obtain ⟨i, rfl⟩ := h1.2.2 e1
      obtain ⟨j, rfl⟩ := h2.2.2 e2
      rw [show (List.all [k1, k2] Kn.isNum) = true by simp [e1, e2], decide_eq_true b0, Bool.and_true, Bool.and_true] at q
      rw [show tonB [V.int i, V.int j] = (decide (1 ≤ i) && (decide (1 ≤ j) && (Nat.gcd i.natAbs j.natAbs == 1))) from rfl] at q
      refine ⟨_, rfl, _, _, _, _, rfl, rfl, ha, rfl, _, _, rfl, rfl, _, rfl, ?_⟩
      by_cases b1 : 1 ≤ i
      case neg =>
        rw [decide_eq_false b1, Bool.false_and] at q
        exact iteF' (decide_eq_false (by omega)) (q H (Same.refl _))
      rw [decide_eq_true b1, Bool.true_and] at q
      refine iteT' (decide_eq_true (by omega)) ?_
      refine ⟨_, rfl, _, _, _, _, rfl, rfl, ha, rfl, _, _, rfl, rfl, _, rfl, ?_⟩
      by_cases b2 : 1 ≤ j
      case neg =>
        rw [decide_eq_false b2, Bool.false_and] at q
        exact iteF' (decide_eq_false (by omega)) (q H (Same.refl _))
      rw [decide_eq_true b2, Bool.true_and] at q
      refine iteT' (decide_eq_true (by omega)) ?_
      obtain ⟨m, rfl⟩ := Int.eq_ofNat_of_zero_le (show 0 ≤ i by omega)
      obtain ⟨n, rfl⟩ := Int.eq_ofNat_of_zero_le (show 0 ≤ j by omega)
      rw [Int.natAbs_natCast, Int.natAbs_natCast] at q
      refine ⟨_, rfl, _, _, _, _, rfl, rfl, ha, rfl, _, rfl, _, _, _, _, rfl, rfl, ha, rfl, m, n, rfl, fun H2 s2 => ⟨rfl, ?_⟩⟩
      rw [gcd_one]
      exact q H2 s2
end
end TL
namespace TL
open PySem L2 PySem.NumText

/-! ### steps of a reading -/
local macro_rules | `(tactic| walk_at "hp") => `(tactic| first | assumption | exact upd_same | (refine (upd_ne (by first | assumption | (exact Ne.symm (by assumption)))).trans ?_; walk_at "hp"))
local macro_rules | `(tactic| walk_at "ok") => `(tactic| first | (exact Or.inr ⟨by decide, by decide⟩) | (exact ⟨by decide, by decide⟩) | (exact ⟨by decide, by decide, by decide⟩) | (show _ ≠ _; omega) | (show _ ≠ _; decide) | (exact Or.inl ⟨by omega, by omega⟩) | decide)
local macro_rules | `(tactic| walk_at "sq") => `(tactic| first | assumption | exact SqL.of (by walk_at "hp") | exact SqT.of (by walk_at "hp"))
local macro_rules | `(tactic| walk_at "ty") => `(tactic| first | refine ⟨_, _, Value.type "int", Value.type "list", false, rfl, ClsV.ty _, TyX.base (TyOf.int _), kt_int_list, ?_⟩ | refine ⟨_, _, Value.type "bool", Value.type "list", false, rfl, ClsV.ty _, TyX.base (TyOf.bl _), kt_bool_list, ?_⟩ | refine ⟨_, _, Value.type "str", Value.type "list", false, rfl, ClsV.ty _, TyX.base (TyOf.str _), kt_str_list, ?_⟩ | refine ⟨_, _, Value.type "NoneType", Value.type "list", false, rfl, ClsV.ty _, TyX.base TyOf.non, kt_NoneType_list, ?_⟩ | refine ⟨_, _, Value.type "list", Value.type "list", true, rfl, ClsV.ty _, tyx_L (by walk_at "sq"), kt_list_list, ?_⟩ | refine ⟨_, _, Value.type "tuple", Value.type "list", false, rfl, ClsV.ty _, tyx_T (by walk_at "sq"), kt_tuple_list, ?_⟩ | refine ⟨_, _, Value.type "int", Value.type "tuple", false, rfl, ClsV.ty _, TyX.base (TyOf.int _), kt_int_tuple, ?_⟩ | refine ⟨_, _, Value.type "bool", Value.type "tuple", false, rfl, ClsV.ty _, TyX.base (TyOf.bl _), kt_bool_tuple, ?_⟩ | refine ⟨_, _, Value.type "str", Value.type "tuple", false, rfl, ClsV.ty _, TyX.base (TyOf.str _), kt_str_tuple, ?_⟩ | refine ⟨_, _, Value.type "NoneType", Value.type "tuple", false, rfl, ClsV.ty _, TyX.base TyOf.non, kt_NoneType_tuple, ?_⟩ | refine ⟨_, _, Value.type "list", Value.type "tuple", false, rfl, ClsV.ty _, tyx_L (by walk_at "sq"), kt_list_tuple, ?_⟩ | refine ⟨_, _, Value.type "tuple", Value.type "tuple", true, rfl, ClsV.ty _, tyx_T (by walk_at "sq"), kt_tuple_tuple, ?_⟩ | refine ⟨_, _, Value.type "int", Value.type "bool", false, rfl, ClsV.ty _, TyX.base (TyOf.int _), kt_int_bool, ?_⟩ | refine ⟨_, _, Value.type "bool", Value.type "bool", true, rfl, ClsV.ty _, TyX.base (TyOf.bl _), kt_bool_bool, ?_⟩ | refine ⟨_, _, Value.type "str", Value.type "bool", false, rfl, ClsV.ty _, TyX.base (TyOf.str _), kt_str_bool, ?_⟩ | refine ⟨_, _, Value.type "NoneType", Value.type "bool", false, rfl, ClsV.ty _, TyX.base TyOf.non, kt_NoneType_bool, ?_⟩ | refine ⟨_, _, Value.type "list", Value.type "bool", false, rfl, ClsV.ty _, tyx_L (by walk_at "sq"), kt_list_bool, ?_⟩ | refine ⟨_, _, Value.type "tuple", Value.type "bool", false, rfl, ClsV.ty _, tyx_T (by walk_at "sq"), kt_tuple_bool, ?_⟩ | refine ⟨_, _, Value.type "int", Value.type "int", true, rfl, ClsV.ty _, TyX.base (TyOf.int _), kt_int_int, ?_⟩ | refine ⟨_, _, Value.type "bool", Value.type "int", true, rfl, ClsV.ty _, TyX.base (TyOf.bl _), kt_bool_int, ?_⟩ | refine ⟨_, _, Value.type "str", Value.type "int", false, rfl, ClsV.ty _, TyX.base (TyOf.str _), kt_str_int, ?_⟩ | refine ⟨_, _, Value.type "NoneType", Value.type "int", false, rfl, ClsV.ty _, TyX.base TyOf.non, kt_NoneType_int, ?_⟩ | refine ⟨_, _, Value.type "list", Value.type "int", false, rfl, ClsV.ty _, tyx_L (by walk_at "sq"), kt_list_int, ?_⟩ | refine ⟨_, _, Value.type "tuple", Value.type "int", false, rfl, ClsV.ty _, tyx_T (by walk_at "sq"), kt_tuple_int, ?_⟩ | refine ⟨_, _, Value.type "int", Value.type "str", false, rfl, ClsV.ty _, TyX.base (TyOf.int _), kt_int_str, ?_⟩ | refine ⟨_, _, Value.type "bool", Value.type "str", false, rfl, ClsV.ty _, TyX.base (TyOf.bl _), kt_bool_str, ?_⟩ | refine ⟨_, _, Value.type "str", Value.type "str", true, rfl, ClsV.ty _, TyX.base (TyOf.str _), kt_str_str, ?_⟩ | refine ⟨_, _, Value.type "NoneType", Value.type "str", false, rfl, ClsV.ty _, TyX.base TyOf.non, kt_NoneType_str, ?_⟩ | refine ⟨_, _, Value.type "list", Value.type "str", false, rfl, ClsV.ty _, tyx_L (by walk_at "sq"), kt_list_str, ?_⟩ | refine ⟨_, _, Value.type "tuple", Value.type "str", false, rfl, ClsV.ty _, tyx_T (by walk_at "sq"), kt_tuple_str, ?_⟩)
local macro_rules | `(tactic| walk_at "go1") => `(tactic| first
  | (refine ⟨_, rfl, ?_⟩)
  | (refine ⟨_, _, rfl, rfl, ?_⟩)
  | (refine ⟨_, _, _, _, rfl, rfl, SqL.of (by walk_at "hp"), rfl, ?_⟩)
  | (refine Or.inl ⟨_, rfl, ?_⟩)
  | (refine ⟨rfl, ?_⟩)
  | (refine ⟨_, _, rfl, .inl (SqL.of (by walk_at "hp")), ?_⟩)
  | (refine ⟨_, _, rfl, Or.inl (by assumption), ?_⟩)
  | (refine ⟨_, _, rfl, Or.inr (by assumption), ?_⟩)
  | (refine ⟨(by walk_at "ok"), ?_⟩)
  | (refine ⟨_, _, _, _, rfl, rfl, (by walk_at "hp"), rfl, ?_⟩))
local macro_rules | `(tactic| walk_at "go") => `(tactic| repeat (walk_at "go1"))
local macro_rules | `(tactic| walk_at "gt") => `(tactic| repeat (first | walk_at "go1" | walk_at "ty"))

section
variable {P : Program} {w : World} {K : PySem.W.Frag} {mg : Str → Option Value} {base : Heap}
-- [0=_law_bag_here, 1=_law_wide, 2=_law_found]
def wides : List Int := [3, 12, 40, 40, 1000, 10 ^ 9, 10 ^ 20]
theorem wides_ok : ∀ n ∈ wides, 0 < n ∧ n ≤ 10 ^ 20 := by decide +kernel
def spBig : Sp := fun vs H Q _ => ∃ (B : Bg), vs = [.ref B.b] ∧ Bag B H ∧ ∀ (m : Nat) (H' : Hp), 0 < m → m ≤ 10 ^ 60 → Bag B H' → Kb B.b H H' → Q (.int (m : Int)) H'
theorem ok_l_big (T : Tx K mg) : FnOk P w K mg base CX0 3 T.f_l_big T.d_l_big ["_law_bag_here"] spBig := by
  have G_l_draw := ok_draw (P := P) (w := w) (base := base) T
  have G_l_of := ok_of (P := P) (w := w) (base := base) T
  refine T.F_l_big.ok sc_l_big (fun vs H Q E h => ?_) (fun cdv A outer s H vs Q E hr h => ?_)
  · obtain ⟨B, rfl, _⟩ := h
    rfl
  obtain ⟨B, rfl, hB, q⟩ := h
  have nd := sc_l_big.nd
  refine ⟨_, (pss_cons (ps_set (i := 1) nd rfl (Or.inl rfl) (pe_call G_l_of (hr.mono (by decide)) (by rfl) T.m_l_of T.F_l_of.kp T.b_l_of .nil pass0 (pa_cons (pv 0) (pa_cons (pe_lst (pa_cons pe_int (pa_cons pe_int (pa_cons pe_int (pa_cons pe_int (pa_cons pe_int (pa_cons (pe_op op_pow pe_int pe_int) (pa_cons (pe_op op_pow pe_int pe_int) pa_nil)))))))) pa_nil))))
    (pss_cons (ps_set (i := 2) nd rfl (Or.inl rfl) (pe_op op_add pe_int (pe_call G_l_draw (hr.mono (by decide)) (by rfl) T.m_l_draw T.F_l_draw.kp T.b_l_draw .nil pass0 (pa_cons (pv 0) (pa_cons (pv 1) pa_nil)))))
    (pss_one (ps_ret (pe_ifExp (pt_cmpR op_eq (pe_call G_l_draw (hr.mono (by decide)) (by rfl) T.m_l_draw T.F_l_draw.kp T.b_l_draw .nil pass0 (pa_cons (pv 0) (pa_cons pe_int pa_nil))) pe_int (nomark _)) (pe_op op_mulW (pe_op op_mulW (pv 2) (pe_op op_add pe_int (pe_call G_l_draw (hr.mono (by decide)) (by rfl) T.m_l_draw T.F_l_draw.kp T.b_l_draw .nil pass0 (pa_cons (pv 0) (pa_cons (pe_op op_pow pe_int pe_int) pa_nil))))) (pe_op op_pow pe_int pe_int)) (pv 2)))))), ?_⟩
  refine ⟨_, rfl, 10, 9, rfl, rfl, ⟨by decide, by decide, by decide⟩, ?_⟩
  refine ⟨10, 20, rfl, rfl, ⟨by decide, by decide, by decide⟩, (by show 7 ≤ sizeLine; decide), fun p hp => ?_⟩
  have s1 := Same.new (o := .lst (wides.map V.int)) hp
  refine ⟨B, p, wides.map V.int, rfl, SqL.of upd_same, hB.nb hp, by decide, by decide, hB.same s1, fun i v H1 hv hB1 kb1 => ?_⟩
  obtain ⟨n, hn, rfl⟩ := List.mem_map.mp (List.mem_of_getElem? hv)
  have wn := wides_ok n hn
  refine ⟨_, rfl, _, rfl, B, n, rfl, wn.1, Nat.lt_of_le_of_lt (by omega : n.natAbs ≤ 10 ^ 20) (by decide), hB1, fun d H2 d0 d1 hB2 kb2 => ?_⟩
  obtain ⟨m, rfl⟩ := Int.eq_ofNat_of_zero_le d0
  refine ⟨_, _, rfl, rfl, ?_⟩
  have e1 : (1 : Int) + (m : Int) = ((1 + m : Nat) : Int) := by omega
  have m1 : 1 + m ≤ 10 ^ 20 := by omega
  show gName 2 (V.int ((1 : Int) + (m : Int))) _ _ _
  rw [e1]
  have kb := ((Kb.same (g := B.b) s1).trans kb1).trans kb2
  refine ⟨_, rfl, B, 12, rfl, by decide, by decide, hB2, fun d3 H3 d30 d31 hB3 kb3 => ⟨rfl, _, rfl, ?_⟩⟩
  refine ite2 (fun c => ?_) (fun c => ?_)
  · refine ⟨_, rfl, _, rfl, 10, 20, rfl, rfl, ⟨by decide, by decide, by decide⟩, B, _, rfl, by decide, by decide, hB3, fun d4 H4 d40 d41 hB4 kb4 => ?_⟩
    obtain ⟨r, rfl⟩ := Int.eq_ofNat_of_zero_le d40
    have r1 : 1 + r ≤ 10 ^ 20 := by
      have : (10 : Int) ^ Int.toNat 20 = 100000000000000000000 := by decide
      rw [this] at d41
      omega
    have b1 : ((1 + m : Nat) : Int).natAbs < 2 ^ 70 := by
      rw [Int.natAbs_natCast]
      exact Nat.lt_of_le_of_lt m1 (by decide)
    have b2 : ((1 : Int) + (r : Int)).natAbs < 2 ^ 70 := Nat.lt_of_le_of_lt (by omega : ((1 : Int) + (r : Int)).natAbs ≤ 10 ^ 20) (by decide)
    refine ⟨_, _, rfl, rfl, _, _, rfl, rfl, wide_mul b1 b2 (by decide) (by decide) (by decide), ?_⟩
    refine ⟨10, 20, rfl, rfl, ⟨by decide, by decide, by decide⟩, _, _, rfl, rfl, wide_mul (wide_lt b1 b2) (b := 70) (by decide) (by decide) (by decide) (by decide), ?_⟩
    have e2 : ((1 + m : Nat) : Int) * ((1 : Int) + (r : Int)) * (10 : Int) ^ Int.toNat 20 = (((1 + m) * (1 + r) * 10 ^ 20 : Nat) : Int) := by
      rw [show (1 : Int) + (r : Int) = ((1 + r : Nat) : Int) by omega, Int.natCast_mul, Int.natCast_mul]
      rfl
    show Q (V.int (((1 + m : Nat) : Int) * ((1 : Int) + (r : Int)) * (10 : Int) ^ Int.toNat 20)) H4
    rw [e2]
    refine q _ H4 (Nat.mul_pos (Nat.mul_pos (by omega) (by omega)) (by decide)) ?_ hB4 ((kb.trans kb3).trans kb4)
    have := Nat.mul_le_mul (Nat.mul_le_mul m1 r1) (Nat.le_refl (10 ^ 20))
    exact Nat.le_trans this (by decide)
  · exact ⟨_, rfl, q (1 + m) H3 (by omega) (Nat.le_trans m1 (by decide)) hB3 (kb.trans kb3)⟩
end
end TL
namespace TL
open PySem L2 PySem.NumText

/-! ### steps of a reading -/
local macro_rules | `(tactic| walk_at "hp") => `(tactic| first | assumption | exact upd_same | (refine (upd_ne (by first | assumption | (exact Ne.symm (by assumption)))).trans ?_; walk_at "hp"))
local macro_rules | `(tactic| walk_at "ok") => `(tactic| first | (exact Or.inr ⟨by decide, by decide⟩) | (exact ⟨by decide, by decide⟩) | (exact ⟨by decide, by decide, by decide⟩) | (show _ ≠ _; omega) | (show _ ≠ _; decide) | (exact Or.inl ⟨by omega, by omega⟩) | decide)
local macro_rules | `(tactic| walk_at "sq") => `(tactic| first | assumption | exact SqL.of (by walk_at "hp") | exact SqT.of (by walk_at "hp"))
local macro_rules | `(tactic| walk_at "ty") => `(tactic| first | refine ⟨_, _, Value.type "int", Value.type "list", false, rfl, ClsV.ty _, TyX.base (TyOf.int _), kt_int_list, ?_⟩ | refine ⟨_, _, Value.type "bool", Value.type "list", false, rfl, ClsV.ty _, TyX.base (TyOf.bl _), kt_bool_list, ?_⟩ | refine ⟨_, _, Value.type "str", Value.type "list", false, rfl, ClsV.ty _, TyX.base (TyOf.str _), kt_str_list, ?_⟩ | refine ⟨_, _, Value.type "NoneType", Value.type "list", false, rfl, ClsV.ty _, TyX.base TyOf.non, kt_NoneType_list, ?_⟩ | refine ⟨_, _, Value.type "list", Value.type "list", true, rfl, ClsV.ty _, tyx_L (by walk_at "sq"), kt_list_list, ?_⟩ | refine ⟨_, _, Value.type "tuple", Value.type "list", false, rfl, ClsV.ty _, tyx_T (by walk_at "sq"), kt_tuple_list, ?_⟩ | refine ⟨_, _, Value.type "int", Value.type "tuple", false, rfl, ClsV.ty _, TyX.base (TyOf.int _), kt_int_tuple, ?_⟩ | refine ⟨_, _, Value.type "bool", Value.type "tuple", false, rfl, ClsV.ty _, TyX.base (TyOf.bl _), kt_bool_tuple, ?_⟩ | refine ⟨_, _, Value.type "str", Value.type "tuple", false, rfl, ClsV.ty _, TyX.base (TyOf.str _), kt_str_tuple, ?_⟩ | refine ⟨_, _, Value.type "NoneType", Value.type "tuple", false, rfl, ClsV.ty _, TyX.base TyOf.non, kt_NoneType_tuple, ?_⟩ | refine ⟨_, _, Value.type "list", Value.type "tuple", false, rfl, ClsV.ty _, tyx_L (by walk_at "sq"), kt_list_tuple, ?_⟩ | refine ⟨_, _, Value.type "tuple", Value.type "tuple", true, rfl, ClsV.ty _, tyx_T (by walk_at "sq"), kt_tuple_tuple, ?_⟩ | refine ⟨_, _, Value.type "int", Value.type "bool", false, rfl, ClsV.ty _, TyX.base (TyOf.int _), kt_int_bool, ?_⟩ | refine ⟨_, _, Value.type "bool", Value.type "bool", true, rfl, ClsV.ty _, TyX.base (TyOf.bl _), kt_bool_bool, ?_⟩ | refine ⟨_, _, Value.type "str", Value.type "bool", false, rfl, ClsV.ty _, TyX.base (TyOf.str _), kt_str_bool, ?_⟩ | refine ⟨_, _, Value.type "NoneType", Value.type "bool", false, rfl, ClsV.ty _, TyX.base TyOf.non, kt_NoneType_bool, ?_⟩ | refine ⟨_, _, Value.type "list", Value.type "bool", false, rfl, ClsV.ty _, tyx_L (by walk_at "sq"), kt_list_bool, ?_⟩ | refine ⟨_, _, Value.type "tuple", Value.type "bool", false, rfl, ClsV.ty _, tyx_T (by walk_at "sq"), kt_tuple_bool, ?_⟩ | refine ⟨_, _, Value.type "int", Value.type "int", true, rfl, ClsV.ty _, TyX.base (TyOf.int _), kt_int_int, ?_⟩ | refine ⟨_, _, Value.type "bool", Value.type "int", true, rfl, ClsV.ty _, TyX.base (TyOf.bl _), kt_bool_int, ?_⟩ | refine ⟨_, _, Value.type "str", Value.type "int", false, rfl, ClsV.ty _, TyX.base (TyOf.str _), kt_str_int, ?_⟩ | refine ⟨_, _, Value.type "NoneType", Value.type "int", false, rfl, ClsV.ty _, TyX.base TyOf.non, kt_NoneType_int, ?_⟩ | refine ⟨_, _, Value.type "list", Value.type "int", false, rfl, ClsV.ty _, tyx_L (by walk_at "sq"), kt_list_int, ?_⟩ | refine ⟨_, _, Value.type "tuple", Value.type "int", false, rfl, ClsV.ty _, tyx_T (by walk_at "sq"), kt_tuple_int, ?_⟩ | refine ⟨_, _, Value.type "int", Value.type "str", false, rfl, ClsV.ty _, TyX.base (TyOf.int _), kt_int_str, ?_⟩ | refine ⟨_, _, Value.type "bool", Value.type "str", false, rfl, ClsV.ty _, TyX.base (TyOf.bl _), kt_bool_str, ?_⟩ | refine ⟨_, _, Value.type "str", Value.type "str", true, rfl, ClsV.ty _, TyX.base (TyOf.str _), kt_str_str, ?_⟩ | refine ⟨_, _, Value.type "NoneType", Value.type "str", false, rfl, ClsV.ty _, TyX.base TyOf.non, kt_NoneType_str, ?_⟩ | refine ⟨_, _, Value.type "list", Value.type "str", false, rfl, ClsV.ty _, tyx_L (by walk_at "sq"), kt_list_str, ?_⟩ | refine ⟨_, _, Value.type "tuple", Value.type "str", false, rfl, ClsV.ty _, tyx_T (by walk_at "sq"), kt_tuple_str, ?_⟩)
local macro_rules | `(tactic| walk_at "go1") => `(tactic| first
  | (refine ⟨_, rfl, ?_⟩)
  | (refine ⟨_, _, rfl, rfl, ?_⟩)
  | (refine ⟨_, _, _, _, rfl, rfl, SqL.of (by walk_at "hp"), rfl, ?_⟩)
  | (refine Or.inl ⟨_, rfl, ?_⟩)
  | (refine ⟨rfl, ?_⟩)
  | (refine ⟨_, _, rfl, .inl (SqL.of (by walk_at "hp")), ?_⟩)
  | (refine ⟨_, _, rfl, Or.inl (by assumption), ?_⟩)
  | (refine ⟨_, _, rfl, Or.inr (by assumption), ?_⟩)
  | (refine ⟨(by walk_at "ok"), ?_⟩)
  | (refine ⟨_, _, _, _, rfl, rfl, (by walk_at "hp"), rfl, ?_⟩))
local macro_rules | `(tactic| walk_at "go") => `(tactic| repeat (walk_at "go1"))
local macro_rules | `(tactic| walk_at "gt") => `(tactic| repeat (first | walk_at "go1" | walk_at "ty"))

section
variable {P : Program} {w : World} {K : PySem.W.Frag} {mg : Str → Option Value} {base : Heap}
-- [0=tone, 1=over, 2=under] [0=_law_x]
def numS (n : Int) : Str := Str.ofString (toString n)
def told (u d : Nat) : Str := if d = 1 then numS u else numS u ++ Str.ofString "/" ++ numS d
def Short (u : Nat) : Prop := u.log2 < 1920
def spToneText (K : PySem.W.Frag) : Sp := fun vs H Q _ => ∃ (t : Addr) (u d : Nat), vs = [.ref t] ∧ SqT K H t [.int (u : Int), .int (d : Int)] ∧ Short u ∧ Short d ∧ Q (.str (told u d)) H
theorem ok_tone_text (T : Tx K mg) : FnOk P w K mg base CX0 1 T.f_tone_text T.d_tone_text ["tone"] (spToneText K) := by
  refine T.F_tone_text.ok sc_tone_text (fun vs H Q E h => ?_) (fun cdv A outer s H vs Q E hr h => ?_)
  · obtain ⟨t, u, d, rfl, _⟩ := h
    rfl
  obtain ⟨t, u, d, rfl, ht, hu, hd, q⟩ := h
  have nd := sc_tone_text.nd
  refine ⟨_, (pss_cons (ps_asg (pv 0) (pg_tup rfl (pgs_cons (pg_name (i := 1) nd rfl (Or.inl rfl)) (pgs_cons (pg_name (i := 2) nd rfl (Or.inl rfl)) pgs_nil))))
    (pss_one (ps_ret (pe_ifExp (pt_cmpR op_eq (pv 2) pe_int (nomark _)) (pe_joined1 (pe_fmt (pv 1))) (pe_joined (PJ.cons (pe_fmt (pv 1)) (PJ.cons pe_str (PJ.cons (pe_fmt (pv 2)) PJ.nil)))))))), ?_⟩
  refine ⟨_, rfl, t, _, rfl, ht, rfl, _, _, rfl, _, _, rfl, rfl, ?_⟩
  refine ⟨_, rfl, rfl, _, rfl, ?_⟩
  refine ite2 (fun c => ?_) (fun c => ?_)
  · have c' := of_decide_eq_true c
    rw [V.int.injEq] at c'
    refine ⟨_, rfl, .inr ⟨_, rfl, (by rw [Int.natAbs_natCast]; exact hu), ?_⟩⟩
    have z : told u d = numS u := if_pos (by omega)
    rw [z] at q
    exact q
  · have c' : ¬ d = 1 := fun z => c (decide_eq_true (by rw [z]; rfl))
    have lu : (numS u).length ≤ 1921 := PyProof.Rows.int_text_len_1921 (by rw [Int.natAbs_natCast]; exact hu)
    have ld : (numS d).length ≤ 1921 := PyProof.Rows.int_text_len_1921 (by rw [Int.natAbs_natCast]; exact hd)
    have z : told u d = numS u ++ Str.ofString "/" ++ numS d := if_neg c'
    rw [z] at q
    have s9 : 10000 ≤ sizeLine := by decide
    refine ⟨_, rfl, .inr ⟨_, rfl, (by rw [Int.natAbs_natCast]; exact hu), _, rfl, ?_, ?_⟩⟩
    · show (Str.empty ++ numS u).length ≤ sizeLine
      rw [Str.empty_append]
      omega
    show ∃ y, _
    rw [show Str.empty ++ Str.ofString (toString ((u : Nat) : Int)) = numS u from Str.empty_append _]
    refine ⟨_, rfl, ?_, ?_⟩
    · rw [Str.length_append, show (Str.ofString "/").length = 1 from rfl]
      omega
    refine ⟨_, rfl, .inr ⟨_, rfl, (by rw [Int.natAbs_natCast]; exact hd), _, rfl, ?_, q⟩⟩
    show (numS u ++ Str.ofString "/" ++ numS d).length ≤ sizeLine
    rw [Str.length_append, Str.length_append, show (Str.ofString "/").length = 1 from rfl]
    omega
def spSaid (K : PySem.W.Frag) : Sp := fun vs H Q _ => ∃ (p : Addr) (u d : Nat), vs = [.ref p] ∧ SqT K H p [.int (u : Int), .int (d : Int)] ∧ Short u ∧ Short d ∧ Q (.str (told u d)) H
theorem ok_l_said (T : Tx K mg) : FnOk P w K mg base CX0 1 T.f_l_said T.d_l_said ["_law_x"] (spSaid K) := by
  refine T.F_l_said.ok sc_l_said (fun vs H Q E h => ?_) (fun cdv A outer s H vs Q E hr h => ?_)
  · obtain ⟨p, u, d, rfl, _⟩ := h
    rfl
  obtain ⟨p, u, d, rfl, he, hs1, hs2, q⟩ := h
  refine ⟨_, (pss_one (ps_ret (pe_ifExp (pt_cmpR op_eq (pe_ix (show IxR _ (rIxT K) from ix_tup) (pv 0) pe_int (fun _ _ => rfl)) pe_int (nomark _)) (pe_callTy call_str_int (by rfl) T.z_str (by decide +kernel) (pa_cons (pe_ix (show IxR _ (rIxT K) from ix_tup) (pv 0) pe_int (fun _ _ => rfl)) pa_nil)) (pe_op op_add_str (pe_op op_add_str (pe_callTy call_str_int (by rfl) T.z_str (by decide +kernel) (pa_cons (pe_ix (show IxR _ (rIxT K) from ix_tup) (pv 0) pe_int (fun _ _ => rfl)) pa_nil)) pe_str) (pe_callTy call_str_int (by rfl) T.z_str (by decide +kernel) (pa_cons (pe_ix (show IxR _ (rIxT K) from ix_tup) (pv 0) pe_int (fun _ _ => rfl)) pa_nil)))))), ?_⟩
  refine ⟨_, rfl, _, _, _, _, rfl, rfl, he, rfl, rfl, _, rfl, ?_⟩
  refine ite2 (fun c => ?_) (fun c => ?_)
  · have c' := of_decide_eq_true c
    rw [V.int.injEq] at c'
    refine ⟨_, rfl, _, _, _, _, rfl, rfl, he, rfl, _, rfl, (by rw [Int.natAbs_natCast]; exact hs1), ?_⟩
    have z : told u d = numS u := if_pos (by omega)
    rw [z] at q
    exact q
  · have c' : ¬ d = 1 := fun z => c (decide_eq_true (by rw [z]; rfl))
    have lu : (numS u).length ≤ 1921 := PyProof.Rows.int_text_len_1921 (by rw [Int.natAbs_natCast]; exact hs1)
    have ld : (numS d).length ≤ 1921 := PyProof.Rows.int_text_len_1921 (by rw [Int.natAbs_natCast]; exact hs2)
    have s9 : 10000 ≤ sizeLine := by decide
    have z : told u d = numS u ++ Str.ofString "/" ++ numS d := if_neg c'
    rw [z] at q
    refine ⟨_, rfl, _, _, _, _, rfl, rfl, he, rfl, _, rfl, (by rw [Int.natAbs_natCast]; exact hs1), _, _, rfl, rfl, ?_, ?_⟩
    · show (numS u).length + (Str.ofString "/").length ≤ sizeLine
      rw [show (Str.ofString "/").length = 1 from rfl]
      omega
    refine ⟨_, rfl, _, _, _, _, rfl, rfl, he, rfl, _, rfl, (by rw [Int.natAbs_natCast]; exact hs2), _, _, rfl, rfl, ?_, q⟩
    show (numS u ++ Str.ofString "/").length + (numS d).length ≤ sizeLine
    rw [Str.length_append, show (Str.ofString "/").length = 1 from rfl]
    omega
end
end TL
namespace TL
open PySem PySem.NumText L2 PySem.W PySem.W.KIN PyProof.Rows
theorem head_digit : ∀ m : Nat, 1 ≤ m → ((Nat.toDigits 10 m).map Char.toNat).head? ≠ some 48 := by
  intro m
  induction m using Nat.strongRecOn with
  | _ m ih =>
    intro h1
    by_cases h : m < 10
    · rw [Nat.toDigits_of_lt_base h]
      have : ∀ d : Nat, d < 10 → 1 ≤ d → ([Nat.digitChar d].map Char.toNat).head? ≠ some 48 := by decide
      exact this m h h1
    · have hm : m % 10 < 10 := Nat.mod_lt m (by decide)
      have t : Nat.toDigits 10 (m / 10) ++ Nat.toDigits 10 (m % 10) = Nat.toDigits 10 (10 * (m / 10) + m % 10) := Nat.toDigits_append_toDigits (by decide) (by omega) hm
      rw [Nat.div_add_mod] at t
      have hi := ih (m / 10) (by omega) (by omega)
      rw [← t, List.map_append]
      cases e : (Nat.toDigits 10 (m / 10)).map Char.toNat with
      | nil =>
        have h := toDigits_len_ge 10 (m / 10)
        rw [List.map_eq_nil_iff.mp e] at h
        exact absurd h (by decide)
      | cons c cs =>
        rw [e] at hi
        exact hi
theorem digs_num (m : Nat) : allIn DIG (Str.ofString (toString ((m : Nat) : Int))) = true := by
  unfold allIn
  rw [signs_num]
  refine List.all_eq_true.mpr fun c hc => decide_eq_true ?_
  obtain ⟨ch, hch, e⟩ := List.mem_map.mp hc
  have r := digit_range (Nat.isDigit_of_mem_toDigits (by decide) (by decide) hch)
  rw [e] at r
  have e2 : DIG.cps.toList = [48, 49, 50, 51, 52, 53, 54, 55, 56, 57] := by decide +kernel
  rw [e2]
  have h1 := r.1
  have h2 := r.2
  simp only [List.mem_cons, List.not_mem_nil]
  omega
theorem numO_num {m : Nat} (h1 : 1 ≤ m) (h2 : (Str.ofString (toString ((m : Nat) : Int))).length ≤ 2000) : numO (Str.ofString (toString ((m : Nat) : Int))) = some m := by
  have hl : (Str.ofString (toString ((m : Nat) : Int))).cps.toList.length = (Str.ofString (toString ((m : Nat) : Int))).length := Array.length_toList
  have h0 : 1 ≤ (Str.ofString (toString ((m : Nat) : Int))).length := by
    rw [← hl, signs_num, List.length_map]
    exact toDigits_len_ge 10 m
  have hh : (Str.ofString (toString ((m : Nat) : Int))).cps.toList.head? ≠ some 48 := by
    rw [signs_num]
    exact head_digit m h1
  unfold numO
  rw [if_pos ⟨h0, h2, hh, digs_num m⟩, signs_num, val_back]
theorem tl_sl : tl SL = [47] := by decide +kernel
theorem no_slash (m : Nat) : 47 ∉ tl (Str.ofString (toString ((m : Nat) : Int))) := fun h => by
  have h1 : (Str.ofString (toString ((m : Nat) : Int))).cps.toList.all (fun c => decide (c ∈ DIG.cps.toList)) = true := digs_num m
  have h2 := of_decide_eq_true (List.all_eq_true.mp h1 47 h)
  have := dig_range 47 h2
  omega
theorem tl_ext {x : Str} : (⟨(tl x).toArray⟩ : Str) = x := by
  cases x with
  | mk c => rfl
theorem part_whole (m : Nat) : Txt.partition (Str.ofString (toString ((m : Nat) : Int))) SL = (Str.ofString (toString ((m : Nat) : Int)), Str.empty, Str.empty) := by
  rw [partition_par _ SL (by rw [tl_sl]; decide), tl_sl, par_none1 (no_slash m)]
theorem part_frac (u d : Nat) : Txt.partition (Str.ofString (toString ((u : Nat) : Int)) ++ SL ++ Str.ofString (toString ((d : Nat) : Int))) SL = (Str.ofString (toString ((u : Nat) : Int)), SL, Str.ofString (toString ((d : Nat) : Int))) := by
  rw [partition_par _ SL (by rw [tl_sl]; decide)]
  have e : tl (Str.ofString (toString ((u : Nat) : Int)) ++ SL ++ Str.ofString (toString ((d : Nat) : Int))) = tl (Str.ofString (toString ((u : Nat) : Int))) ++ ([47] ++ tl (Str.ofString (toString ((d : Nat) : Int)))) := by
    rw [tl_append, tl_append, tl_sl, List.append_assoc]
  rw [e, tl_sl, par_part1 (S := []) (no_slash u)]
  show ((⟨([] ++ tl _).toArray⟩ : Str), SL, (⟨(tl _).toArray⟩ : Str)) = _
  rw [List.nil_append, tl_ext, tl_ext]
end TL
namespace TL
open PySem L2 PySem.NumText

/-! ### steps of a reading -/
local macro_rules | `(tactic| walk_at "hp") => `(tactic| first | assumption | exact upd_same | (refine (upd_ne (by first | assumption | (exact Ne.symm (by assumption)))).trans ?_; walk_at "hp"))
local macro_rules | `(tactic| walk_at "ok") => `(tactic| first | (exact Or.inr ⟨by decide, by decide⟩) | (exact ⟨by decide, by decide⟩) | (exact ⟨by decide, by decide, by decide⟩) | (show _ ≠ _; omega) | (show _ ≠ _; decide) | (exact Or.inl ⟨by omega, by omega⟩) | decide)
local macro_rules | `(tactic| walk_at "sq") => `(tactic| first | assumption | exact SqL.of (by walk_at "hp") | exact SqT.of (by walk_at "hp"))
local macro_rules | `(tactic| walk_at "ty") => `(tactic| first | refine ⟨_, _, Value.type "int", Value.type "list", false, rfl, ClsV.ty _, TyX.base (TyOf.int _), kt_int_list, ?_⟩ | refine ⟨_, _, Value.type "bool", Value.type "list", false, rfl, ClsV.ty _, TyX.base (TyOf.bl _), kt_bool_list, ?_⟩ | refine ⟨_, _, Value.type "str", Value.type "list", false, rfl, ClsV.ty _, TyX.base (TyOf.str _), kt_str_list, ?_⟩ | refine ⟨_, _, Value.type "NoneType", Value.type "list", false, rfl, ClsV.ty _, TyX.base TyOf.non, kt_NoneType_list, ?_⟩ | refine ⟨_, _, Value.type "list", Value.type "list", true, rfl, ClsV.ty _, tyx_L (by walk_at "sq"), kt_list_list, ?_⟩ | refine ⟨_, _, Value.type "tuple", Value.type "list", false, rfl, ClsV.ty _, tyx_T (by walk_at "sq"), kt_tuple_list, ?_⟩ | refine ⟨_, _, Value.type "int", Value.type "tuple", false, rfl, ClsV.ty _, TyX.base (TyOf.int _), kt_int_tuple, ?_⟩ | refine ⟨_, _, Value.type "bool", Value.type "tuple", false, rfl, ClsV.ty _, TyX.base (TyOf.bl _), kt_bool_tuple, ?_⟩ | refine ⟨_, _, Value.type "str", Value.type "tuple", false, rfl, ClsV.ty _, TyX.base (TyOf.str _), kt_str_tuple, ?_⟩ | refine ⟨_, _, Value.type "NoneType", Value.type "tuple", false, rfl, ClsV.ty _, TyX.base TyOf.non, kt_NoneType_tuple, ?_⟩ | refine ⟨_, _, Value.type "list", Value.type "tuple", false, rfl, ClsV.ty _, tyx_L (by walk_at "sq"), kt_list_tuple, ?_⟩ | refine ⟨_, _, Value.type "tuple", Value.type "tuple", true, rfl, ClsV.ty _, tyx_T (by walk_at "sq"), kt_tuple_tuple, ?_⟩ | refine ⟨_, _, Value.type "int", Value.type "bool", false, rfl, ClsV.ty _, TyX.base (TyOf.int _), kt_int_bool, ?_⟩ | refine ⟨_, _, Value.type "bool", Value.type "bool", true, rfl, ClsV.ty _, TyX.base (TyOf.bl _), kt_bool_bool, ?_⟩ | refine ⟨_, _, Value.type "str", Value.type "bool", false, rfl, ClsV.ty _, TyX.base (TyOf.str _), kt_str_bool, ?_⟩ | refine ⟨_, _, Value.type "NoneType", Value.type "bool", false, rfl, ClsV.ty _, TyX.base TyOf.non, kt_NoneType_bool, ?_⟩ | refine ⟨_, _, Value.type "list", Value.type "bool", false, rfl, ClsV.ty _, tyx_L (by walk_at "sq"), kt_list_bool, ?_⟩ | refine ⟨_, _, Value.type "tuple", Value.type "bool", false, rfl, ClsV.ty _, tyx_T (by walk_at "sq"), kt_tuple_bool, ?_⟩ | refine ⟨_, _, Value.type "int", Value.type "int", true, rfl, ClsV.ty _, TyX.base (TyOf.int _), kt_int_int, ?_⟩ | refine ⟨_, _, Value.type "bool", Value.type "int", true, rfl, ClsV.ty _, TyX.base (TyOf.bl _), kt_bool_int, ?_⟩ | refine ⟨_, _, Value.type "str", Value.type "int", false, rfl, ClsV.ty _, TyX.base (TyOf.str _), kt_str_int, ?_⟩ | refine ⟨_, _, Value.type "NoneType", Value.type "int", false, rfl, ClsV.ty _, TyX.base TyOf.non, kt_NoneType_int, ?_⟩ | refine ⟨_, _, Value.type "list", Value.type "int", false, rfl, ClsV.ty _, tyx_L (by walk_at "sq"), kt_list_int, ?_⟩ | refine ⟨_, _, Value.type "tuple", Value.type "int", false, rfl, ClsV.ty _, tyx_T (by walk_at "sq"), kt_tuple_int, ?_⟩ | refine ⟨_, _, Value.type "int", Value.type "str", false, rfl, ClsV.ty _, TyX.base (TyOf.int _), kt_int_str, ?_⟩ | refine ⟨_, _, Value.type "bool", Value.type "str", false, rfl, ClsV.ty _, TyX.base (TyOf.bl _), kt_bool_str, ?_⟩ | refine ⟨_, _, Value.type "str", Value.type "str", true, rfl, ClsV.ty _, TyX.base (TyOf.str _), kt_str_str, ?_⟩ | refine ⟨_, _, Value.type "NoneType", Value.type "str", false, rfl, ClsV.ty _, TyX.base TyOf.non, kt_NoneType_str, ?_⟩ | refine ⟨_, _, Value.type "list", Value.type "str", false, rfl, ClsV.ty _, tyx_L (by walk_at "sq"), kt_list_str, ?_⟩ | refine ⟨_, _, Value.type "tuple", Value.type "str", false, rfl, ClsV.ty _, tyx_T (by walk_at "sq"), kt_tuple_str, ?_⟩)
local macro_rules | `(tactic| walk_at "go1") => `(tactic| first
  | (refine ⟨_, rfl, ?_⟩)
  | (refine ⟨_, _, rfl, rfl, ?_⟩)
  | (refine ⟨_, _, _, _, rfl, rfl, SqL.of (by walk_at "hp"), rfl, ?_⟩)
  | (refine Or.inl ⟨_, rfl, ?_⟩)
  | (refine ⟨rfl, ?_⟩)
  | (refine ⟨_, _, rfl, .inl (SqL.of (by walk_at "hp")), ?_⟩)
  | (refine ⟨_, _, rfl, Or.inl (by assumption), ?_⟩)
  | (refine ⟨_, _, rfl, Or.inr (by assumption), ?_⟩)
  | (refine ⟨(by walk_at "ok"), ?_⟩)
  | (refine ⟨_, _, _, _, rfl, rfl, (by walk_at "hp"), rfl, ?_⟩))
local macro_rules | `(tactic| walk_at "go") => `(tactic| repeat (walk_at "go1"))
local macro_rules | `(tactic| walk_at "gt") => `(tactic| repeat (first | walk_at "go1" | walk_at "ty"))

section
variable {P : Program} {w : World} {K : PySem.W.Frag} {mg : Str → Option Value} {base : Heap}
theorem short_len {m : Nat} (h : Short m) : (Str.ofString (toString ((m : Nat) : Int))).length ≤ 1921 := PyProof.Rows.int_text_len_1921 (by rw [Int.natAbs_natCast]; exact h)
theorem pair_frac {u d : Nat} (hu : 1 ≤ u) (hd : 1 ≤ d) (su : Short u) (sd : Short d) : pairO (Str.ofString (toString ((u : Nat) : Int)) ++ SL ++ Str.ofString (toString ((d : Nat) : Int))) = if d = 1 ∨ ¬ Nat.gcd u d = 1 then none else some (u, d) := by
  have nsl : ¬ SL = Str.empty := by decide +kernel
  unfold pairO
  rw [part_frac]
  dsimp only
  rw [numO_num hu (Nat.le_trans (short_len su) (by decide)), numO_num hd (Nat.le_trans (short_len sd) (by decide))]
  dsimp only
  rw [if_neg nsl]
theorem pair_told {u d : Nat} (hu : 1 ≤ u) (hd : 1 ≤ d) (g : Nat.gcd u d = 1) (su : Short u) (sd : Short d) : pairO (told u d) = some (u, d) := by
  unfold told
  by_cases h : d = 1
  · rw [if_pos h]
    unfold pairO numS
    rw [part_whole]
    dsimp only
    rw [numO_num hu (Nat.le_trans (short_len su) (by decide))]
    dsimp only
    rw [if_pos rfl, h]
  · rw [if_neg h]
    have := pair_frac hu hd su sd
    rw [if_neg (fun z => z.elim h (fun z => z g))] at this
    exact this
theorem told_short {u d : Nat} (su : Short u) (sd : Short d) : Asc 4000 (told u d) := by
  have asc1 : ∀ m : Nat, Short m → Asc 1921 (Str.ofString (toString ((m : Nat) : Int))) := fun m h => ⟨short_len h, fun c hc => by
    have h1 := List.all_eq_true.mp (digs_num m) c hc
    have := dig_range c (of_decide_eq_true h1)
    omega⟩
  unfold told numS
  by_cases h : d = 1
  · rw [if_pos h]
    exact (asc1 u su).le (by decide)
  · rw [if_neg h]
    have sl : Asc 1 (Str.ofString "/") := by
      have h : (Str.ofString "/").length ≤ 1 ∧ ∀ c ∈ (Str.ofString "/").cps.toList, c < 128 := by decide +kernel
      exact h
    exact (asc_app (asc_app (asc1 u su) sl) (asc1 d sd)).le (by decide)
end
end TL
namespace TL
open PySem PySem.Spec PyProof.Rows L2
/-! ### text * number -/
def repS (x : Str) (n : Nat) : Str := ⟨(List.replicate n x.cps).foldl (· ++ ·) #[]⟩
theorem repS_toList (x : Str) : ∀ n, (repS x n).cps.toList = (List.replicate n x.cps.toList).flatten := fun n => by
  unfold repS
  have h : ∀ (l : List (Array Nat)) (acc : Array Nat), (l.foldl (· ++ ·) acc).toList = acc.toList ++ (l.map (·.toList)).flatten := by
    intro l
    induction l with
    | nil => intro acc; simp
    | cons y l ih =>
      intro acc
      rw [List.foldl_cons, ih]
      simp
  show ((List.replicate n x.cps).foldl (· ++ ·) #[]).toList = _
  rw [h]
  simp
theorem repS_len (x : Str) (n : Nat) : (repS x n).length = n * x.length := by
  show (repS x n).cps.size = n * x.cps.size
  rw [← Array.length_toList, repS_toList]
  simp
section
variable {X : Cx}
theorem op_repS : OpR X (binaryOp .Mult) (fun x y H Q => ∃ (a : Str) (n : Nat), x = .str a ∧ y = .int (n : Int) ∧ 0 < a.length ∧ a.length ≤ 1000 ∧ n ≤ 10000 ∧ Q (.str (repS a n)) H) := by
  intro pins s σ H x y v u Q I rx ry h
  obtain ⟨a, n, rfl, rfl, h0, h1, h2, q⟩ := h
  obtain ⟨t, rfl⟩ := rx
  obtain ⟨t', rfl⟩ := ry
  refine P.mul_str ?_ ?_ ?_ ?_
  · rw [decide_eq_false (by omega), decide_eq_false (by omega)]
    rfl
  · intro c1 _
    have hn : (0 : Int) < (n : Int) := by omega
    have h3 : (1000 : Int) ≤ (2 ^ 63 - 1) / (n : Int) := (Int.le_ediv_iff_mul_le hn).mpr (by omega)
    omega
  · intro _ _
    show decide (a.length * (n : Int).toNat > sizeLine) = false
    refine decide_eq_false (Nat.not_lt.mpr ?_)
    rw [Int.toNat_natCast]
    exact Nat.le_trans (Nat.mul_le_mul h1 h2) (by decide)
  · by_cases c1 : (n : Int) < 1
    · rw [if_pos c1]
      obtain rfl : n = 0 := by omega
      exact ⟨by decide, .str Str.empty, H, I.tok _, ⟨_, rfl⟩, q⟩
    · rw [if_neg c1]
      by_cases c2 : n = 1
      · subst c2
        rw [if_pos (by rfl)]
        have e : repS a 1 = a := by
          unfold repS
          cases a
          simp
        rw [e] at q
        exact ⟨.str a, H, I, ⟨_, rfl⟩, q⟩
      · have c3 : ((n : Int) == 1 || a.length == 0) = false := by
          rw [beq_false_of_ne (by omega), beq_false_of_ne (by omega)]
          rfl
        rw [if_neg (by rw [c3]; decide), Int.toNat_natCast]
        refine ⟨?_, .str (repS a n), H, I.tok _, ⟨_, rfl⟩, q⟩
        show (repS a n).length ≤ sizeLine
        rw [repS_len]
        exact Nat.le_trans (Nat.mul_le_mul h2 h1) (by decide)
end
end TL
namespace TL
open PySem L2 PySem.NumText

/-! ### steps of a reading -/
local macro_rules | `(tactic| walk_at "hp") => `(tactic| first | assumption | exact upd_same | (refine (upd_ne (by first | assumption | (exact Ne.symm (by assumption)))).trans ?_; walk_at "hp"))
local macro_rules | `(tactic| walk_at "ok") => `(tactic| first | (exact Or.inr ⟨by decide, by decide⟩) | (exact ⟨by decide, by decide⟩) | (exact ⟨by decide, by decide, by decide⟩) | (show _ ≠ _; omega) | (show _ ≠ _; decide) | (exact Or.inl ⟨by omega, by omega⟩) | decide)
local macro_rules | `(tactic| walk_at "sq") => `(tactic| first | assumption | exact SqL.of (by walk_at "hp") | exact SqT.of (by walk_at "hp"))
local macro_rules | `(tactic| walk_at "ty") => `(tactic| first | refine ⟨_, _, Value.type "int", Value.type "list", false, rfl, ClsV.ty _, TyX.base (TyOf.int _), kt_int_list, ?_⟩ | refine ⟨_, _, Value.type "bool", Value.type "list", false, rfl, ClsV.ty _, TyX.base (TyOf.bl _), kt_bool_list, ?_⟩ | refine ⟨_, _, Value.type "str", Value.type "list", false, rfl, ClsV.ty _, TyX.base (TyOf.str _), kt_str_list, ?_⟩ | refine ⟨_, _, Value.type "NoneType", Value.type "list", false, rfl, ClsV.ty _, TyX.base TyOf.non, kt_NoneType_list, ?_⟩ | refine ⟨_, _, Value.type "list", Value.type "list", true, rfl, ClsV.ty _, tyx_L (by walk_at "sq"), kt_list_list, ?_⟩ | refine ⟨_, _, Value.type "tuple", Value.type "list", false, rfl, ClsV.ty _, tyx_T (by walk_at "sq"), kt_tuple_list, ?_⟩ | refine ⟨_, _, Value.type "int", Value.type "tuple", false, rfl, ClsV.ty _, TyX.base (TyOf.int _), kt_int_tuple, ?_⟩ | refine ⟨_, _, Value.type "bool", Value.type "tuple", false, rfl, ClsV.ty _, TyX.base (TyOf.bl _), kt_bool_tuple, ?_⟩ | refine ⟨_, _, Value.type "str", Value.type "tuple", false, rfl, ClsV.ty _, TyX.base (TyOf.str _), kt_str_tuple, ?_⟩ | refine ⟨_, _, Value.type "NoneType", Value.type "tuple", false, rfl, ClsV.ty _, TyX.base TyOf.non, kt_NoneType_tuple, ?_⟩ | refine ⟨_, _, Value.type "list", Value.type "tuple", false, rfl, ClsV.ty _, tyx_L (by walk_at "sq"), kt_list_tuple, ?_⟩ | refine ⟨_, _, Value.type "tuple", Value.type "tuple", true, rfl, ClsV.ty _, tyx_T (by walk_at "sq"), kt_tuple_tuple, ?_⟩ | refine ⟨_, _, Value.type "int", Value.type "bool", false, rfl, ClsV.ty _, TyX.base (TyOf.int _), kt_int_bool, ?_⟩ | refine ⟨_, _, Value.type "bool", Value.type "bool", true, rfl, ClsV.ty _, TyX.base (TyOf.bl _), kt_bool_bool, ?_⟩ | refine ⟨_, _, Value.type "str", Value.type "bool", false, rfl, ClsV.ty _, TyX.base (TyOf.str _), kt_str_bool, ?_⟩ | refine ⟨_, _, Value.type "NoneType", Value.type "bool", false, rfl, ClsV.ty _, TyX.base TyOf.non, kt_NoneType_bool, ?_⟩ | refine ⟨_, _, Value.type "list", Value.type "bool", false, rfl, ClsV.ty _, tyx_L (by walk_at "sq"), kt_list_bool, ?_⟩ | refine ⟨_, _, Value.type "tuple", Value.type "bool", false, rfl, ClsV.ty _, tyx_T (by walk_at "sq"), kt_tuple_bool, ?_⟩ | refine ⟨_, _, Value.type "int", Value.type "int", true, rfl, ClsV.ty _, TyX.base (TyOf.int _), kt_int_int, ?_⟩ | refine ⟨_, _, Value.type "bool", Value.type "int", true, rfl, ClsV.ty _, TyX.base (TyOf.bl _), kt_bool_int, ?_⟩ | refine ⟨_, _, Value.type "str", Value.type "int", false, rfl, ClsV.ty _, TyX.base (TyOf.str _), kt_str_int, ?_⟩ | refine ⟨_, _, Value.type "NoneType", Value.type "int", false, rfl, ClsV.ty _, TyX.base TyOf.non, kt_NoneType_int, ?_⟩ | refine ⟨_, _, Value.type "list", Value.type "int", false, rfl, ClsV.ty _, tyx_L (by walk_at "sq"), kt_list_int, ?_⟩ | refine ⟨_, _, Value.type "tuple", Value.type "int", false, rfl, ClsV.ty _, tyx_T (by walk_at "sq"), kt_tuple_int, ?_⟩ | refine ⟨_, _, Value.type "int", Value.type "str", false, rfl, ClsV.ty _, TyX.base (TyOf.int _), kt_int_str, ?_⟩ | refine ⟨_, _, Value.type "bool", Value.type "str", false, rfl, ClsV.ty _, TyX.base (TyOf.bl _), kt_bool_str, ?_⟩ | refine ⟨_, _, Value.type "str", Value.type "str", true, rfl, ClsV.ty _, TyX.base (TyOf.str _), kt_str_str, ?_⟩ | refine ⟨_, _, Value.type "NoneType", Value.type "str", false, rfl, ClsV.ty _, TyX.base TyOf.non, kt_NoneType_str, ?_⟩ | refine ⟨_, _, Value.type "list", Value.type "str", false, rfl, ClsV.ty _, tyx_L (by walk_at "sq"), kt_list_str, ?_⟩ | refine ⟨_, _, Value.type "tuple", Value.type "str", false, rfl, ClsV.ty _, tyx_T (by walk_at "sq"), kt_tuple_str, ?_⟩)
local macro_rules | `(tactic| walk_at "go1") => `(tactic| first
  | (refine ⟨_, rfl, ?_⟩)
  | (refine ⟨_, _, rfl, rfl, ?_⟩)
  | (refine ⟨_, _, _, _, rfl, rfl, SqL.of (by walk_at "hp"), rfl, ?_⟩)
  | (refine Or.inl ⟨_, rfl, ?_⟩)
  | (refine ⟨rfl, ?_⟩)
  | (refine ⟨_, _, rfl, .inl (SqL.of (by walk_at "hp")), ?_⟩)
  | (refine ⟨_, _, rfl, Or.inl (by assumption), ?_⟩)
  | (refine ⟨_, _, rfl, Or.inr (by assumption), ?_⟩)
  | (refine ⟨(by walk_at "ok"), ?_⟩)
  | (refine ⟨_, _, _, _, rfl, rfl, (by walk_at "hp"), rfl, ?_⟩))
local macro_rules | `(tactic| walk_at "go") => `(tactic| repeat (walk_at "go1"))
local macro_rules | `(tactic| walk_at "gt") => `(tactic| repeat (first | walk_at "go1" | walk_at "ty"))

section
variable {P : Program} {w : World} {K : PySem.W.Frag} {mg : Str → Option Value} {base : Heap}
-- [0=_law_bag_here, 1=_law_told, 2=_law_j, 3=_law_sign_here]
def bents (t : Str) : List Str := [Str.ofString "0" ++ t, t ++ Str.ofString "/1", t ++ Str.ofString "/", Str.ofString "/" ++ t, t ++ Str.ofString "\n", Str.ofString " " ++ t, Str.ofString "+" ++ t]
theorem bents_asc {t : Str} (h : Asc 4000 t) : ∀ a ∈ bents t, Asc 9000 a := fun a ha => by
  have k : ∀ s ∈ (["0", "/1", "/", "\n", " ", "+"] : List String).map Str.ofString, s.length ≤ 2 ∧ ∀ c ∈ s.cps.toList, c < 128 := by decide +kernel
  have k' : ∀ s ∈ (["0", "/1", "/", "\n", " ", "+"] : List String).map Str.ofString, Asc 2 s := k
  simp only [bents, List.mem_cons, List.not_mem_nil, or_false] at ha
  rcases ha with rfl | rfl | rfl | rfl | rfl | rfl | rfl
  · exact (asc_app (k' _ (by simp)) h).le (by decide)
  · exact (asc_app h (k' _ (by simp))).le (by decide)
  · exact (asc_app h (k' _ (by simp))).le (by decide)
  · exact (asc_app (k' _ (by simp)) h).le (by decide)
  · exact (asc_app h (k' _ (by simp))).le (by decide)
  · exact (asc_app (k' _ (by simp)) h).le (by decide)
  · exact (asc_app (k' _ (by simp)) h).le (by decide)
theorem asc_one {c : Nat} (h : c < 128) : Asc 1 (⟨#[c]⟩ : Str) := ⟨Nat.le_refl 1, fun d hd => by
  have : d = c := by simpa using hd
  omega⟩
theorem asc_rep {n : Nat} {a : Str} (h : Asc n a) (k : Nat) : Asc (k * n) (repS a k) := ⟨by
  rw [repS_len]
  exact Nat.mul_le_mul (Nat.le_refl k) h.1, fun c hc => by
  rw [repS_toList] at hc
  obtain ⟨l, hl, hcl⟩ := List.mem_flatten.mp hc
  rw [(List.mem_replicate.mp hl).2] at hcl
  exact h.2 c hcl⟩
def spBent : Sp := fun vs H Q _ => ∃ (B : Bg) (t : Str), vs = [.ref B.b, .str t] ∧ Asc 4000 t ∧ Bag B H ∧ ∀ a H', Asc 9000 a → Bag B H' → Kb B.b H H' → Q (.str a) H'
theorem ok_l_bent (T : Tx K mg) : FnOk P w K mg base CX0 3 T.f_l_bent T.d_l_bent ["_law_bag_here", "_law_told"] spBent := by
  have G_l_draw := ok_draw (P := P) (w := w) (base := base) T
  have G_l_of := FnOk.or2 (ok_of (P := P) (w := w) (base := base) T) (ok_ofS (P := P) (w := w) (base := base) T)
  refine T.F_l_bent.ok sc_l_bent (fun vs H Q E h => ?_) (fun cdv A outer s H vs Q E hr h => ?_)
  · obtain ⟨B, t, rfl, _⟩ := h
    rfl
  obtain ⟨B, t, rfl, hA, hB, q⟩ := h
  have nd := sc_l_bent.nd
  have hsz : t.length ≤ sizeLine := Nat.le_trans hA.1 (by decide)
  have sz : ∀ s : Str, s.length ≤ 2 → t.length + s.length ≤ sizeLine := fun s hs => Nat.le_trans (Nat.add_le_add hA.1 hs) (by decide)
  have szL : ∀ s : Str, s.length ≤ 2 → s.length + t.length ≤ sizeLine := fun s hs => by
    rw [Nat.add_comm]
    exact sz s hs
  refine ⟨_, (pss_cons (ps_if (pt_cmpR op_eq (pe_call G_l_draw (hr.mono (by decide)) (by rfl) T.m_l_draw T.F_l_draw.kp T.b_l_draw .nil pass0 (pa_cons (pv 0) (pa_cons pe_int pa_nil))) pe_int (nomark _)) (pss_one (ps_ret (pe_call G_l_of (hr.mono (by decide)) (by rfl) T.m_l_of T.F_l_of.kp T.b_l_of .nil pass0 (pa_cons (pv 0) (pa_cons (pe_lst (pa_cons (pe_op op_add_str pe_str (pv 1)) (pa_cons (pe_op op_add_str (pv 1) pe_str) (pa_cons (pe_op op_add_str (pv 1) pe_str) (pa_cons (pe_op op_add_str pe_str (pv 1)) (pa_cons (pe_op op_add_str (pv 1) pe_str) (pa_cons (pe_op op_add_str pe_str (pv 1)) (pa_cons (pe_op op_add_str pe_str (pv 1)) pa_nil)))))))) pa_nil))))) pss_nil)
    (pss_cons (ps_set (i := 2) nd rfl (Or.inl rfl) (pe_call G_l_draw (hr.mono (by decide)) (by rfl) T.m_l_draw T.F_l_draw.kp T.b_l_draw .nil pass0 (pa_cons (pv 0) (pa_cons (pe_op op_add (pe_callB call_len_str (by rfl) T.z_len (by decide +kernel) (pa_cons (pv 1) pa_nil)) pe_int) pa_nil))))
    (pss_cons (ps_set (i := 3) nd rfl (Or.inl rfl) (pe_call G_l_of (hr.mono (by decide)) (by rfl) T.m_l_of T.F_l_of.kp T.b_l_of .nil pass0 (pa_cons (pv 0) (pa_cons pe_str pa_nil))))
    (pss_one (ps_ret (pe_op op_add_str (pe_op op_add_str (pe_slice sl_str (pv 1) po_none (po_some (pv 2))) (pe_op op_repS (pv 3) (pe_call G_l_draw (hr.mono (by decide)) (by rfl) T.m_l_draw T.F_l_draw.kp T.b_l_draw .nil pass0 (pa_cons (pv 0) (pa_cons pe_int pa_nil))))) (pe_slice sl_str (pv 1) (po_some (pe_op op_add (pv 2) (pe_call G_l_draw (hr.mono (by decide)) (by rfl) T.m_l_draw T.F_l_draw.kp T.b_l_draw .nil pass0 (pa_cons (pv 0) (pa_cons pe_int pa_nil))))) po_none))))))), ?_⟩
  refine ⟨_, rfl, B, 5, rfl, by decide, by decide, hB, fun d H1 d0 d1 hB1 kb1 => ⟨rfl, _, rfl, ?_⟩⟩
  refine ite2 (fun c => ?_) (fun c => ?_)
  · refine ⟨_, rfl, _, rfl, _, _, rfl, rfl, szL _ (by decide +kernel), _, rfl, _, _, rfl, rfl, sz _ (by decide +kernel), _, rfl, _, _, rfl, rfl, sz _ (by decide +kernel), _, rfl, _, _, rfl, rfl, szL _ (by decide +kernel), _, rfl, _, _, rfl, rfl, sz _ (by decide +kernel), _, rfl, _, _, rfl, rfl, szL _ (by decide +kernel), _, rfl, _, _, rfl, rfl, szL _ (by decide +kernel), (by show 7 ≤ sizeLine; decide), fun p hp => .inl ⟨B, p, (bents t).map V.str, rfl, SqL.of upd_same, hB1.nb hp, (by show 0 < 7; decide), (by show 7 ≤ 1000; decide), hB1.same (Same.new hp), fun i v H2 hv hB2 kb2 => ?_⟩⟩
    obtain ⟨a, ha, rfl⟩ := List.mem_map.mp (List.mem_of_getElem? hv)
    exact q a H2 (bents_asc hA a ha) hB2 ((kb1.trans (Kb.same (Same.new hp))).trans kb2)
  · refine ⟨_, rfl, _, rfl, t, rfl, hsz, _, _, rfl, rfl, B, _, rfl, by omega, Nat.lt_of_le_of_lt (by have := hA.1; omega : ((t.length : Int) + 1).natAbs ≤ 4001) (by decide), hB1, fun j H2 j0 j1 hB2 kb2 => ?_⟩
    refine ⟨_, rfl, .inr ⟨B, Str.ofString "0123456789/0123456789/ -+._x\n", rfl, by decide +kernel, by decide +kernel, hB2, fun sc H3 hsc hB3 kb3 => ?_⟩⟩
    have hl : ∀ c ∈ (Str.ofString "0123456789/0123456789/ -+._x\n").cps.toList, c < 128 := by decide +kernel
    refine ⟨_, rfl, _, rfl, j, rfl, t, rfl, hsz, ?_⟩
    refine ⟨_, rfl, _, rfl, B, 2, rfl, by decide, by decide, hB3, fun k H4 k0 k1 hB4 kb4 => ?_⟩
    obtain ⟨k, rfl⟩ := Int.eq_ofNat_of_zero_le k0
    have a1 := asc_cut hA none (some j)
    have a2 := asc_rep (n := 1) (asc_one (hl sc hsc)) k
    have a2' : Asc 1 (repS ⟨#[sc]⟩ k) := a2.le (by omega)
    have a12 := asc_app a1 a2'
    refine ⟨⟨#[sc]⟩, k, rfl, rfl, Nat.one_pos, (by show 1 ≤ 1000; decide), by omega, ?_⟩
    refine ⟨_, _, rfl, rfl, Nat.le_trans (Nat.add_le_add a1.1 a2'.1) (by decide), ?_⟩
    refine ⟨_, rfl, _, rfl, _, rfl, B, 2, rfl, by decide, by decide, hB4, fun l H5 l0 l1 hB5 kb5 => ⟨_, _, rfl, rfl, _, rfl, t, rfl, hsz, ?_⟩⟩
    have a3 := asc_cut hA (some (j + l)) none
    refine ⟨_, _, rfl, rfl, Nat.le_trans (Nat.add_le_add a12.1 a3.1) (by decide), ?_⟩
    exact q _ H5 ((asc_app a12 a3).le (by decide)) hB5 ((((kb1.trans kb2).trans kb3).trans kb4).trans kb5)
end
end TL
namespace TL
open PySem L2
/-! ### what evaluates to what -/
def Ev (te : TE) (σ : L2.St) (H : Hp) (R : Hp → V → Prop) : Prop := ∀ H1, Same H H1 → ∀ Q : VK, (∀ v H2, Same H1 H2 → R H2 v → Q v H2) → te σ H1 Q
def Mono (R : Hp → V → Prop) : Prop := ∀ H H' v, Same H H' → R H v → R H' v
def EvH (ta : TA) (σ : L2.St) (H : Hp) (n : Nat) (R : Hp → V → Prop) : Prop := ∀ H1, Same H H1 → ∀ Q : List V → Hp → Prop, (∀ vs H2, Same H1 H2 → vs.length = n → (∀ v ∈ vs, R H2 v) → Q vs H2) → ta σ H1 Q
def AllR (H : Hp) : List (Hp → V → Prop) → List V → Prop
  | [], [] => True
  | R :: Rs, v :: vs => R H v ∧ AllR H Rs vs
  | _, _ => False
def Monos : List (Hp → V → Prop) → Prop
  | [] => True
  | R :: Rs => Mono R ∧ Monos Rs
theorem AllR.same {H H' : Hp} (s : Same H H') : ∀ {Rs : List (Hp → V → Prop)} {vs : List V}, Monos Rs → AllR H Rs vs → AllR H' Rs vs
  | [], [], _, _ => trivial
  | _ :: _, _ :: _, m, h => ⟨m.1 _ _ _ s h.1, AllR.same s m.2 h.2⟩
  | [], _ :: _, _, h => h.elim
  | _ :: _, [], _, h => h.elim
theorem AllR.len {H : Hp} : ∀ {Rs : List (Hp → V → Prop)} {vs : List V}, AllR H Rs vs → vs.length = Rs.length
  | [], [], _ => rfl
  | _ :: _, _ :: _, h => congrArg Nat.succ (AllR.len h.2)
  | [], _ :: _, h => h.elim
  | _ :: _, [], h => h.elim
theorem AllR.get {H : Hp} : ∀ {Rs : List (Hp → V → Prop)} {vs : List V}, AllR H Rs vs → ∀ (i : Nat) v, vs[i]? = some v → ∃ R, Rs[i]? = some R ∧ R H v
  | R :: _, _ :: _, h, 0, v, e => by cases e; exact ⟨R, rfl, h.1⟩
  | _ :: _, _ :: _, h, i + 1, v, e => AllR.get h.2 i v e
  | [], [], _, i, v, e => by cases e
  | [], _ :: _, h, _, _, _ => h.elim
  | _ :: _, [], h, _, _, _ => h.elim
def Evs (ta : TA) (σ : L2.St) (H : Hp) (Rs : List (Hp → V → Prop)) : Prop := ∀ H1, Same H H1 → ∀ Q : List V → Hp → Prop, (∀ vs H2, Same H1 H2 → AllR H2 Rs vs → Q vs H2) → ta σ H1 Q
def LstR (Rs : List (Hp → V → Prop)) : Hp → V → Prop := fun H v => ∃ p vs, v = .ref p ∧ H p = some (.lst vs) ∧ AllR H Rs vs
def TupR (Rs : List (Hp → V → Prop)) : Hp → V → Prop := fun H v => ∃ p vs, v = .ref p ∧ H p = some (.tup vs) ∧ AllR H Rs vs
def IsV (u : V) : Hp → V → Prop := fun _ v => v = u
theorem mIsV {u : V} : Mono (IsV u) := fun _ _ _ _ h => h
theorem LstR.mono {Rs : List (Hp → V → Prop)} (m : Monos Rs) : Mono (LstR Rs) := fun H H' v s ⟨p, vs, e1, e2, e3⟩ => ⟨p, vs, e1, s _ _ e2, e3.same s m⟩
theorem TupR.mono {Rs : List (Hp → V → Prop)} (m : Monos Rs) : Mono (TupR Rs) := fun H H' v s ⟨p, vs, e1, e2, e3⟩ => ⟨p, vs, e1, s _ _ e2, e3.same s m⟩
section
variable {σ : L2.St} {H : Hp} {te ta tb : TE} {tr : TA} {R A B : Hp → V → Prop} {Rs Ss : List (Hp → V → Prop)} {C : Addr} {E : XK} {n : Nat}
theorem evs_nil : Evs tNil σ H [] := fun H1 _ Q q => q [] H1 (Same.refl _) trivial
theorem evs_cons (h : Ev te σ H R) (m : Mono R) (hr : Evs tr σ H Rs) : Evs (tCons te tr) σ H (R :: Rs) := fun H1 s1 Q q =>
  h H1 s1 _ fun v H2 s2 hv => hr H2 (s1.trans s2) _ fun vs H3 s3 hvs => q (v :: vs) H3 (s2.trans s3) ⟨m _ _ _ s3 hv, hvs⟩
theorem ev_lst (h : Evs tr σ H Rs) (m : Monos Rs) (hz : Rs.length ≤ 1000) : Ev (tLst tr) σ H (LstR Rs) := fun H1 s1 Q q =>
  h H1 s1 _ fun vs H2 s2 hvs => ⟨by rw [hvs.len]; exact Nat.le_of_lt (Nat.lt_of_le_of_lt hz (by decide)), fun p hp =>
    have s3 := Same.new (o := .lst vs) hp
    q _ _ (s2.trans s3) ⟨p, vs, rfl, upd_same, hvs.same s3 m⟩⟩
theorem ev_tup (h : Evs tr σ H Rs) (m : Monos Rs) (hz : Rs.length ≤ 1000) : Ev (tTup tr) σ H (TupR Rs) := fun H1 s1 Q q =>
  h H1 s1 _ fun vs H2 s2 hvs => ⟨by rw [hvs.len]; exact Nat.le_of_lt (Nat.lt_of_le_of_lt hz (by decide)), fun p hp =>
    have s3 := Same.new (o := .tup vs) hp
    q _ _ (s2.trans s3) ⟨p, vs, rfl, upd_same, hvs.same s3 m⟩⟩
theorem ev_var {i : Nat} {v : V} (h : σ[i]? = some (some v)) (hv : ∀ H', Same H H' → R H' v) : Ev (tVar i) σ H R := fun H1 s1 Q q => ⟨_, h, q v H1 (Same.refl _) (hv H1 s1)⟩
theorem ev_c {v : V} (hv : ∀ H', Same H H' → R H' v) : Ev (tC v) σ H R := fun H1 s1 Q q => q v H1 (Same.refl _) (hv H1 s1)
theorem ev_neg {i : Int} (hv : ∀ H', R H' (.int (-i))) : Ev (tUn (rU fun i => V.int (-i)) (tC (.int i))) σ H R := fun H1 _ Q q => ⟨_, rfl, q _ H1 (Same.refl _) (hv H1)⟩
theorem ev_pow {i j : Int} (c : CPow i j) (hv : ∀ H', R H' (.int (i ^ j.toNat))) : Ev (tOp (rI CPow fun i j => .int (i ^ j.toNat)) (tC (.int i)) (tC (.int j))) σ H R := fun H1 _ Q q => ⟨i, j, rfl, rfl, c, q _ H1 (Same.refl _) (hv H1)⟩
theorem evh_nil : EvH tNil σ H 0 R := fun H1 _ Q q => q [] H1 (Same.refl _) rfl (fun v h => by cases h)
theorem evh_cons (m : Mono R) (h : Ev te σ H R) (hr : EvH tr σ H n R) : EvH (tCons te tr) σ H (n + 1) R := fun H1 s1 Q q =>
  h H1 s1 _ fun v H2 s2 hv => hr H2 (s1.trans s2) _ fun vs H3 s3 hl hvs => q (v :: vs) H3 (s2.trans s3) (congrArg Nat.succ hl) fun u hu => by
    rcases List.mem_cons.mp hu with rfl | hu
    · exact m _ _ _ s3 hv
    · exact hvs u hu
theorem AllR.app {H : Hp} : ∀ {Rs Ss : List (Hp → V → Prop)} {vs us : List V}, AllR H Rs vs → AllR H Ss us → AllR H (Rs ++ Ss) (vs ++ us)
  | [], _, [], _, _, k => k
  | _ :: _, _, _ :: _, _, h, k => ⟨h.1, AllR.app h.2 k⟩
  | [], _, _ :: _, _, h, _ => h.elim
  | _ :: _, _, [], _, h, _ => h.elim
theorem Monos.app : ∀ {Rs Ss : List (Hp → V → Prop)}, Monos Rs → Monos Ss → Monos (Rs ++ Ss)
  | [], _, _, k => k
  | _ :: _, _, h, k => ⟨h.1, Monos.app h.2 k⟩
theorem ev_cat (h1 : Ev ta σ H (LstR Rs)) (m1 : Monos Rs) (h2 : Ev tb σ H (LstR Ss)) (m2 : Monos Ss) (hz : Rs.length + Ss.length ≤ 1000) : Ev (tOp rCat ta tb) σ H (LstR (Rs ++ Ss)) := fun H1 s1 Q q =>
  h1 H1 s1 _ fun v H2 s2 hv => h2 H2 (s1.trans s2) _ fun u H3 s3 hu => by
    obtain ⟨p, vs, rfl, e2, e3⟩ := LstR.mono m1 _ _ _ s3 hv
    obtain ⟨r, us, rfl, g2, g3⟩ := hu
    refine ⟨p, r, vs, us, rfl, rfl, e2, g2, by rw [e3.len, g3.len]; exact Nat.le_of_lt (Nat.lt_of_le_of_lt hz (by decide)), fun t ht => ?_⟩
    have s4 := Same.new (o := .lst (vs ++ us)) ht
    exact q _ _ ((s2.trans s3).trans s4) ⟨t, vs ++ us, rfl, upd_same, (e3.same s4 m1).app (g3.same s4 m2)⟩
theorem asg_ev {rest : TS} {D : Ends} {i : Nat} (h : Ev te σ H R) (k : ∀ v H', Same H H' → R H' v → rest D (σ.set i (some v)) H') : tSeq (tAsg te (gName i)) rest D σ H :=
  h H (Same.refl _) _ fun v H1 s1 hv => k v H1 s1 hv
end
end TL
namespace TL
open PySem L2 PySem.NumText

/-! ### steps of a reading -/
local macro_rules | `(tactic| walk_at "hp") => `(tactic| first | assumption | exact upd_same | (refine (upd_ne (by first | assumption | (exact Ne.symm (by assumption)))).trans ?_; walk_at "hp"))
local macro_rules | `(tactic| walk_at "ok") => `(tactic| first | (exact Or.inr ⟨by decide, by decide⟩) | (exact ⟨by decide, by decide⟩) | (exact ⟨by decide, by decide, by decide⟩) | (show _ ≠ _; omega) | (show _ ≠ _; decide) | (exact Or.inl ⟨by omega, by omega⟩) | decide)
local macro_rules | `(tactic| walk_at "sq") => `(tactic| first | assumption | exact SqL.of (by walk_at "hp") | exact SqT.of (by walk_at "hp"))
local macro_rules | `(tactic| walk_at "ty") => `(tactic| first | refine ⟨_, _, Value.type "int", Value.type "list", false, rfl, ClsV.ty _, TyX.base (TyOf.int _), kt_int_list, ?_⟩ | refine ⟨_, _, Value.type "bool", Value.type "list", false, rfl, ClsV.ty _, TyX.base (TyOf.bl _), kt_bool_list, ?_⟩ | refine ⟨_, _, Value.type "str", Value.type "list", false, rfl, ClsV.ty _, TyX.base (TyOf.str _), kt_str_list, ?_⟩ | refine ⟨_, _, Value.type "NoneType", Value.type "list", false, rfl, ClsV.ty _, TyX.base TyOf.non, kt_NoneType_list, ?_⟩ | refine ⟨_, _, Value.type "list", Value.type "list", true, rfl, ClsV.ty _, tyx_L (by walk_at "sq"), kt_list_list, ?_⟩ | refine ⟨_, _, Value.type "tuple", Value.type "list", false, rfl, ClsV.ty _, tyx_T (by walk_at "sq"), kt_tuple_list, ?_⟩ | refine ⟨_, _, Value.type "int", Value.type "tuple", false, rfl, ClsV.ty _, TyX.base (TyOf.int _), kt_int_tuple, ?_⟩ | refine ⟨_, _, Value.type "bool", Value.type "tuple", false, rfl, ClsV.ty _, TyX.base (TyOf.bl _), kt_bool_tuple, ?_⟩ | refine ⟨_, _, Value.type "str", Value.type "tuple", false, rfl, ClsV.ty _, TyX.base (TyOf.str _), kt_str_tuple, ?_⟩ | refine ⟨_, _, Value.type "NoneType", Value.type "tuple", false, rfl, ClsV.ty _, TyX.base TyOf.non, kt_NoneType_tuple, ?_⟩ | refine ⟨_, _, Value.type "list", Value.type "tuple", false, rfl, ClsV.ty _, tyx_L (by walk_at "sq"), kt_list_tuple, ?_⟩ | refine ⟨_, _, Value.type "tuple", Value.type "tuple", true, rfl, ClsV.ty _, tyx_T (by walk_at "sq"), kt_tuple_tuple, ?_⟩ | refine ⟨_, _, Value.type "int", Value.type "bool", false, rfl, ClsV.ty _, TyX.base (TyOf.int _), kt_int_bool, ?_⟩ | refine ⟨_, _, Value.type "bool", Value.type "bool", true, rfl, ClsV.ty _, TyX.base (TyOf.bl _), kt_bool_bool, ?_⟩ | refine ⟨_, _, Value.type "str", Value.type "bool", false, rfl, ClsV.ty _, TyX.base (TyOf.str _), kt_str_bool, ?_⟩ | refine ⟨_, _, Value.type "NoneType", Value.type "bool", false, rfl, ClsV.ty _, TyX.base TyOf.non, kt_NoneType_bool, ?_⟩ | refine ⟨_, _, Value.type "list", Value.type "bool", false, rfl, ClsV.ty _, tyx_L (by walk_at "sq"), kt_list_bool, ?_⟩ | refine ⟨_, _, Value.type "tuple", Value.type "bool", false, rfl, ClsV.ty _, tyx_T (by walk_at "sq"), kt_tuple_bool, ?_⟩ | refine ⟨_, _, Value.type "int", Value.type "int", true, rfl, ClsV.ty _, TyX.base (TyOf.int _), kt_int_int, ?_⟩ | refine ⟨_, _, Value.type "bool", Value.type "int", true, rfl, ClsV.ty _, TyX.base (TyOf.bl _), kt_bool_int, ?_⟩ | refine ⟨_, _, Value.type "str", Value.type "int", false, rfl, ClsV.ty _, TyX.base (TyOf.str _), kt_str_int, ?_⟩ | refine ⟨_, _, Value.type "NoneType", Value.type "int", false, rfl, ClsV.ty _, TyX.base TyOf.non, kt_NoneType_int, ?_⟩ | refine ⟨_, _, Value.type "list", Value.type "int", false, rfl, ClsV.ty _, tyx_L (by walk_at "sq"), kt_list_int, ?_⟩ | refine ⟨_, _, Value.type "tuple", Value.type "int", false, rfl, ClsV.ty _, tyx_T (by walk_at "sq"), kt_tuple_int, ?_⟩ | refine ⟨_, _, Value.type "int", Value.type "str", false, rfl, ClsV.ty _, TyX.base (TyOf.int _), kt_int_str, ?_⟩ | refine ⟨_, _, Value.type "bool", Value.type "str", false, rfl, ClsV.ty _, TyX.base (TyOf.bl _), kt_bool_str, ?_⟩ | refine ⟨_, _, Value.type "str", Value.type "str", true, rfl, ClsV.ty _, TyX.base (TyOf.str _), kt_str_str, ?_⟩ | refine ⟨_, _, Value.type "NoneType", Value.type "str", false, rfl, ClsV.ty _, TyX.base TyOf.non, kt_NoneType_str, ?_⟩ | refine ⟨_, _, Value.type "list", Value.type "str", false, rfl, ClsV.ty _, tyx_L (by walk_at "sq"), kt_list_str, ?_⟩ | refine ⟨_, _, Value.type "tuple", Value.type "str", false, rfl, ClsV.ty _, tyx_T (by walk_at "sq"), kt_tuple_str, ?_⟩)
local macro_rules | `(tactic| walk_at "go1") => `(tactic| first
  | (refine ⟨_, rfl, ?_⟩)
  | (refine ⟨_, _, rfl, rfl, ?_⟩)
  | (refine ⟨_, _, _, _, rfl, rfl, SqL.of (by walk_at "hp"), rfl, ?_⟩)
  | (refine Or.inl ⟨_, rfl, ?_⟩)
  | (refine ⟨rfl, ?_⟩)
  | (refine ⟨_, _, rfl, .inl (SqL.of (by walk_at "hp")), ?_⟩)
  | (refine ⟨_, _, rfl, Or.inl (by assumption), ?_⟩)
  | (refine ⟨_, _, rfl, Or.inr (by assumption), ?_⟩)
  | (refine ⟨(by walk_at "ok"), ?_⟩)
  | (refine ⟨_, _, _, _, rfl, rfl, (by walk_at "hp"), rfl, ?_⟩))
local macro_rules | `(tactic| walk_at "go") => `(tactic| repeat (walk_at "go1"))
local macro_rules | `(tactic| walk_at "gt") => `(tactic| repeat (first | walk_at "go1" | walk_at "ty"))

section
variable {P : Program} {w : World} {K : PySem.W.Frag} {mg : Str → Option Value} {base : Heap}
-- [0=_law_bag_here, 1=_law_things]
def knOf : V → Kn
  | .int _ => .int
  | .bl _ => .bool
  | .str _ => .str
  | .non => .non
  | _ => .tup
/-- an item of a tuple: plain, or a tuple -/
def ItOk (K : PySem.W.Frag) (H : Hp) (x : V) : Prop := (∃ n, x = .int n) ∨ (∃ b, x = .bl b) ∨ x = .non ∨ (∃ s, x = .str s) ∨ ∃ a ys, x = .ref a ∧ SqT K H a ys
/-- what the defs tell of a value: its kind, whether it is a name, a tone, and what it is read to -/
structure AV (K : PySem.W.Frag) (H : Hp) (v : V) (k : Kn) (nb tb : Bool) (o : Option (Nat × Nat)) : Prop where
  kn : KnV K 0 H v k
  ni : k ≠ .ins
  nm : (∃ a, v = .str a ∧ Asc 9000 a ∧ nb = nameB a ∧ o = pairO a) ∨ (NoStr K H v ∧ nb = false ∧ o = none)
  tn : (∃ a xs ks, v = .ref a ∧ SqT K H a xs ∧ Its2 K H xs ks ∧ tb = (tonB xs && (decide (xs.length = 2) && ks.all Kn.isNum))) ∨ (∃ t, TyX K H v t ∧ PySem.W.kitOne K t (.type "tuple") = some false ∧ tb = false)
/-- it stays so whatever the bag does -/
def Any1 (K : PySem.W.Frag) (B : Bg) (H : Hp) (v : V) : Prop := ∃ k nb tb o, ∀ H', Kb B.b H H' → AV K H' v k nb tb o
theorem Any1.mono {B : Bg} {H H' : Hp} {v : V} (h : Any1 K B H v) (k : Kb B.b H H') : Any1 K B H' v := by
  obtain ⟨kn, nb, tb, o, h⟩ := h
  exact ⟨kn, nb, tb, o, fun H'' k' => h H'' (k.trans k')⟩
theorem bagT {B : Bg} {H H' : Hp} {a : Addr} {xs : List V} (hB : Bag B H) (k : Kb B.b H H') (h : SqT K H a xs) : SqT K H' a xs := by
  obtain ⟨i, r, z, c, e, _⟩ := hB.ex
  exact seqT_kb e k h
theorem its_of {B : Bg} {H H' : Hp} {xs : List V} (hB : Bag B H) (hl : xs.length ≤ 1000) (h : ∀ x ∈ xs, ItOk K H x) (k : Kb B.b H H') : Its2 K H' xs (xs.map knOf) := ⟨by rw [List.length_map], hl, fun i x kn hx hk => by
  rw [List.getElem?_map, hx] at hk
  obtain rfl := Option.some.inj hk
  rcases h x (List.mem_of_getElem? hx) with ⟨n, rfl⟩ | ⟨b, rfl⟩ | rfl | ⟨s, rfl⟩ | ⟨a, ys, rfl, ha⟩
  · exact ⟨Kn.noConfusion, fun _ _ => .i, fun _ => ⟨n, rfl⟩⟩
  · exact ⟨Kn.noConfusion, fun _ _ => .b, fun e => by cases e⟩
  · exact ⟨Kn.noConfusion, fun _ _ => .n, fun e => by cases e⟩
  · exact ⟨Kn.noConfusion, fun _ _ => .s, fun e => by cases e⟩
  · exact ⟨Kn.noConfusion, fun _ s => .t (seqT s (bagT hB k ha)), fun e => by cases e⟩⟩
theorem any_tup {B : Bg} {H : Hp} {a : Addr} {xs : List V} (hB : Bag B H) (h : SqT K H a xs) (hl : xs.length ≤ 1000) (hx : ∀ x ∈ xs, ItOk K H x) : Any1 K B H (.ref a) :=
  ⟨.tup, false, _, none, fun _ k => ⟨.t (bagT hB k h), Kn.noConfusion, .inr ⟨⟨_, tyx_T (bagT hB k h), kt_tuple_str⟩, rfl, rfl⟩, .inl ⟨a, xs, _, rfl, bagT hB k h, its_of hB hl hx k, rfl⟩⟩⟩
theorem any_lst {B : Bg} {H : Hp} {a : Addr} {xs : List V} (n : a ≠ B.b) (h : SqL K H a xs) : Any1 K B H (.ref a) :=
  ⟨.list, false, false, none, fun _ k => ⟨.l (k.seq n h), Kn.noConfusion, .inr ⟨⟨_, tyx_L (k.seq n h), kt_list_str⟩, rfl, rfl⟩, .inr ⟨_, tyx_L (k.seq n h), kt_list_tuple, rfl⟩⟩⟩
theorem any_int {B : Bg} {H : Hp} {n : Int} : Any1 K B H (.int n) :=
  ⟨.int, false, false, none, fun _ _ => ⟨.i, Kn.noConfusion, .inr ⟨⟨_, TyX.base (TyOf.int _), kt_int_str⟩, rfl, rfl⟩, .inr ⟨_, TyX.base (TyOf.int _), kt_int_tuple, rfl⟩⟩⟩
theorem any_bl {B : Bg} {H : Hp} {n : Bool} : Any1 K B H (.bl n) :=
  ⟨.bool, false, false, none, fun _ _ => ⟨.b, Kn.noConfusion, .inr ⟨⟨_, TyX.base (TyOf.bl _), kt_bool_str⟩, rfl, rfl⟩, .inr ⟨_, TyX.base (TyOf.bl _), kt_bool_tuple, rfl⟩⟩⟩
theorem any_non {B : Bg} {H : Hp} : Any1 K B H .non :=
  ⟨.non, false, false, none, fun _ _ => ⟨.n, Kn.noConfusion, .inr ⟨⟨_, TyX.base TyOf.non, kt_NoneType_str⟩, rfl, rfl⟩, .inr ⟨_, TyX.base TyOf.non, kt_NoneType_tuple, rfl⟩⟩⟩
theorem any_str {B : Bg} {H : Hp} {a : Str} (h : Asc 9000 a) : Any1 K B H (.str a) :=
  ⟨.str, nameB a, false, pairO a, fun _ _ => ⟨.s, Kn.noConfusion, .inl ⟨a, rfl, h, rfl, rfl⟩, .inr ⟨_, TyX.base (TyOf.str _), kt_str_tuple, rfl⟩⟩⟩
theorem sm_asc (s : String) (h : (Str.ofString s).length ≤ 9000 ∧ ∀ c ∈ (Str.ofString s).cps.toList, c < 128) : Asc 9000 (Str.ofString s) := h
theorem mItOk : Mono (ItOk K) := fun H H' v s h => by
  rcases h with h | h | h | h | ⟨a, ys, e, ha⟩
  · exact .inl h
  · exact .inr (.inl h)
  · exact .inr (.inr (.inl h))
  · exact .inr (.inr (.inr (.inl h)))
  · exact .inr (.inr (.inr (.inr ⟨a, ys, e, seqT s ha⟩)))
theorem mAny {B : Bg} : Mono (Any1 K B) := fun _ _ _ s h => h.mono (Kb.same s)
section
variable {σ : L2.St} {H : Hp} {tr : TA} {n : Nat} {B : Bg}
theorem ea_tup (hB : Bag B H) (h : EvH tr σ H n (ItOk K)) (hz : n ≤ 1000) : Ev (tTup tr) σ H (Any1 K B) := fun H1 s1 Q q =>
  h H1 s1 _ fun vs H2 s2 hl hvs => ⟨by rw [hl]; exact Nat.le_of_lt (Nat.lt_of_le_of_lt hz (by decide)), fun p hp => by
    have s3 := Same.new (o := .tup vs) hp
    have s13 := (s1.trans s2).trans s3
    exact q _ _ (s2.trans s3) (any_tup (hB.same s13) (SqT.of upd_same) (by omega) fun x hx => mItOk _ _ _ s3 (hvs x hx))⟩
theorem ea_lst (hB : Bag B H) (h : EvH tr σ H n (fun _ _ => True)) (hz : n ≤ 1000) : Ev (tLst tr) σ H (Any1 K B) := fun H1 s1 Q q =>
  h H1 s1 _ fun vs H2 s2 hl hvs => ⟨by rw [hl]; exact Nat.le_of_lt (Nat.lt_of_le_of_lt hz (by decide)), fun p hp => by
    have s3 := Same.new (o := .lst vs) hp
    exact q _ _ (s2.trans s3) (any_lst ((hB.same (s1.trans s2)).nb hp) (SqL.of upd_same))⟩
theorem et_lst (h : EvH tr σ H n (fun _ _ => True)) (hz : n ≤ 1000) : Ev (tLst tr) σ H (fun _ _ => True) := fun H1 s1 Q q =>
  h H1 s1 _ fun vs H2 s2 hl hvs => ⟨by rw [hl]; exact Nat.le_of_lt (Nat.lt_of_le_of_lt hz (by decide)), fun p hp => q _ _ (s2.trans (Same.new hp)) trivial⟩
theorem ei_tup (h : EvH tr σ H n (ItOk K)) (hz : n ≤ 1000) : Ev (tTup tr) σ H (ItOk K) := fun H1 s1 Q q =>
  h H1 s1 _ fun vs H2 s2 hl hvs => ⟨by rw [hl]; exact Nat.le_of_lt (Nat.lt_of_le_of_lt hz (by decide)), fun p hp => q _ _ (s2.trans (Same.new hp)) (.inr (.inr (.inr (.inr ⟨p, vs, rfl, SqT.of upd_same⟩))))⟩
/-- a list of any values, put behind one -/
def AnyL (K : PySem.W.Frag) (B : Bg) (m : Nat) (H : Hp) (v : V) : Prop := ∃ p vs, v = .ref p ∧ H p = some (.lst vs) ∧ p ≠ B.b ∧ vs.length = m ∧ ∀ u ∈ vs, Any1 K B H u
theorem mAnyL {m : Nat} : Mono (AnyL K B m) := fun _ _ _ s ⟨p, vs, e1, e2, e3, e4, e5⟩ => ⟨p, vs, e1, s _ _ e2, e3, e4, fun u hu => mAny _ _ _ s (e5 u hu)⟩
theorem el_lst (hB : Bag B H) (h : EvH tr σ H n (Any1 K B)) (hz : n ≤ 1000) : Ev (tLst tr) σ H (AnyL K B n) := fun H1 s1 Q q =>
  h H1 s1 _ fun vs H2 s2 hl hvs => ⟨by rw [hl]; exact Nat.le_of_lt (Nat.lt_of_le_of_lt hz (by decide)), fun p hp => by
    have s3 := Same.new (o := .lst vs) hp
    exact q _ _ (s2.trans s3) ⟨p, vs, rfl, upd_same, (hB.same (s1.trans s2)).nb hp, hl, fun u hu => mAny _ _ _ s3 (hvs u hu)⟩⟩
theorem el_cat {ta tb : TE} {m l : Nat} (hB : Bag B H) (h1 : Ev ta σ H (AnyL K B m)) (h2 : Ev tb σ H (AnyL K B l)) (hz : m + l ≤ 1000) : Ev (tOp rCat ta tb) σ H (AnyL K B (m + l)) := fun H1 s1 Q q =>
  h1 H1 s1 _ fun v H2 s2 hv => h2 H2 (s1.trans s2) _ fun u H3 s3 hu => by
    obtain ⟨p, vs, rfl, e2, e3, e4, e5⟩ := mAnyL _ _ _ s3 hv
    obtain ⟨r, us, rfl, g2, g3, g4, g5⟩ := hu
    refine ⟨p, r, vs, us, rfl, rfl, e2, g2, by rw [e4, g4]; exact Nat.le_of_lt (Nat.lt_of_le_of_lt hz (by decide)), fun t ht => ?_⟩
    have s4 := Same.new (o := .lst (vs ++ us)) ht
    refine q _ _ ((s2.trans s3).trans s4) ⟨t, vs ++ us, rfl, upd_same, (hB.same ((s1.trans s2).trans s3)).nb ht, by rw [List.length_append, e4, g4], fun x hx => ?_⟩
    rcases List.mem_append.mp hx with hx | hx
    · exact mAny _ _ _ s4 (e5 x hx)
    · exact mAny _ _ _ s4 (g5 x hx)
end
theorem mTru : Mono (fun _ _ => True) := fun _ _ _ _ h => h
def spAny (K : PySem.W.Frag) : Sp := fun vs H Q _ => ∃ (B : Bg), vs = [.ref B.b] ∧ Bag B H ∧ ∀ v H', Any1 K B H' v → Bag B H' → Kb B.b H H' → Q v H'
theorem ok_l_any (T : Tx K mg) : FnOk P w K mg base CX0 3 T.f_l_any T.d_l_any ["_law_bag_here"] (spAny K) := by
  have G_l_draw := ok_draw (P := P) (w := w) (base := base) T
  have G_l_of := ok_of (P := P) (w := w) (base := base) T
  refine T.F_l_any.ok sc_l_any (fun vs H Q E h => ?_) (fun cdv A outer s H vs Q E hr h => ?_)
  · obtain ⟨B, rfl, _⟩ := h
    rfl
  obtain ⟨B, rfl, hB, q⟩ := h
  have nd := sc_l_any.nd
  refine ⟨_, (pss_cons (ps_set (i := 1) nd rfl (Or.inl rfl) (pe_lst (pa_cons pe_non (pa_cons pe_bl (pa_cons pe_bl (pa_cons pe_int (pa_cons pe_int (pa_cons (pe_un un_neg pe_int) (pa_cons pe_int (pa_cons pe_str (pa_cons pe_str (pa_cons pe_str (pa_cons pe_str (pa_cons (pe_lst pa_nil) (pa_cons (pe_tup pa_nil) (pa_cons (pe_tup (pa_cons pe_int (pa_cons pe_int pa_nil))) (pa_cons (pe_tup (pa_cons pe_int (pa_cons pe_int pa_nil))) (pa_cons (pe_lst (pa_cons pe_int (pa_cons pe_int pa_nil))) (pa_cons (pe_tup (pa_cons pe_int (pa_cons pe_int (pa_cons pe_int pa_nil)))) (pa_cons (pe_tup (pa_cons pe_int (pa_cons pe_int pa_nil))) pa_nil))))))))))))))))))))
    (pss_cons (ps_set (i := 1) nd rfl (Or.inl rfl) (pe_op op_cat (pv 1) (pe_lst (pa_cons (pe_tup (pa_cons pe_bl (pa_cons pe_int pa_nil))) (pa_cons (pe_tup (pa_cons pe_int (pa_cons pe_bl pa_nil))) (pa_cons (pe_tup (pa_cons pe_int (pa_cons pe_int pa_nil))) (pa_cons (pe_tup (pa_cons pe_int (pa_cons pe_int pa_nil))) (pa_cons (pe_tup (pa_cons (pe_un un_neg pe_int) (pa_cons pe_int pa_nil))) (pa_cons (pe_tup (pa_cons pe_int (pa_cons (pe_un un_neg pe_int) pa_nil))) (pa_cons (pe_tup (pa_cons pe_int (pa_cons pe_non pa_nil))) (pa_cons (pe_tup (pa_cons pe_str (pa_cons pe_int pa_nil))) (pa_cons (pe_tup (pa_cons (pe_tup (pa_cons pe_int (pa_cons pe_int pa_nil))) (pa_cons pe_int pa_nil))) (pa_cons (pe_tup (pa_cons pe_int (pa_cons pe_int pa_nil))) pa_nil)))))))))))))
    (pss_one (ps_ret (pe_call G_l_of (hr.mono (by decide)) (by rfl) T.m_l_of T.F_l_of.kp T.b_l_of .nil pass0 (pa_cons (pv 0) (pa_cons (pe_op op_cat (pv 1) (pe_lst (pa_cons (pe_lst (pa_cons pe_int (pa_cons (pe_lst (pa_cons pe_int (pa_cons (pe_lst (pa_cons pe_str pa_nil)) pa_nil))) pa_nil))) (pa_cons (pe_tup (pa_cons (pe_tup (pa_cons pe_int (pa_cons pe_int pa_nil))) pa_nil)) (pa_cons (pe_tup (pa_cons pe_int pa_nil)) (pa_cons (pe_op op_pow pe_int pe_int) (pa_cons (pe_tup (pa_cons (pe_op op_pow pe_int pe_int) (pa_cons pe_int pa_nil))) (pa_cons (pe_tup (pa_cons pe_int (pa_cons (pe_op op_pow pe_int pe_int) pa_nil))) pa_nil)))))))) pa_nil))))))), ?_⟩
  refine asg_ev (el_lst (K := K) hB (n := 18) (evh_cons mAny (ev_c fun _ _ => any_non)
    (evh_cons mAny (ev_c fun _ _ => any_bl)
    (evh_cons mAny (ev_c fun _ _ => any_bl)
    (evh_cons mAny (ev_c fun _ _ => any_int)
    (evh_cons mAny (ev_c fun _ _ => any_int)
    (evh_cons mAny (ev_neg fun _ => any_int)
    (evh_cons mAny (ev_c fun _ _ => any_int)
    (evh_cons mAny (ev_c fun _ _ => any_str (sm_asc _ (by decide +kernel)))
    (evh_cons mAny (ev_c fun _ _ => any_str (sm_asc _ (by decide +kernel)))
    (evh_cons mAny (ev_c fun _ _ => any_str (sm_asc _ (by decide +kernel)))
    (evh_cons mAny (ev_c fun _ _ => any_str (sm_asc _ (by decide +kernel)))
    (evh_cons mAny (ea_lst (n := 0) hB evh_nil (by decide))
    (evh_cons mAny (ea_tup (n := 0) hB evh_nil (by decide))
    (evh_cons mAny (ea_tup (n := 2) hB (evh_cons mItOk (ev_c fun _ _ => .inl ⟨_, rfl⟩) (evh_cons mItOk (ev_c fun _ _ => .inl ⟨_, rfl⟩) evh_nil)) (by decide))
    (evh_cons mAny (ea_tup (n := 2) hB (evh_cons mItOk (ev_c fun _ _ => .inl ⟨_, rfl⟩) (evh_cons mItOk (ev_c fun _ _ => .inl ⟨_, rfl⟩) evh_nil)) (by decide))
    (evh_cons mAny (ea_lst (n := 2) hB (evh_cons mTru (ev_c fun _ _ => trivial) (evh_cons mTru (ev_c fun _ _ => trivial) evh_nil)) (by decide))
    (evh_cons mAny (ea_tup (n := 3) hB (evh_cons mItOk (ev_c fun _ _ => .inl ⟨_, rfl⟩) (evh_cons mItOk (ev_c fun _ _ => .inl ⟨_, rfl⟩) (evh_cons mItOk (ev_c fun _ _ => .inl ⟨_, rfl⟩) evh_nil))) (by decide))
    (evh_cons mAny (ea_tup (n := 2) hB (evh_cons mItOk (ev_c fun _ _ => .inl ⟨_, rfl⟩) (evh_cons mItOk (ev_c fun _ _ => .inl ⟨_, rfl⟩) evh_nil)) (by decide))
    evh_nil)))))))))))))))))) (by decide)) fun v1 H1 s1 hv1 => ?_
  have hB1 := hB.same s1
  refine asg_ev (el_cat (K := K) hB1 (m := 18) (l := 10) (ev_var rfl fun H' s' => mAnyL _ _ _ s' hv1) (el_lst (K := K) hB1 (n := 10) (evh_cons mAny (ea_tup (n := 2) hB1 (evh_cons mItOk (ev_c fun _ _ => .inr (.inl ⟨_, rfl⟩)) (evh_cons mItOk (ev_c fun _ _ => .inl ⟨_, rfl⟩) evh_nil)) (by decide))
    (evh_cons mAny (ea_tup (n := 2) hB1 (evh_cons mItOk (ev_c fun _ _ => .inl ⟨_, rfl⟩) (evh_cons mItOk (ev_c fun _ _ => .inr (.inl ⟨_, rfl⟩)) evh_nil)) (by decide))
    (evh_cons mAny (ea_tup (n := 2) hB1 (evh_cons mItOk (ev_c fun _ _ => .inl ⟨_, rfl⟩) (evh_cons mItOk (ev_c fun _ _ => .inl ⟨_, rfl⟩) evh_nil)) (by decide))
    (evh_cons mAny (ea_tup (n := 2) hB1 (evh_cons mItOk (ev_c fun _ _ => .inl ⟨_, rfl⟩) (evh_cons mItOk (ev_c fun _ _ => .inl ⟨_, rfl⟩) evh_nil)) (by decide))
    (evh_cons mAny (ea_tup (n := 2) hB1 (evh_cons mItOk (ev_neg fun _ => .inl ⟨_, rfl⟩) (evh_cons mItOk (ev_c fun _ _ => .inl ⟨_, rfl⟩) evh_nil)) (by decide))
    (evh_cons mAny (ea_tup (n := 2) hB1 (evh_cons mItOk (ev_c fun _ _ => .inl ⟨_, rfl⟩) (evh_cons mItOk (ev_neg fun _ => .inl ⟨_, rfl⟩) evh_nil)) (by decide))
    (evh_cons mAny (ea_tup (n := 2) hB1 (evh_cons mItOk (ev_c fun _ _ => .inl ⟨_, rfl⟩) (evh_cons mItOk (ev_c fun _ _ => .inr (.inr (.inl rfl))) evh_nil)) (by decide))
    (evh_cons mAny (ea_tup (n := 2) hB1 (evh_cons mItOk (ev_c fun _ _ => .inr (.inr (.inr (.inl ⟨_, rfl⟩)))) (evh_cons mItOk (ev_c fun _ _ => .inl ⟨_, rfl⟩) evh_nil)) (by decide))
    (evh_cons mAny (ea_tup (n := 2) hB1 (evh_cons mItOk (ei_tup (n := 2) (evh_cons mItOk (ev_c fun _ _ => .inl ⟨_, rfl⟩) (evh_cons mItOk (ev_c fun _ _ => .inl ⟨_, rfl⟩) evh_nil)) (by decide)) (evh_cons mItOk (ev_c fun _ _ => .inl ⟨_, rfl⟩) evh_nil)) (by decide))
    (evh_cons mAny (ea_tup (n := 2) hB1 (evh_cons mItOk (ev_c fun _ _ => .inl ⟨_, rfl⟩) (evh_cons mItOk (ev_c fun _ _ => .inl ⟨_, rfl⟩) evh_nil)) (by decide))
    evh_nil)))))))))) (by decide)) (by decide)) fun v2 H2 s2 hv2 => ?_
  have hB2 := hB1.same s2
  refine ⟨_, rfl, ?_⟩
  refine el_cat (K := K) hB2 (m := 28) (l := 6) (ev_var rfl fun H' s' => mAnyL _ _ _ s' hv2) (el_lst (K := K) hB2 (n := 6) (evh_cons mAny (ea_lst (n := 2) hB2 (evh_cons mTru (ev_c fun _ _ => trivial) (evh_cons mTru (et_lst (n := 2) (evh_cons mTru (ev_c fun _ _ => trivial) (evh_cons mTru (et_lst (n := 1) (evh_cons mTru (ev_c fun _ _ => trivial) evh_nil) (by decide)) evh_nil)) (by decide)) evh_nil)) (by decide))
    (evh_cons mAny (ea_tup (n := 1) hB2 (evh_cons mItOk (ei_tup (n := 2) (evh_cons mItOk (ev_c fun _ _ => .inl ⟨_, rfl⟩) (evh_cons mItOk (ev_c fun _ _ => .inl ⟨_, rfl⟩) evh_nil)) (by decide)) evh_nil) (by decide))
    (evh_cons mAny (ea_tup (n := 1) hB2 (evh_cons mItOk (ev_c fun _ _ => .inl ⟨_, rfl⟩) evh_nil) (by decide))
    (evh_cons mAny (ev_pow ⟨by decide, by decide, by decide⟩ fun _ => any_int)
    (evh_cons mAny (ea_tup (n := 2) hB2 (evh_cons mItOk (ev_pow ⟨by decide, by decide, by decide⟩ fun _ => .inl ⟨_, rfl⟩) (evh_cons mItOk (ev_c fun _ _ => .inl ⟨_, rfl⟩) evh_nil)) (by decide))
    (evh_cons mAny (ea_tup (n := 2) hB2 (evh_cons mItOk (ev_c fun _ _ => .inl ⟨_, rfl⟩) (evh_cons mItOk (ev_pow ⟨by decide, by decide, by decide⟩ fun _ => .inl ⟨_, rfl⟩) evh_nil)) (by decide))
    evh_nil)))))) (by decide)) (by decide) H2 (Same.refl _) _ fun v3 H3 s3 hv3 => ?_
  obtain ⟨p, vs, rfl, e2, e3, e4, e5⟩ := hv3
  have hB3 := hB2.same s3
  refine ⟨B, p, vs, rfl, SqL.of e2, e3, by omega, by omega, hB3, fun i v H4 hv hB4 kb => ?_⟩
  exact q v H4 ((e5 v (List.mem_of_getElem? hv)).mono kb) hB4 (((Kb.same s1).trans (Kb.same s2)).trans (Kb.same s3) |>.trans kb)
end
end TL
namespace TL
open PySem PySem.NumText L2 PySem.W PySem.W.KIN PyProof.Rows
/-! ### texts of 2000 digits -/
def dg (t : Nat) : Str := Str.ofString (toString ((t : Nat) : Int))
theorem tl_dg : ∀ t, t < 10 → tl (dg t) = [48 + t] := by decide +kernel
theorem dg_int : ∀ t, t < 10 → PySem.intText? (dg t) = some ((t : Nat) : Int) := fun t h => by
  have hl : (dg t).length = 1 := by
    have e : (tl (dg t)).length = (dg t).length := Array.length_toList
    rw [← e, tl_dg t h]
    rfl
  have hd : allIn DIG (dg t) = true := digs_num t
  have := num_int (a := dg t) (by omega) (by omega) hd
  have e : (dg t).cps.toList = [48 + t] := tl_dg t h
  rw [e] at this
  have e2 : digitsVal [48 + t] = t := by
    show 0 * 10 + (48 + t - 48) = t
    omega
  rw [e2] at this
  exact this
def lng (n t : Nat) : Str := Str.ofString "1" ++ repS (Str.ofString "0") n ++ dg t
def zer (n : Nat) : List Nat := 49 :: List.replicate n 48
theorem tl_lng (n : Nat) {t : Nat} (h : t < 10) : tl (lng n t) = zer n ++ [48 + t] := by
  unfold lng
  rw [tl_append, tl_append, tl_dg t h]
  have e1 : tl (Str.ofString "1") = [49] := by decide +kernel
  have e2 : tl (repS (Str.ofString "0") n) = List.replicate n 48 := by
    show (repS (Str.ofString "0") n).cps.toList = _
    rw [repS_toList]
    have : (Str.ofString "0").cps.toList = [48] := by decide +kernel
    rw [this]
    induction n with
    | zero => rfl
    | succ n ih => rw [List.replicate_succ, List.flatten_cons, ih]; rfl
  rw [e1, e2]
  rfl
theorem lng_len (n : Nat) {t : Nat} (h : t < 10) : (lng n t).length = n + 2 := by
  have e : (tl (lng n t)).length = (lng n t).length := Array.length_toList
  rw [← e, tl_lng n h]
  simp [zer]
theorem zer_mem {n c : Nat} (h : c ∈ zer n) : c = 49 ∨ c = 48 := by
  rcases List.mem_cons.mp h with h | h
  · exact .inl h
  · exact .inr (List.eq_of_mem_replicate h)
theorem lng_dig (n : Nat) {t : Nat} (h : t < 10) : allIn DIG (lng n t) = true := by
  unfold allIn
  refine List.all_eq_true.mpr fun c hc => decide_eq_true ?_
  have e2 : DIG.cps.toList = [48, 49, 50, 51, 52, 53, 54, 55, 56, 57] := by decide +kernel
  rw [e2]
  have hc' : c ∈ zer n ++ [48 + t] := by rw [← tl_lng n h]; exact hc
  simp only [List.mem_cons, List.not_mem_nil]
  rcases List.mem_append.mp hc' with z | z
  · rcases zer_mem z with z | z <;> omega
  · have := List.mem_singleton.mp z
    omega
theorem lng_noslash (n : Nat) {t : Nat} (h : t < 10) : 47 ∉ tl (lng n t) := fun hc => by
  rw [tl_lng n h] at hc
  rcases List.mem_append.mp hc with z | z
  · rcases zer_mem z with z | z <;> omega
  · have := List.mem_singleton.mp z
    omega
def LV (t : Nat) : Nat := digitsVal (zer 1998) * 10 + t
theorem lv_big (t : Nat) : 10 ≤ LV t := by
  have : 0 < digitsVal (zer 1998) := digitsVal_pos (by decide)
  unfold LV
  omega
theorem lng_val {t : Nat} (h : t < 10) : digitsVal (lng 1998 t).cps.toList = LV t := by
  have e : (lng 1998 t).cps.toList = zer 1998 ++ [48 + t] := tl_lng 1998 h
  rw [e, digitsVal_snoc, Nat.add_sub_cancel_left]
  rfl
theorem lng_num {t : Nat} (h : t < 10) : numO (lng 1998 t) = some (LV t) := by
  have hd : (lng 1998 t).cps.toList.head? ≠ some 48 := by
    have e : (lng 1998 t).cps.toList = zer 1998 ++ [48 + t] := tl_lng 1998 h
    rw [e]
    intro z
    cases z
  unfold numO
  rw [if_pos ⟨by rw [lng_len 1998 h]; omega, by rw [lng_len 1998 h]; omega, hd, lng_dig 1998 h⟩, lng_val h]
theorem more_num {t : Nat} (h : t < 10) : numO (lng 1999 t) = none := if_neg fun z => by
  have := z.2.1
  rw [lng_len 1999 h] at this
  omega
theorem lng_int {t : Nat} (h : t < 10) : PySem.intText? (lng 1998 t) = some ((LV t : Nat) : Int) := by
  have := num_int (a := lng 1998 t) (by rw [lng_len 1998 h]; omega) (by rw [lng_len 1998 h]; omega) (lng_dig 1998 h)
  rw [lng_val h] at this
  exact this
theorem part_no {x : Str} (h : 47 ∉ tl x) : Txt.partition x SL = (x, Str.empty, Str.empty) := by
  rw [partition_par _ SL (by rw [tl_sl]; decide), tl_sl, par_none1 h]
theorem part_at {x : Str} (y : Str) (h : 47 ∉ tl x) : Txt.partition (x ++ SL ++ y) SL = (x, SL, y) := by
  rw [partition_par _ SL (by rw [tl_sl]; decide)]
  have e : tl (x ++ SL ++ y) = tl x ++ ([47] ++ tl y) := by
    rw [tl_append, tl_append, tl_sl, List.append_assoc]
  rw [e, tl_sl, par_part1 (S := []) h]
  show ((⟨([] ++ tl x).toArray⟩ : Str), SL, (⟨(tl y).toArray⟩ : Str)) = _
  rw [List.nil_append, tl_ext, tl_ext]
theorem sl_ne : ¬ SL = Str.empty := by decide +kernel
theorem pair_lng {t : Nat} (h : t < 10) : pairO (lng 1998 t) = some (LV t, 1) := by
  unfold pairO
  rw [part_no (lng_noslash 1998 h)]
  dsimp only
  rw [lng_num h]
  exact if_pos rfl
theorem pair_two {t s : Nat} (h : t < 10) (h2 : s < 10) (g : Nat.gcd (LV t) (LV s) = 1) : pairO (lng 1998 t ++ SL ++ lng 1998 s) = some (LV t, LV s) := by
  unfold pairO
  rw [part_at _ (lng_noslash 1998 h)]
  dsimp only
  rw [lng_num h, lng_num h2]
  dsimp only
  rw [if_neg sl_ne, if_neg (fun z => z.elim (fun z => by have := lv_big s; omega) (fun z => z g))]
theorem pair_more {t : Nat} (h : t < 10) : pairO (lng 1999 t) = none := by
  unfold pairO
  rw [part_no (lng_noslash 1999 h)]
  dsimp only
  rw [more_num h]
theorem pair_more7 {t : Nat} (h : t < 10) : pairO (lng 1999 t ++ Str.ofString "/7") = none := by
  have e : lng 1999 t ++ Str.ofString "/7" = lng 1999 t ++ SL ++ Str.ofString "7" := by
    rw [Str.append_assoc]
    have : SL ++ Str.ofString "7" = Str.ofString "/7" := by decide +kernel
    rw [this]
  rw [e]
  unfold pairO
  rw [part_at _ (lng_noslash 1999 h)]
  dsimp only
  rw [more_num h]
theorem pair_two_more {t : Nat} (h : t < 10) : pairO (Str.ofString "2/" ++ lng 1999 t) = none := by
  have e : Str.ofString "2/" ++ lng 1999 t = Str.ofString "2" ++ SL ++ lng 1999 t := by
    have : Str.ofString "2" ++ SL = Str.ofString "2/" := by decide +kernel
    rw [this]
  rw [e]
  unfold pairO
  rw [part_at _ (by decide +kernel)]
  dsimp only
  have : numO (Str.ofString "2") = some 2 := by decide +kernel
  rw [this, more_num h]
  dsimp only
  rw [if_neg sl_ne]
theorem pair_lng_more {t : Nat} (h : t < 10) : pairO (lng 1998 t ++ SL ++ lng 1999 t) = none := by
  unfold pairO
  rw [part_at _ (lng_noslash 1998 h)]
  dsimp only
  rw [lng_num h, more_num h]
  dsimp only
  rw [if_neg sl_ne]
theorem gcd_next (n : Nat) : Nat.gcd (n + 1) n = 1 := by
  rw [Nat.gcd_comm, Nat.gcd_self_add_right]
  exact Nat.gcd_one_right n
end TL
namespace TL
open PySem L2

/-! ### steps of a reading -/
local macro_rules | `(tactic| walk_at "hp") => `(tactic| first | assumption | exact upd_same | (refine (upd_ne (by first | assumption | (exact Ne.symm (by assumption)))).trans ?_; walk_at "hp"))
local macro_rules | `(tactic| walk_at "ok") => `(tactic| first | (exact Or.inr ⟨by decide, by decide⟩) | (exact ⟨by decide, by decide⟩) | (exact ⟨by decide, by decide, by decide⟩) | (show _ ≠ _; omega) | (show _ ≠ _; decide) | (exact Or.inl ⟨by omega, by omega⟩) | decide)
local macro_rules | `(tactic| walk_at "sq") => `(tactic| first | assumption | exact SqL.of (by walk_at "hp") | exact SqT.of (by walk_at "hp"))
local macro_rules | `(tactic| walk_at "ty") => `(tactic| first | refine ⟨_, _, Value.type "int", Value.type "list", false, rfl, ClsV.ty _, TyX.base (TyOf.int _), kt_int_list, ?_⟩ | refine ⟨_, _, Value.type "bool", Value.type "list", false, rfl, ClsV.ty _, TyX.base (TyOf.bl _), kt_bool_list, ?_⟩ | refine ⟨_, _, Value.type "str", Value.type "list", false, rfl, ClsV.ty _, TyX.base (TyOf.str _), kt_str_list, ?_⟩ | refine ⟨_, _, Value.type "NoneType", Value.type "list", false, rfl, ClsV.ty _, TyX.base TyOf.non, kt_NoneType_list, ?_⟩ | refine ⟨_, _, Value.type "list", Value.type "list", true, rfl, ClsV.ty _, tyx_L (by walk_at "sq"), kt_list_list, ?_⟩ | refine ⟨_, _, Value.type "tuple", Value.type "list", false, rfl, ClsV.ty _, tyx_T (by walk_at "sq"), kt_tuple_list, ?_⟩ | refine ⟨_, _, Value.type "int", Value.type "tuple", false, rfl, ClsV.ty _, TyX.base (TyOf.int _), kt_int_tuple, ?_⟩ | refine ⟨_, _, Value.type "bool", Value.type "tuple", false, rfl, ClsV.ty _, TyX.base (TyOf.bl _), kt_bool_tuple, ?_⟩ | refine ⟨_, _, Value.type "str", Value.type "tuple", false, rfl, ClsV.ty _, TyX.base (TyOf.str _), kt_str_tuple, ?_⟩ | refine ⟨_, _, Value.type "NoneType", Value.type "tuple", false, rfl, ClsV.ty _, TyX.base TyOf.non, kt_NoneType_tuple, ?_⟩ | refine ⟨_, _, Value.type "list", Value.type "tuple", false, rfl, ClsV.ty _, tyx_L (by walk_at "sq"), kt_list_tuple, ?_⟩ | refine ⟨_, _, Value.type "tuple", Value.type "tuple", true, rfl, ClsV.ty _, tyx_T (by walk_at "sq"), kt_tuple_tuple, ?_⟩ | refine ⟨_, _, Value.type "int", Value.type "bool", false, rfl, ClsV.ty _, TyX.base (TyOf.int _), kt_int_bool, ?_⟩ | refine ⟨_, _, Value.type "bool", Value.type "bool", true, rfl, ClsV.ty _, TyX.base (TyOf.bl _), kt_bool_bool, ?_⟩ | refine ⟨_, _, Value.type "str", Value.type "bool", false, rfl, ClsV.ty _, TyX.base (TyOf.str _), kt_str_bool, ?_⟩ | refine ⟨_, _, Value.type "NoneType", Value.type "bool", false, rfl, ClsV.ty _, TyX.base TyOf.non, kt_NoneType_bool, ?_⟩ | refine ⟨_, _, Value.type "list", Value.type "bool", false, rfl, ClsV.ty _, tyx_L (by walk_at "sq"), kt_list_bool, ?_⟩ | refine ⟨_, _, Value.type "tuple", Value.type "bool", false, rfl, ClsV.ty _, tyx_T (by walk_at "sq"), kt_tuple_bool, ?_⟩ | refine ⟨_, _, Value.type "int", Value.type "int", true, rfl, ClsV.ty _, TyX.base (TyOf.int _), kt_int_int, ?_⟩ | refine ⟨_, _, Value.type "bool", Value.type "int", true, rfl, ClsV.ty _, TyX.base (TyOf.bl _), kt_bool_int, ?_⟩ | refine ⟨_, _, Value.type "str", Value.type "int", false, rfl, ClsV.ty _, TyX.base (TyOf.str _), kt_str_int, ?_⟩ | refine ⟨_, _, Value.type "NoneType", Value.type "int", false, rfl, ClsV.ty _, TyX.base TyOf.non, kt_NoneType_int, ?_⟩ | refine ⟨_, _, Value.type "list", Value.type "int", false, rfl, ClsV.ty _, tyx_L (by walk_at "sq"), kt_list_int, ?_⟩ | refine ⟨_, _, Value.type "tuple", Value.type "int", false, rfl, ClsV.ty _, tyx_T (by walk_at "sq"), kt_tuple_int, ?_⟩ | refine ⟨_, _, Value.type "int", Value.type "str", false, rfl, ClsV.ty _, TyX.base (TyOf.int _), kt_int_str, ?_⟩ | refine ⟨_, _, Value.type "bool", Value.type "str", false, rfl, ClsV.ty _, TyX.base (TyOf.bl _), kt_bool_str, ?_⟩ | refine ⟨_, _, Value.type "str", Value.type "str", true, rfl, ClsV.ty _, TyX.base (TyOf.str _), kt_str_str, ?_⟩ | refine ⟨_, _, Value.type "NoneType", Value.type "str", false, rfl, ClsV.ty _, TyX.base TyOf.non, kt_NoneType_str, ?_⟩ | refine ⟨_, _, Value.type "list", Value.type "str", false, rfl, ClsV.ty _, tyx_L (by walk_at "sq"), kt_list_str, ?_⟩ | refine ⟨_, _, Value.type "tuple", Value.type "str", false, rfl, ClsV.ty _, tyx_T (by walk_at "sq"), kt_tuple_str, ?_⟩)
local macro_rules | `(tactic| walk_at "go1") => `(tactic| first
  | (refine ⟨_, rfl, ?_⟩)
  | (refine ⟨_, _, rfl, rfl, ?_⟩)
  | (refine ⟨_, _, _, _, rfl, rfl, SqL.of (by walk_at "hp"), rfl, ?_⟩)
  | (refine Or.inl ⟨_, rfl, ?_⟩)
  | (refine ⟨rfl, ?_⟩)
  | (refine ⟨_, _, rfl, .inl (SqL.of (by walk_at "hp")), ?_⟩)
  | (refine ⟨_, _, rfl, Or.inl (by assumption), ?_⟩)
  | (refine ⟨_, _, rfl, Or.inr (by assumption), ?_⟩)
  | (refine ⟨(by walk_at "ok"), ?_⟩)
  | (refine ⟨_, _, _, _, rfl, rfl, (by walk_at "hp"), rfl, ?_⟩))
local macro_rules | `(tactic| walk_at "go") => `(tactic| repeat (walk_at "go1"))
local macro_rules | `(tactic| walk_at "gt") => `(tactic| repeat (first | walk_at "go1" | walk_at "ty"))

section
variable {P : Program} {w : World} {K : PySem.W.Frag} {mg : Str → Option Value} {base : Heap}
/-! ### _law_same of equal data -/
def spSame (K : PySem.W.Frag) (m : Nat) : Sp := fun vs H Q _ => ∃ (n : Nat) (x y : V), vs = [x, y] ∧ n < m ∧ DEq K H n x y ∧ ∀ H', Same H H' → Q (.bl true) H'
theorem ok_same_step (T : Tx K mg) {m : Nat} (G_l_same : FnOk P w K mg base CX0 m T.f_l_same T.d_l_same ["_law_found", "_law_due"] (spSame K m)) : FnOk P w K mg base CX0 (m + 1) T.f_l_same T.d_l_same ["_law_found", "_law_due"] (spSame K (m + 1)) := by
  refine T.F_l_same.ok sc_l_same (fun vs H Q E h => ?_) (fun cdv A outer s H vs Q E hr h => ?_)
  · obtain ⟨n, x, y, rfl, _⟩ := h
    rfl
  obtain ⟨n, x, y, rfl, hm, hd, q⟩ := h
  have nd := sc_l_same.nd
  refine ⟨_, (pss_cons (ps_if (pt_val (pe_callB (show CallR _ _ (rIsi K) from call_isi) (by rfl) T.z_isinstance (by decide +kernel) (pa_cons (pv 1) (pa_cons (pe_bltn (v := .ty "list") (u := .type "list") (by rfl) T.z_list (by decide +kernel) rfl) pa_nil)))) (pss_one (ps_ret (pe_and (pe_callB (show CallR _ _ (rIsi K) from call_isi) (by rfl) T.z_isinstance (by decide +kernel) (pa_cons (pv 0) (pa_cons (pe_bltn (v := .ty "list") (u := .type "list") (by rfl) T.z_list (by decide +kernel) rfl) pa_nil))) (pe_and (pe_cmpR op_eq (pe_callB (show CallR _ _ (rLenSq K) from call_len_seq) (by rfl) T.z_len (by decide +kernel) (pa_cons (pv 0) pa_nil)) (pe_callB (show CallR _ _ (rLenSq K) from call_len_seq) (by rfl) T.z_len (by decide +kernel) (pa_cons (pv 1) pa_nil)) (nomark _)) (pe_one (pe_callB (show CallR _ _ (rAll K) from cr_all rfl) (by rfl) T.z_all (by decide +kernel) (pa_cons (pe_lc (own := [("_law_x", 2), ("_law_y", 3)]) (g := (gTup K 2 (gCons (gName 2) (gCons (gName 3) gNil)))) rfl nd (show PI _ _ _ (RZ.iZipA K _) from RZ.pi_zipA (by rfl) T.z_zip (pa_cons (pv 0) (pa_cons (pv 1) pa_nil))) (blkOk_by (own := [("_law_x", 2), ("_law_y", 3)]) (N := N_l_same) (sc := defScope s_l_same) (by decide +kernel)) (fun _ _ _ _ _ => by exact (pg_tup rfl (pgs_cons (pg_name (i := 2) nd rfl (Or.inl rfl)) (pgs_cons (pg_name (i := 3) nd rfl (Or.inl rfl)) pgs_nil)))) (fun _ _ _ _ _ => by exact pts_nil) (fun _ _ _ _ _ => by exact (pe_call G_l_same hr (by rfl) T.m_l_same T.F_l_same.kp T.b_l_same .nil pass0 (pa_cons (pv 2) (pa_cons (pv 3) pa_nil))))) pa_nil))))))) pss_nil)
    (pss_cons (ps_if (pt_val (pe_callB (show CallR _ _ (rIsi K) from call_isi) (by rfl) T.z_isinstance (by decide +kernel) (pa_cons (pv 1) (pa_cons (pe_bltn (v := .ty "tuple") (u := .type "tuple") (by rfl) T.z_tuple (by decide +kernel) rfl) pa_nil)))) (pss_one (ps_ret (pe_and (pe_callB (show CallR _ _ (rIsi K) from call_isi) (by rfl) T.z_isinstance (by decide +kernel) (pa_cons (pv 0) (pa_cons (pe_bltn (v := .ty "tuple") (u := .type "tuple") (by rfl) T.z_tuple (by decide +kernel) rfl) pa_nil))) (pe_and (pe_cmpR op_eq (pe_callB (show CallR _ _ (rLenSq K) from call_len_seq) (by rfl) T.z_len (by decide +kernel) (pa_cons (pv 0) pa_nil)) (pe_callB (show CallR _ _ (rLenSq K) from call_len_seq) (by rfl) T.z_len (by decide +kernel) (pa_cons (pv 1) pa_nil)) (nomark _)) (pe_one (pe_callB (show CallR _ _ (rAll K) from cr_all rfl) (by rfl) T.z_all (by decide +kernel) (pa_cons (pe_lc (own := [("_law_x", 2), ("_law_y", 3)]) (g := (gTup K 2 (gCons (gName 2) (gCons (gName 3) gNil)))) rfl nd (show PI _ _ _ (RZ.iZipA K _) from RZ.pi_zipA (by rfl) T.z_zip (pa_cons (pv 0) (pa_cons (pv 1) pa_nil))) (blkOk_by (own := [("_law_x", 2), ("_law_y", 3)]) (N := N_l_same) (sc := defScope s_l_same) (by decide +kernel)) (fun _ _ _ _ _ => by exact (pg_tup rfl (pgs_cons (pg_name (i := 2) nd rfl (Or.inl rfl)) (pgs_cons (pg_name (i := 3) nd rfl (Or.inl rfl)) pgs_nil)))) (fun _ _ _ _ _ => by exact pts_nil) (fun _ _ _ _ _ => by exact (pe_call G_l_same hr (by rfl) T.m_l_same T.F_l_same.kp T.b_l_same .nil pass0 (pa_cons (pv 2) (pa_cons (pv 3) pa_nil))))) pa_nil))))))) pss_nil)
    (pss_cons (ps_if (PW.pt (pw_or (pt_cmpR op_isN (pv 1) pe_non (nomark _)) (pw_or1 (pt_cmpR op_isN (pv 0) pe_non (nomark _))))) (pss_one (ps_ret (pe_and (pe_cmpR op_isN (pv 1) pe_non (nomark _)) (pe_one (pe_cmpR op_isN (pv 0) pe_non (nomark _)))))) pss_nil)
    (pss_cons (ps_if (PW.pt (pw_or (pt_val (pe_callB (show CallR _ _ (rIsi K) from call_isi) (by rfl) T.z_isinstance (by decide +kernel) (pa_cons (pv 1) (pa_cons (pe_bltn (v := .ty "bool") (u := .type "bool") (by rfl) T.z_bool (by decide +kernel) rfl) pa_nil)))) (pw_or1 (pt_val (pe_callB (show CallR _ _ (rIsi K) from call_isi) (by rfl) T.z_isinstance (by decide +kernel) (pa_cons (pv 0) (pa_cons (pe_bltn (v := .ty "bool") (u := .type "bool") (by rfl) T.z_bool (by decide +kernel) rfl) pa_nil))))))) (pss_one (ps_ret (pe_and (pe_callB (show CallR _ _ (rIsi K) from call_isi) (by rfl) T.z_isinstance (by decide +kernel) (pa_cons (pv 1) (pa_cons (pe_bltn (v := .ty "bool") (u := .type "bool") (by rfl) T.z_bool (by decide +kernel) rfl) pa_nil))) (pe_and (pe_callB (show CallR _ _ (rIsi K) from call_isi) (by rfl) T.z_isinstance (by decide +kernel) (pa_cons (pv 0) (pa_cons (pe_bltn (v := .ty "bool") (u := .type "bool") (by rfl) T.z_bool (by decide +kernel) rfl) pa_nil))) (pe_one (pe_cmpR op_eq (pv 0) (pv 1) (nomark _))))))) pss_nil)
    (pss_cons (ps_if (pt_val (pe_callB (show CallR _ _ (rIsi K) from call_isi) (by rfl) T.z_isinstance (by decide +kernel) (pa_cons (pv 1) (pa_cons (pe_bltn (v := .ty "int") (u := .type "int") (by rfl) T.z_int (by decide +kernel) rfl) pa_nil)))) (pss_one (ps_ret (pe_and (pe_callB (show CallR _ _ (rIsi K) from call_isi) (by rfl) T.z_isinstance (by decide +kernel) (pa_cons (pv 0) (pa_cons (pe_bltn (v := .ty "int") (u := .type "int") (by rfl) T.z_int (by decide +kernel) rfl) pa_nil))) (pe_one (pe_cmpR op_eq (pv 0) (pv 1) (nomark _)))))) pss_nil)
    (pss_cons (ps_if (pt_val (pe_callB (show CallR _ _ (rIsi K) from call_isi) (by rfl) T.z_isinstance (by decide +kernel) (pa_cons (pv 1) (pa_cons (pe_bltn (v := .ty "str") (u := .type "str") (by rfl) T.z_str (by decide +kernel) rfl) pa_nil)))) (pss_one (ps_ret (pe_and (pe_callB (show CallR _ _ (rIsi K) from call_isi) (by rfl) T.z_isinstance (by decide +kernel) (pa_cons (pv 0) (pa_cons (pe_bltn (v := .ty "str") (u := .type "str") (by rfl) T.z_str (by decide +kernel) rfl) pa_nil))) (pe_one (pe_cmpR op_eq (pv 0) (pv 1) (nomark _)))))) pss_nil)
    (pss_one (ps_ret (pe_and (pe_not (pe_callB (show CallR _ _ (rIsiT K) from call_isiT) (by rfl) T.z_isinstance (by decide +kernel) (pa_cons (pv 0) (pa_cons (pe_tup (pa_cons (pe_bltn (v := .ty "int") (u := .type "int") (by rfl) T.z_int (by decide +kernel) rfl) (pa_cons (pe_bltn (v := .ty "str") (u := .type "str") (by rfl) T.z_str (by decide +kernel) rfl) (pa_cons (pe_bltn (v := .ty "list") (u := .type "list") (by rfl) T.z_list (by decide +kernel) rfl) (pa_cons (pe_bltn (v := .ty "tuple") (u := .type "tuple") (by rfl) T.z_tuple (by decide +kernel) rfl) pa_nil))))) pa_nil)))) (pe_one (pe_cmpR op_eq (pv 0) (pv 1) (nomark _)))))))))))), ?_⟩
  cases hd with
  | int i =>
    walk_at "gt"
    rw [decide_eq_true rfl]
    exact q H (Same.refl H)
  | bl b =>
    walk_at "gt"
    rw [decide_eq_true rfl]
    exact q H (Same.refl H)
  | str x =>
    walk_at "gt"
    rw [decide_eq_true rfl]
    exact q H (Same.refl H)
  | non =>
    walk_at "gt"
    rw [decide_eq_true rfl]
    exact q H (Same.refl H)
  | @lst n a b xs ys h1 h2 hlen hl he =>
    walk_at "gt"
    refine ite_dec (by rw [hl]) ?_
    refine ⟨_, rfl, _, rfl, a, b, xs, ys, rfl, .inl ⟨h1, h2, fun D hD => ?_⟩⟩
    refine lcm (walk_zip (n := xs.length) (by omega)) (List.replicate xs.length (V.bl true)) (by simp) hlen hD (fun H' s => ⟨s.seq h1, s.seq h2⟩) ?_ ?_
    · rintro i y x H1 H2 hi hy s1 ⟨Tp, u, z, rfl, hT, rfl, hu, hz⟩ k hk
      obtain rfl := rep_get hy
      have s2 : Same H1 (upd H1 Tp (.tup [u, z])) := Same.new hT
      refine ⟨Tp, [u, z], rfl, SqT.of upd_same, rfl, u, [z], rfl, z, [], rfl, rfl, rfl, ?_⟩
      exact ⟨_, rfl, _, rfl, n, u, z, rfl, by omega, (he i u z hu hz).same (s1.trans s2), fun H4 s4 => hk H4 (s2.trans s4)⟩
    · intro H' s1 hD'
      refine ⟨D, List.replicate xs.length true, rfl, SqL.of (by rw [hD', List.map_replicate]), ?_⟩
      rw [all_rep]
      exact q H' s1
  | @tup n a b xs ys h1 h2 hlen hl he =>
    walk_at "gt"
    refine ite_dec (by rw [hl]) ?_
    refine ⟨_, rfl, _, rfl, a, b, xs, ys, rfl, .inr ⟨h1, h2, fun D hD => ?_⟩⟩
    refine lcm (walk_zipT (n := xs.length) (by omega)) (List.replicate xs.length (V.bl true)) (by simp) hlen hD (fun H' s => ⟨seqT s h1, seqT s h2⟩) ?_ ?_
    · rintro i y x H1 H2 hi hy s1 ⟨Tp, u, z, rfl, hT, rfl, hu, hz⟩ k hk
      obtain rfl := rep_get hy
      have s2 : Same H1 (upd H1 Tp (.tup [u, z])) := Same.new hT
      refine ⟨Tp, [u, z], rfl, SqT.of upd_same, rfl, u, [z], rfl, z, [], rfl, rfl, rfl, ?_⟩
      exact ⟨_, rfl, _, rfl, n, u, z, rfl, by omega, (he i u z hu hz).same (s1.trans s2), fun H4 s4 => hk H4 (s2.trans s4)⟩
    · intro H' s1 hD'
      refine ⟨D, List.replicate xs.length true, rfl, SqL.of (by rw [hD', List.map_replicate]), ?_⟩
      rw [all_rep]
      exact q H' s1
theorem ok_same (T : Tx K mg) : ∀ m : Nat, FnOk P w K mg base CX0 m T.f_l_same T.d_l_same ["_law_found", "_law_due"] (spSame K m)
  | 0 => by
    have no : ∀ vs H Q E, ¬ spSame K 0 vs H Q E := fun vs H Q E h => by
      obtain ⟨n, x, y, _, h1, _⟩ := h
      omega
    exact ⟨fun vs H Q E h => absurd h (no vs H Q E), fun A outer s H args us vs Q E _ _ _ _ h => absurd h (no vs H Q E)⟩
  | m + 1 => ok_same_step T (ok_same T m)
end
end TL
namespace TL
open PySem L2 PySem.NumText

/-! ### steps of a reading -/
local macro_rules | `(tactic| walk_at "hp") => `(tactic| first | assumption | exact upd_same | (refine (upd_ne (by first | assumption | (exact Ne.symm (by assumption)))).trans ?_; walk_at "hp"))
local macro_rules | `(tactic| walk_at "ok") => `(tactic| first | (exact Or.inr ⟨by decide, by decide⟩) | (exact ⟨by decide, by decide⟩) | (exact ⟨by decide, by decide, by decide⟩) | (show _ ≠ _; omega) | (show _ ≠ _; decide) | (exact Or.inl ⟨by omega, by omega⟩) | decide)
local macro_rules | `(tactic| walk_at "sq") => `(tactic| first | assumption | exact SqL.of (by walk_at "hp") | exact SqT.of (by walk_at "hp"))
local macro_rules | `(tactic| walk_at "ty") => `(tactic| first | refine ⟨_, _, Value.type "int", Value.type "list", false, rfl, ClsV.ty _, TyX.base (TyOf.int _), kt_int_list, ?_⟩ | refine ⟨_, _, Value.type "bool", Value.type "list", false, rfl, ClsV.ty _, TyX.base (TyOf.bl _), kt_bool_list, ?_⟩ | refine ⟨_, _, Value.type "str", Value.type "list", false, rfl, ClsV.ty _, TyX.base (TyOf.str _), kt_str_list, ?_⟩ | refine ⟨_, _, Value.type "NoneType", Value.type "list", false, rfl, ClsV.ty _, TyX.base TyOf.non, kt_NoneType_list, ?_⟩ | refine ⟨_, _, Value.type "list", Value.type "list", true, rfl, ClsV.ty _, tyx_L (by walk_at "sq"), kt_list_list, ?_⟩ | refine ⟨_, _, Value.type "tuple", Value.type "list", false, rfl, ClsV.ty _, tyx_T (by walk_at "sq"), kt_tuple_list, ?_⟩ | refine ⟨_, _, Value.type "int", Value.type "tuple", false, rfl, ClsV.ty _, TyX.base (TyOf.int _), kt_int_tuple, ?_⟩ | refine ⟨_, _, Value.type "bool", Value.type "tuple", false, rfl, ClsV.ty _, TyX.base (TyOf.bl _), kt_bool_tuple, ?_⟩ | refine ⟨_, _, Value.type "str", Value.type "tuple", false, rfl, ClsV.ty _, TyX.base (TyOf.str _), kt_str_tuple, ?_⟩ | refine ⟨_, _, Value.type "NoneType", Value.type "tuple", false, rfl, ClsV.ty _, TyX.base TyOf.non, kt_NoneType_tuple, ?_⟩ | refine ⟨_, _, Value.type "list", Value.type "tuple", false, rfl, ClsV.ty _, tyx_L (by walk_at "sq"), kt_list_tuple, ?_⟩ | refine ⟨_, _, Value.type "tuple", Value.type "tuple", true, rfl, ClsV.ty _, tyx_T (by walk_at "sq"), kt_tuple_tuple, ?_⟩ | refine ⟨_, _, Value.type "int", Value.type "bool", false, rfl, ClsV.ty _, TyX.base (TyOf.int _), kt_int_bool, ?_⟩ | refine ⟨_, _, Value.type "bool", Value.type "bool", true, rfl, ClsV.ty _, TyX.base (TyOf.bl _), kt_bool_bool, ?_⟩ | refine ⟨_, _, Value.type "str", Value.type "bool", false, rfl, ClsV.ty _, TyX.base (TyOf.str _), kt_str_bool, ?_⟩ | refine ⟨_, _, Value.type "NoneType", Value.type "bool", false, rfl, ClsV.ty _, TyX.base TyOf.non, kt_NoneType_bool, ?_⟩ | refine ⟨_, _, Value.type "list", Value.type "bool", false, rfl, ClsV.ty _, tyx_L (by walk_at "sq"), kt_list_bool, ?_⟩ | refine ⟨_, _, Value.type "tuple", Value.type "bool", false, rfl, ClsV.ty _, tyx_T (by walk_at "sq"), kt_tuple_bool, ?_⟩ | refine ⟨_, _, Value.type "int", Value.type "int", true, rfl, ClsV.ty _, TyX.base (TyOf.int _), kt_int_int, ?_⟩ | refine ⟨_, _, Value.type "bool", Value.type "int", true, rfl, ClsV.ty _, TyX.base (TyOf.bl _), kt_bool_int, ?_⟩ | refine ⟨_, _, Value.type "str", Value.type "int", false, rfl, ClsV.ty _, TyX.base (TyOf.str _), kt_str_int, ?_⟩ | refine ⟨_, _, Value.type "NoneType", Value.type "int", false, rfl, ClsV.ty _, TyX.base TyOf.non, kt_NoneType_int, ?_⟩ | refine ⟨_, _, Value.type "list", Value.type "int", false, rfl, ClsV.ty _, tyx_L (by walk_at "sq"), kt_list_int, ?_⟩ | refine ⟨_, _, Value.type "tuple", Value.type "int", false, rfl, ClsV.ty _, tyx_T (by walk_at "sq"), kt_tuple_int, ?_⟩ | refine ⟨_, _, Value.type "int", Value.type "str", false, rfl, ClsV.ty _, TyX.base (TyOf.int _), kt_int_str, ?_⟩ | refine ⟨_, _, Value.type "bool", Value.type "str", false, rfl, ClsV.ty _, TyX.base (TyOf.bl _), kt_bool_str, ?_⟩ | refine ⟨_, _, Value.type "str", Value.type "str", true, rfl, ClsV.ty _, TyX.base (TyOf.str _), kt_str_str, ?_⟩ | refine ⟨_, _, Value.type "NoneType", Value.type "str", false, rfl, ClsV.ty _, TyX.base TyOf.non, kt_NoneType_str, ?_⟩ | refine ⟨_, _, Value.type "list", Value.type "str", false, rfl, ClsV.ty _, tyx_L (by walk_at "sq"), kt_list_str, ?_⟩ | refine ⟨_, _, Value.type "tuple", Value.type "str", false, rfl, ClsV.ty _, tyx_T (by walk_at "sq"), kt_tuple_str, ?_⟩)
local macro_rules | `(tactic| walk_at "go1") => `(tactic| first
  | (refine ⟨_, rfl, ?_⟩)
  | (refine ⟨_, _, rfl, rfl, ?_⟩)
  | (refine ⟨_, _, _, _, rfl, rfl, SqL.of (by walk_at "hp"), rfl, ?_⟩)
  | (refine Or.inl ⟨_, rfl, ?_⟩)
  | (refine ⟨rfl, ?_⟩)
  | (refine ⟨_, _, rfl, .inl (SqL.of (by walk_at "hp")), ?_⟩)
  | (refine ⟨_, _, rfl, Or.inl (by assumption), ?_⟩)
  | (refine ⟨_, _, rfl, Or.inr (by assumption), ?_⟩)
  | (refine ⟨(by walk_at "ok"), ?_⟩)
  | (refine ⟨_, _, _, _, rfl, rfl, (by walk_at "hp"), rfl, ?_⟩))
local macro_rules | `(tactic| walk_at "go") => `(tactic| repeat (walk_at "go1"))
local macro_rules | `(tactic| walk_at "gt") => `(tactic| repeat (first | walk_at "go1" | walk_at "ty"))

section
variable {P : Program} {w : World} {K : PySem.W.Frag} {mg : Str → Option Value} {base : Heap}
-- [0=_law_bag_here, 1=_law_tail, 2=_law_long_one, 3=_law_less, 4=_law_more, 5=_law_num, 6=_law_den, 7=_law_told]
theorem FnOk.weak {n : Nat} {f : Addr} {d : FuncData} {ps : List Str} {S1 S2 : Sp} (h1 : FnOk P w K mg base CX0 n f d ps S1) (k : ∀ vs H Q E, S2 vs H Q E → S1 vs H Q E) : FnOk P w K mg base CX0 n f d ps S2 :=
  ⟨fun vs H Q E h => h1.1 vs H Q E (k _ _ _ _ h), fun A outer s H args us vs Q E a b c e h => h1.2 A outer s H args us vs Q E a b c e (k _ _ _ _ h)⟩
/-- of any value: what a def tells by its kind, its text, its items -/
def spAvB (K : PySem.W.Frag) (f : Kn → Bool → Bool → Bool) : Sp := fun vs H Q _ => ∃ (v : V) (k : Kn) (nb tb : Bool) (o : Option (Nat × Nat)), vs = [v] ∧ AV K H v k nb tb o ∧ ∀ H', Same H H' → Q (.bl (f k nb tb)) H'
def spAvO (K : PySem.W.Frag) : Sp := fun vs H Q _ => ∃ (v : V) (k : Kn) (nb tb : Bool) (o : Option (Nat × Nat)), vs = [v] ∧ AV K H v k nb tb o ∧ ∀ v' H', Same H H' → OT K H' o v' → Q v' H'
theorem av_name (T : Tx K mg) : FnOk P w K mg base CX0 1 T.f_is_name T.d_is_name ["value"] (spAvB K fun _ nb _ => nb) :=
  FnOk.weak (FnOk.or2 (ok_is_name (P := P) (w := w) (base := base) T) (ok_is_nameN T)) fun vs H Q E h => by
    obtain ⟨v, k, nb, tb, o, rfl, hv, q⟩ := h
    rcases hv.nm with ⟨a, rfl, ha, rfl, rfl⟩ | ⟨hn, rfl, rfl⟩
    · exact .inl ⟨a, rfl, Nat.le_trans ha.1 (by decide), ha.ok, q⟩
    · exact .inr ⟨v, rfl, hn, q H (Same.refl _)⟩
theorem av_name_due (T : Tx K mg) : FnOk P w K mg base CX0 1 T.f_l_name_due T.d_l_name_due ["_law_thing"] (spAvB K fun _ nb _ => nb) :=
  FnOk.weak (FnOk.or2 (ok_l_name_due (P := P) (w := w) (base := base) T) (ok_l_name_dueN T)) fun vs H Q E h => by
    obtain ⟨v, k, nb, tb, o, rfl, hv, q⟩ := h
    rcases hv.nm with ⟨a, rfl, ha, rfl, rfl⟩ | ⟨hn, rfl, rfl⟩
    · exact .inl ⟨a, rfl, Nat.le_trans ha.1 (by decide), ha.ok, q⟩
    · exact .inr ⟨v, rfl, hn, q H (Same.refl _)⟩
theorem av_number (T : Tx K mg) : FnOk P w K mg base CX0 1 T.f_is_number T.d_is_number ["value"] (spAvB K fun k _ _ => k.isNum) :=
  FnOk.weak (ok_is_numP (P := P) (w := w) (base := base) T) fun vs H Q E h => by
    obtain ⟨v, k, nb, tb, o, rfl, hv, q⟩ := h
    exact ⟨v, k, rfl, hv.kn, hv.ni, q H (Same.refl _)⟩
theorem av_l_number (T : Tx K mg) : FnOk P w K mg base CX0 1 T.f_l_number T.d_l_number ["_law_thing"] (spAvB K fun k _ _ => k.isNum) :=
  FnOk.weak (ok_l_numP (P := P) (w := w) (base := base) T) fun vs H Q E h => by
    obtain ⟨v, k, nb, tb, o, rfl, hv, q⟩ := h
    exact ⟨v, k, rfl, hv.kn, hv.ni, q H (Same.refl _)⟩
theorem av_tone (T : Tx K mg) : FnOk P w K mg base CX0 3 T.f_is_tone T.d_is_tone ["value"] (spAvB K fun _ _ tb => tb) :=
  FnOk.weak (FnOk.or2 (ok_is_toneT (P := P) (w := w) (base := base) T) (ok_is_toneN T)) fun vs H Q E h => by
    obtain ⟨v, k, nb, tb, o, rfl, hv, q⟩ := h
    rcases hv.tn with ⟨a, xs, ks, rfl, ha, hk, rfl⟩ | ⟨t, ht, hn, rfl⟩
    · exact .inl ⟨a, xs, ks, rfl, ha, hk, q⟩
    · exact .inr ⟨v, t, rfl, ht, hn, q H (Same.refl _)⟩
theorem av_tone_due (T : Tx K mg) : FnOk P w K mg base CX0 2 T.f_l_tone_due T.d_l_tone_due ["_law_thing"] (spAvB K fun _ _ tb => tb) :=
  FnOk.weak (FnOk.or2 (ok_tone_dueT (P := P) (w := w) (base := base) T) (ok_tone_dueN T)) fun vs H Q E h => by
    obtain ⟨v, k, nb, tb, o, rfl, hv, q⟩ := h
    rcases hv.tn with ⟨a, xs, ks, rfl, ha, hk, rfl⟩ | ⟨t, ht, hn, rfl⟩
    · exact .inl ⟨a, xs, ks, rfl, ha, hk, q⟩
    · exact .inr ⟨v, t, rfl, ht, hn, q H (Same.refl _)⟩
theorem av_read (T : Tx K mg) : FnOk P w K mg base CX0 2 T.f_read_tone T.d_read_tone ["text"] (spAvO K) :=
  FnOk.weak (FnOk.or2 (ok_read_tone (P := P) (w := w) (base := base) T) (ok_read_toneN T)) fun vs H Q E h => by
    obtain ⟨v, k, nb, tb, o, rfl, hv, q⟩ := h
    rcases hv.nm with ⟨a, rfl, ha, rfl, rfl⟩ | ⟨hn, rfl, rfl⟩
    · exact .inl ⟨a, rfl, Nat.le_trans ha.1 (by decide), q⟩
    · exact .inr ⟨v, rfl, hn, q .non H (Same.refl _) rfl⟩
theorem av_l_read (T : Tx K mg) : FnOk P w K mg base CX0 2 T.f_l_read T.d_l_read ["_law_told"] (spAvO K) :=
  FnOk.weak (FnOk.or2 (ok_l_read (P := P) (w := w) (base := base) T) (ok_l_readN T)) fun vs H Q E h => by
    obtain ⟨v, k, nb, tb, o, rfl, hv, q⟩ := h
    rcases hv.nm with ⟨a, rfl, ha, rfl, rfl⟩ | ⟨hn, rfl, rfl⟩
    · exact .inl ⟨a, rfl, Nat.le_trans ha.1 (by decide), ha.ok, q⟩
    · exact .inr ⟨v, rfl, hn, q .non H (Same.refl _) rfl⟩
/-! ### equal lists -/
def Alike (K : PySem.W.Frag) (n : Nat) (A B : Hp → V → Prop) : Prop := ∀ H v u, A H v → B H u → DEq K H n v u
def Alikes (K : PySem.W.Frag) (n : Nat) : List (Hp → V → Prop) → List (Hp → V → Prop) → Prop
  | [], [] => True
  | R :: Rs, S :: Ss => Alike K n R S ∧ Alikes K n Rs Ss
  | _, _ => False
theorem Alikes.len {n : Nat} : ∀ {Rs Ss : List (Hp → V → Prop)}, Alikes K n Rs Ss → Rs.length = Ss.length
  | [], [], _ => rfl
  | _ :: _, _ :: _, h => congrArg Nat.succ (Alikes.len h.2)
  | [], _ :: _, h => h.elim
  | _ :: _, [], h => h.elim
theorem Alikes.get {n : Nat} : ∀ {Rs Ss : List (Hp → V → Prop)}, Alikes K n Rs Ss → ∀ (i : Nat) R S, Rs[i]? = some R → Ss[i]? = some S → Alike K n R S
  | R :: _, S :: _, h, 0, _, _, e1, e2 => by cases e1; cases e2; exact h.1
  | _ :: _, _ :: _, h, i + 1, R, S, e1, e2 => Alikes.get h.2 i R S e1 e2
  | [], [], _, i, _, _, e1, _ => by cases e1
  | [], _ :: _, h, _, _, _, _, _ => h.elim
  | _ :: _, [], h, _, _, _, _, _ => h.elim
section
variable {σ : L2.St} {H : Hp} {te ta tb : TE} {tr : TA} {R A B : Hp → V → Prop} {Rs Ss : List (Hp → V → Prop)} {E : XK} {n : Nat}
theorem alike_lst (h : Alikes K n Rs Ss) (hz : Rs.length ≤ 1000) : Alike K (n + 1) (LstR Rs) (LstR Ss) := fun H v u ⟨p, vs, e1, e2, e3⟩ ⟨r, us, g1, g2, g3⟩ => by
  subst e1
  subst g1
  exact .lst (SqL.of e2) (SqL.of g2) (by rw [e3.len]; omega) (by rw [e3.len, g3.len, h.len]) fun i x y hx hy => by
    obtain ⟨R, a1, a2⟩ := e3.get i x hx
    obtain ⟨S, b1, b2⟩ := g3.get i y hy
    exact h.get i R S a1 b1 H x y a2 b2
/-- a number pair at a tuple -/
def OTR (K : PySem.W.Frag) (o : Option (Nat × Nat)) : Hp → V → Prop := fun H v => OT K H o v
theorem mOT {o : Option (Nat × Nat)} : Mono (OTR K o) := fun H H' v s h => by
  cases o with
  | none => exact h
  | some p =>
    obtain ⟨t, e, ht⟩ := h
    exact ⟨t, e, seqT s ht⟩
theorem alike_ot {o : Option (Nat × Nat)} : Alike K (n + 1) (OTR K o) (OTR K o) := fun H v u h k => by
  cases o with
  | none =>
    obtain rfl := h
    obtain rfl := k
    exact .non
  | some p =>
    obtain ⟨t, rfl, ht⟩ := h
    obtain ⟨r, rfl, hr⟩ := k
    refine .tup ht hr (by show 2 ≤ 100000; decide) rfl fun i x y hx hy => ?_
    rw [hx] at hy
    obtain rfl := Option.some.inj hy
    match i, hx with
    | 0, hx => cases hx; exact .int _
    | 1, hx => cases hx; exact .int _
    | i + 2, hx => cases hx
theorem alike_bl {b : Bool} : Alike K n (IsV (.bl b)) (IsV (.bl b)) := fun H v u h k => by
  obtain rfl := h
  obtain rfl := k
  exact .bl _
theorem alike_str {b : Str} : Alike K n (IsV (.str b)) (IsV (.str b)) := fun H v u h k => by
  obtain rfl := h
  obtain rfl := k
  exact .str _
theorem ev_pair {x y : Nat} {i j : Nat} (hx : σ[i]? = some (some (.int (x : Int)))) (hy : σ[j]? = some (some (.int (y : Int)))) : Ev (tTup (tCons (tVar i) (tCons (tVar j) tNil))) σ H (OTR K (some (x, y))) := fun H1 _ Q q =>
  ⟨_, hx, _, hy, (by show 2 ≤ sizeLine; decide), fun p hp => q _ _ (Same.new hp) ⟨p, rfl, SqT.of upd_same⟩⟩
theorem ev_pair1 {x : Nat} {i : Nat} (hx : σ[i]? = some (some (.int (x : Int)))) : Ev (tTup (tCons (tVar i) (tCons (tC (.int 1)) tNil))) σ H (OTR K (some (x, 1))) := fun H1 _ Q q =>
  ⟨_, hx, (by show 2 ≤ sizeLine; decide), fun p hp => q _ _ (Same.new hp) ⟨p, rfl, SqT.of upd_same⟩⟩
theorem ev_none : Ev (tC .non) σ H (OTR K none) := ev_c fun _ _ => rfl
theorem ret_same {n : Nat} {D : Ends} (ha : Ev ta σ H A) (mA : Mono A) (hb : Ev tb σ H B) (hd : Alike K n A B) (hn : n < 4) (k : ∀ H', Same H H' → D.rt (.bl true) H') :
    tRet (tCall (spSame K 4) [] E (tCons ta (tCons tb tNil))) D σ H :=
  ha H (Same.refl _) _ fun v H1 s1 hv => hb H1 s1 _ fun u H2 s2 hu => ⟨n, v, u, rfl, hn, hd H2 v u (mA _ _ _ s2 hv) hu, fun H3 s3 => k H3 ((s1.trans s2).trans s3)⟩
theorem if_same {n : Nat} {t0 : TS} {rest : TS} {D : Ends} (ha : Ev ta σ H A) (mA : Mono A) (hb : Ev tb σ H B) (hd : Alike K n A B) (hn : n < 4) (k : ∀ H', Same H H' → rest D σ H') :
    tSeq (tIfS (tNot (tB (tCall (spSame K 4) [] E (tCons ta (tCons tb tNil))))) t0 tNext) rest D σ H :=
  ha H (Same.refl _) _ fun v H1 s1 hv => hb H1 s1 _ fun u H2 s2 hu => ⟨n, v, u, rfl, hn, hd H2 v u (mA _ _ _ s2 hv) hu, fun H3 s3 => ⟨true, rfl, iteF' (c := !true) rfl (k H3 ((s1.trans s2).trans s3))⟩⟩
/-- a text put together -/
def EvS (te : TE) (σ : L2.St) (H : Hp) (a : Str) : Prop := ∀ H1, Same H H1 → ∀ Q : VK, Q (.str a) H1 → te σ H1 Q
theorem es_var {i : Nat} {a : Str} (h : σ[i]? = some (some (.str a))) : EvS (tVar i) σ H a := fun H1 _ Q q => ⟨_, h, q⟩
theorem es_c {a : Str} : EvS (tC (.str a)) σ H a := fun H1 _ Q q => q
def rAddS : R2 := fun x y H Q => ∃ i j, x = .str i ∧ y = .str j ∧ i.length + j.length ≤ sizeLine ∧ Q (.str (i ++ j)) H
theorem es_add {a b : Str} (ha : EvS ta σ H a) (hb : EvS tb σ H b) (h : a.length + b.length ≤ 100000) : EvS (tOp rAddS ta tb) σ H (a ++ b) := fun H1 s1 Q q =>
  ha H1 s1 _ (hb H1 s1 _ ⟨a, b, rfl, rfl, Nat.le_trans h (by decide), q⟩)
theorem es_rep {n : Nat} (hn : n ≤ 10000) : EvS (tOp (fun x y H Q => ∃ (a : Str) (n : Nat), x = .str a ∧ y = .int (n : Int) ∧ 0 < a.length ∧ a.length ≤ 1000 ∧ n ≤ 10000 ∧ Q (.str (repS a n)) H) (tC (.str (Str.ofString "0"))) (tC (.int (n : Int)))) σ H (repS (Str.ofString "0") n) := fun H1 _ Q q =>
  ⟨_, n, rfl, rfl, by decide +kernel, by decide +kernel, hn, q⟩
theorem ev_es {a : Str} (h : EvS te σ H a) : Ev te σ H (IsV (.str a)) := fun H1 s1 Q q => h H1 s1 _ (q _ H1 (Same.refl _) rfl)
theorem av_str {H : Hp} {a : Str} (h : Asc 9000 a) : AV K H (.str a) .str (nameB a) false (pairO a) := ⟨.s, Kn.noConfusion, .inl ⟨a, rfl, h, rfl, rfl⟩, .inr ⟨_, TyX.base (TyOf.str _), kt_str_tuple, rfl⟩⟩
theorem ev_read {a : Str} {o : Option (Nat × Nat)} (h : EvS te σ H a) (ha : Asc 9000 a) (e : pairO a = o) : Ev (tCall (spAvO K) [] E (tCons te tNil)) σ H (OTR K o) := fun H1 s1 Q q =>
  h H1 s1 _ ⟨_, _, _, _, o, rfl, e ▸ av_str ha, fun v' H' s' ho => q v' H' s' ho⟩
end
theorem asc_tl {n : Nat} {a : Str} (h1 : a.length ≤ n) (h2 : ∀ c ∈ tl a, c < 128) : Asc n a := ⟨h1, h2⟩
theorem lng_asc {n t : Nat} (h : t < 10) (hn : n ≤ 3000) : Asc 3002 (lng n t) := asc_tl (by rw [lng_len n h]; omega) fun c hc => by
  rw [tl_lng n h] at hc
  rcases List.mem_append.mp hc with z | z
  · rcases zer_mem z with z | z <;> omega
  · have := List.mem_singleton.mp z
    omega
theorem ok_l_long_so (T : Tx K mg) : FnOk P w K mg base CX0 5 T.f_l_long_so T.d_l_long_so ["_law_bag_here"] (fun vs H Q _ => ∃ (B : Bg), vs = [.ref B.b] ∧ Bag B H ∧ ∀ H', Q (.bl true) H') := by
  have G_l_draw := ok_draw (P := P) (w := w) (base := base) T
  have G_read_tone := av_read (P := P) (w := w) (base := base) T
  have G_l_same := ok_same (P := P) (w := w) (base := base) T 4
  refine T.F_l_long_so.ok sc_l_long_so (fun vs H Q E h => ?_) (fun cdv A outer s H vs Q E hr h => ?_)
  · obtain ⟨B, rfl, _⟩ := h
    rfl
  obtain ⟨B, rfl, hB, q⟩ := h
  have nd := sc_l_long_so.nd
  refine ⟨_, (pss_cons (ps_set (i := 1) nd rfl (Or.inl rfl) (pe_callTy call_str_int (by rfl) T.z_str (by decide +kernel) (pa_cons (pe_op op_add pe_int (pe_call G_l_draw (hr.mono (by decide)) (by rfl) T.m_l_draw T.F_l_draw.kp T.b_l_draw .nil pass0 (pa_cons (pv 0) (pa_cons pe_int pa_nil)))) pa_nil)))
    (pss_cons (ps_set (i := 2) nd rfl (Or.inl rfl) (pe_op op_add_str (pe_op op_add_str pe_str (pe_op op_repS pe_str pe_int)) (pv 1)))
    (pss_cons (ps_set (i := 3) nd rfl (Or.inl rfl) (pe_op op_add_str (pe_op op_add_str pe_str (pe_op op_repS pe_str pe_int)) (pe_callTy call_str_int (by rfl) T.z_str (by decide +kernel) (pa_cons (pe_op op_sub (pe_callTy (call_int_strL T.no_limit) (by rfl) T.z_int (by decide +kernel) (pa_cons (pv 1) pa_nil)) pe_int) pa_nil))))
    (pss_cons (ps_set (i := 4) nd rfl (Or.inl rfl) (pe_op op_add_str (pe_op op_add_str pe_str (pe_op op_repS pe_str pe_int)) (pv 1)))
    (pss_cons (ps_par (i := 5) (j := 6) rfl nd rfl rfl (by decide) rfl rfl (pa_cons (pe_callTy (call_int_strL T.no_limit) (by rfl) T.z_int (by decide +kernel) (pa_cons (pv 2) pa_nil)) (pa_cons (pe_callTy (call_int_strL T.no_limit) (by rfl) T.z_int (by decide +kernel) (pa_cons (pv 3) pa_nil)) pa_nil)) rfl)
    (pss_cons (ps_set (i := 7) nd rfl (Or.inl rfl) (pe_lst (pa_cons (pe_call G_read_tone (hr.mono (by decide)) (by rfl) T.m_read_tone T.F_read_tone.kp T.b_read_tone .nil pass0 (pa_cons (pv 2) pa_nil)) (pa_cons (pe_call G_read_tone (hr.mono (by decide)) (by rfl) T.m_read_tone T.F_read_tone.kp T.b_read_tone .nil pass0 (pa_cons (pe_op op_add_str (pe_op op_add_str (pv 2) pe_str) (pv 3)) pa_nil)) (pa_cons (pe_call G_read_tone (hr.mono (by decide)) (by rfl) T.m_read_tone T.F_read_tone.kp T.b_read_tone .nil pass0 (pa_cons (pe_op op_add_str (pe_op op_add_str (pv 3) pe_str) (pv 2)) pa_nil)) (pa_cons (pe_call G_read_tone (hr.mono (by decide)) (by rfl) T.m_read_tone T.F_read_tone.kp T.b_read_tone .nil pass0 (pa_cons (pv 4) pa_nil)) pa_nil))))))
    (pss_cons (ps_set (i := 7) nd rfl (Or.inl rfl) (pe_op op_cat (pv 7) (pe_lst (pa_cons (pe_call G_read_tone (hr.mono (by decide)) (by rfl) T.m_read_tone T.F_read_tone.kp T.b_read_tone .nil pass0 (pa_cons (pe_op op_add_str (pv 4) pe_str) pa_nil)) (pa_cons (pe_call G_read_tone (hr.mono (by decide)) (by rfl) T.m_read_tone T.F_read_tone.kp T.b_read_tone .nil pass0 (pa_cons (pe_op op_add_str pe_str (pv 4)) pa_nil)) (pa_cons (pe_call G_read_tone (hr.mono (by decide)) (by rfl) T.m_read_tone T.F_read_tone.kp T.b_read_tone .nil pass0 (pa_cons (pe_op op_add_str (pe_op op_add_str (pv 2) pe_str) (pv 4)) pa_nil)) pa_nil))))))
    (pss_one (ps_ret (pe_call G_l_same hr (by rfl) T.m_l_same T.F_l_same.kp T.b_l_same .nil pass0 (pa_cons (pv 7) (pa_cons (pe_lst (pa_cons (pe_tup (pa_cons (pv 5) (pa_cons pe_int pa_nil))) (pa_cons (pe_tup (pa_cons (pv 5) (pa_cons (pv 6) pa_nil))) (pa_cons (pe_tup (pa_cons (pv 6) (pa_cons (pv 5) pa_nil))) (pa_cons pe_non (pa_cons pe_non (pa_cons pe_non (pa_cons pe_non pa_nil)))))))) pa_nil)))))))))))), ?_⟩
  refine ⟨_, rfl, B, 9, rfl, by decide, by decide, hB, fun d H1 d0 d1 hB1 kb1 => ?_⟩
  obtain ⟨m, rfl⟩ := Int.eq_ofNat_of_zero_le d0
  have hm : m < 9 := by omega
  refine ⟨_, _, rfl, rfl, ?_⟩
  refine ⟨_, rfl, Nat.lt_of_le_of_lt (Nat.le_trans (Nat.log2_le_self _) (by omega : (1 + (m : Int)).natAbs ≤ 10)) (by decide), ?_⟩
  have e1 : Str.ofString (toString ((1 : Int) + (m : Int))) = dg (m + 1) := by
    unfold dg
    rw [show (1 : Int) + (m : Int) = ((m + 1 : Nat) : Int) by omega]
  rw [e1]
  have h1 : m + 1 < 10 := by omega
  have h0 : m < 10 := by omega
  have ld : ∀ t, t < 10 → (dg t).length = 1 := fun t ht => by
    have e : (tl (dg t)).length = (dg t).length := Array.length_toList
    rw [← e, tl_dg t ht]
    rfl
  have l1 : (Str.ofString "1").length = 1 := by decide +kernel
  have lr : ∀ n, (repS (Str.ofString "0") n).length = n := fun n => by
    rw [repS_len, show (Str.ofString "0").length = 1 by decide +kernel, Nat.mul_one]
  have la : ∀ n, (Str.ofString "1" ++ repS (Str.ofString "0") n).length = n + 1 := fun n => by
    rw [Str.length_append, l1, lr]
    omega
  have hlng : ∀ {σ : L2.St} {H : Hp} {n t : Nat} {te : TE}, t < 10 → n ≤ 10000 → EvS te σ H (dg t) → EvS (tOp rAddS (tOp rAddS (tC (.str (Str.ofString "1"))) (tOp (fun x y H Q => ∃ (a : Str) (n : Nat), x = .str a ∧ y = .int (n : Int) ∧ 0 < a.length ∧ a.length ≤ 1000 ∧ n ≤ 10000 ∧ Q (.str (repS a n)) H) (tC (.str (Str.ofString "0"))) (tC (.int (n : Int))))) te) σ H (lng n t) := fun ht hn h =>
    es_add (es_add es_c (es_rep hn) (by rw [l1, lr]; omega)) h (by rw [la, ld _ ht]; omega)
  refine asg_ev (R := IsV (.str (lng 1998 (m + 1)))) (ev_es (hlng (n := 1998) h1 (by decide) (es_var rfl))) fun _ H2 s2 e => ?_
  obtain rfl := e
  have hless : EvS (tCB (fun xs H Q => ∃ i : Int, xs = [V.int i] ∧ i.natAbs.log2 < 1920 ∧ Q (V.str (Str.ofString (toString i))) H) (tCons (tOp (rI0 fun i j => V.int (i - j)) (tCB (fun xs H Q => ∃ a n, xs = [V.str a] ∧ PySem.intText? a = some n ∧ a.length ≤ 4300 ∧ Q (V.int n) H) (tCons (tVar 1) tNil)) (tC (V.int 1))) tNil))
      (((L2.start N_l_long_so [V.ref B.b]).set 1 (some (V.str (dg (m + 1))))).set 2 (some (V.str (lng 1998 (m + 1))))) H2 (dg m) := fun H3 s3 Q3 q3 => by
    refine ⟨_, rfl, _, _, rfl, dg_int _ h1, by rw [ld _ h1]; decide, _, _, rfl, rfl, _, rfl, Nat.lt_of_le_of_lt (Nat.le_trans (Nat.log2_le_self _) (by omega : (((m + 1 : Nat) : Int) - 1).natAbs ≤ 10)) (by decide), ?_⟩
    have e2 : Str.ofString (toString (((m + 1 : Nat) : Int) - 1)) = dg m := by
      unfold dg
      rw [show ((m + 1 : Nat) : Int) - 1 = ((m : Nat) : Int) by omega]
    show Q3 (.str (Str.ofString (toString (((m + 1 : Nat) : Int) - 1)))) H3
    rw [e2]
    exact q3
  refine asg_ev (R := IsV (.str (lng 1998 m))) (ev_es (hlng (n := 1998) h0 (by decide) hless)) fun _ H3 s3 e => ?_
  obtain rfl := e
  clear hless
  refine asg_ev (R := IsV (.str (lng 1999 (m + 1)))) (ev_es (hlng (n := 1999) h1 (by decide) (es_var rfl))) fun _ H4 s4 e => ?_
  obtain rfl := e
  refine ⟨_, rfl, _, _, rfl, lng_int h1, by rw [lng_len _ h1]; decide, _, rfl, _, _, rfl, lng_int h0, by rw [lng_len _ h0]; decide, ?_⟩
  refine ⟨_, _, rfl, ?_⟩
  dsimp only
  have hg : Nat.gcd (LV (m + 1)) (LV m) = 1 := gcd_next (LV m)
  have hg' : Nat.gcd (LV m) (LV (m + 1)) = 1 := by rw [Nat.gcd_comm]; exact hg
  have a1 : Asc 9000 (lng 1998 (m + 1)) := (lng_asc h1 (by decide)).le (by decide)
  have a3 : Asc 9000 (lng 1999 (m + 1)) := (lng_asc h1 (by decide)).le (by decide)
  have asl : Asc 1 (Str.ofString "/") := by
    have h : (Str.ofString "/").length ≤ 1 ∧ ∀ c ∈ (Str.ofString "/").cps.toList, c < 128 := by decide +kernel
    exact h
  have as7 : Asc 2 (Str.ofString "/7") := by
    have h : (Str.ofString "/7").length ≤ 2 ∧ ∀ c ∈ (Str.ofString "/7").cps.toList, c < 128 := by decide +kernel
    exact h
  have as2 : Asc 2 (Str.ofString "2/") := by
    have h : (Str.ofString "2/").length ≤ 2 ∧ ∀ c ∈ (Str.ofString "2/").cps.toList, c < 128 := by decide +kernel
    exact h
  have b2 : Asc 9000 (lng 1998 (m + 1) ++ Str.ofString "/" ++ lng 1998 m) := (asc_app (asc_app (lng_asc h1 (by decide)) asl) (lng_asc h0 (by decide))).le (by decide)
  have b3 : Asc 9000 (lng 1998 m ++ Str.ofString "/" ++ lng 1998 (m + 1)) := (asc_app (asc_app (lng_asc h0 (by decide)) asl) (lng_asc h1 (by decide))).le (by decide)
  have b5 : Asc 9000 (lng 1999 (m + 1) ++ Str.ofString "/7") := (asc_app (lng_asc h1 (by decide)) as7).le (by decide)
  have b6 : Asc 9000 (Str.ofString "2/" ++ lng 1999 (m + 1)) := (asc_app as2 (lng_asc h1 (by decide))).le (by decide)
  have b7 : Asc 9000 (lng 1998 (m + 1) ++ Str.ofString "/" ++ lng 1999 (m + 1)) := (asc_app (asc_app (lng_asc h1 (by decide)) asl) (lng_asc h1 (by decide))).le (by decide)
  have n1 := lng_len 1998 h1
  have n2 := lng_len 1998 h0
  have n3 := lng_len 1999 h1
  have ns : (Str.ofString "/").length = 1 := by decide +kernel
  have n7 : (Str.ofString "/7").length = 2 := by decide +kernel
  have n22 : (Str.ofString "2/").length = 2 := by decide +kernel
  have z2 : ∀ {x y : Str}, (x ++ y).length = x.length + y.length := Str.length_append ..
  refine asg_ev (R := LstR [OTR K (some (LV (m + 1), 1)), OTR K (some (LV (m + 1), LV m)), OTR K (some (LV m, LV (m + 1))), OTR K none])
    (ev_lst (evs_cons (ev_read (es_var rfl) a1 (pair_lng h1)) mOT (evs_cons (ev_read (es_add (es_add (es_var rfl) es_c (by omega)) (es_var rfl) (by rw [z2]; omega)) b2 (pair_two h1 h0 hg)) mOT
      (evs_cons (ev_read (es_add (es_add (es_var rfl) es_c (by omega)) (es_var rfl) (by rw [z2]; omega)) b3 (pair_two h0 h1 hg')) mOT (evs_cons (ev_read (es_var rfl) a3 (pair_more h1)) mOT evs_nil)))) ⟨mOT, mOT, mOT, mOT, trivial⟩ (Nat.le_of_ble_eq_true rfl)) fun v5 H5 s5 hv5 => ?_
  refine asg_ev (R := LstR ([OTR K (some (LV (m + 1), 1)), OTR K (some (LV (m + 1), LV m)), OTR K (some (LV m, LV (m + 1))), OTR K none] ++ [OTR K none, OTR K none, OTR K none]))
    (ev_cat (ev_var rfl fun H' s' => LstR.mono (Rs := [OTR K (some (LV (m + 1), 1)), OTR K (some (LV (m + 1), LV m)), OTR K (some (LV m, LV (m + 1))), OTR K none]) ⟨mOT, mOT, mOT, mOT, trivial⟩ _ _ _ s' hv5) ⟨mOT, mOT, mOT, mOT, trivial⟩
      (ev_lst (evs_cons (ev_read (es_add (es_var rfl) es_c (by omega)) b5 (pair_more7 h1)) mOT (evs_cons (ev_read (es_add es_c (es_var rfl) (by omega)) b6 (pair_two_more h1)) mOT
        (evs_cons (ev_read (es_add (es_add (es_var rfl) es_c (by omega)) (es_var rfl) (by rw [z2]; omega)) b7 (pair_lng_more h1)) mOT evs_nil))) ⟨mOT, mOT, mOT, trivial⟩ (Nat.le_of_ble_eq_true rfl)) ⟨mOT, mOT, mOT, trivial⟩ (Nat.le_of_ble_eq_true rfl)) fun v6 H6 s6 hv6 => ?_
  refine ret_same (n := 2) (A := LstR ([OTR K (some (LV (m + 1), 1)), OTR K (some (LV (m + 1), LV m)), OTR K (some (LV m, LV (m + 1))), OTR K none] ++ [OTR K none, OTR K none, OTR K none]))
    (B := LstR [OTR K (some (LV (m + 1), 1)), OTR K (some (LV (m + 1), LV m)), OTR K (some (LV m, LV (m + 1))), OTR K none, OTR K none, OTR K none, OTR K none])
    (ev_var rfl fun H' s' => LstR.mono (Rs := [OTR K (some (LV (m + 1), 1)), OTR K (some (LV (m + 1), LV m)), OTR K (some (LV m, LV (m + 1))), OTR K none] ++ [OTR K none, OTR K none, OTR K none]) ⟨mOT, mOT, mOT, mOT, mOT, mOT, mOT, trivial⟩ _ _ _ s' hv6) (LstR.mono ⟨mOT, mOT, mOT, mOT, mOT, mOT, mOT, trivial⟩)
    (ev_lst (evs_cons (ev_pair1 rfl) mOT (evs_cons (ev_pair rfl rfl) mOT (evs_cons (ev_pair rfl rfl) mOT (evs_cons ev_none mOT (evs_cons ev_none mOT (evs_cons ev_none mOT (evs_cons ev_none mOT evs_nil))))))) ⟨mOT, mOT, mOT, mOT, mOT, mOT, mOT, trivial⟩ (Nat.le_of_ble_eq_true rfl))
    (alike_lst ⟨alike_ot, alike_ot, alike_ot, alike_ot, alike_ot, alike_ot, alike_ot, trivial⟩ (Nat.le_of_ble_eq_true rfl)) (by decide) fun H7 _ => q H7
end
end TL
namespace TL
open PySem L2 PySem.NumText

/-! ### steps of a reading -/
local macro_rules | `(tactic| walk_at "hp") => `(tactic| first | assumption | exact upd_same | (refine (upd_ne (by first | assumption | (exact Ne.symm (by assumption)))).trans ?_; walk_at "hp"))
local macro_rules | `(tactic| walk_at "ok") => `(tactic| first | (exact Or.inr ⟨by decide, by decide⟩) | (exact ⟨by decide, by decide⟩) | (exact ⟨by decide, by decide, by decide⟩) | (show _ ≠ _; omega) | (show _ ≠ _; decide) | (exact Or.inl ⟨by omega, by omega⟩) | decide)
local macro_rules | `(tactic| walk_at "sq") => `(tactic| first | assumption | exact SqL.of (by walk_at "hp") | exact SqT.of (by walk_at "hp"))
local macro_rules | `(tactic| walk_at "ty") => `(tactic| first | refine ⟨_, _, Value.type "int", Value.type "list", false, rfl, ClsV.ty _, TyX.base (TyOf.int _), kt_int_list, ?_⟩ | refine ⟨_, _, Value.type "bool", Value.type "list", false, rfl, ClsV.ty _, TyX.base (TyOf.bl _), kt_bool_list, ?_⟩ | refine ⟨_, _, Value.type "str", Value.type "list", false, rfl, ClsV.ty _, TyX.base (TyOf.str _), kt_str_list, ?_⟩ | refine ⟨_, _, Value.type "NoneType", Value.type "list", false, rfl, ClsV.ty _, TyX.base TyOf.non, kt_NoneType_list, ?_⟩ | refine ⟨_, _, Value.type "list", Value.type "list", true, rfl, ClsV.ty _, tyx_L (by walk_at "sq"), kt_list_list, ?_⟩ | refine ⟨_, _, Value.type "tuple", Value.type "list", false, rfl, ClsV.ty _, tyx_T (by walk_at "sq"), kt_tuple_list, ?_⟩ | refine ⟨_, _, Value.type "int", Value.type "tuple", false, rfl, ClsV.ty _, TyX.base (TyOf.int _), kt_int_tuple, ?_⟩ | refine ⟨_, _, Value.type "bool", Value.type "tuple", false, rfl, ClsV.ty _, TyX.base (TyOf.bl _), kt_bool_tuple, ?_⟩ | refine ⟨_, _, Value.type "str", Value.type "tuple", false, rfl, ClsV.ty _, TyX.base (TyOf.str _), kt_str_tuple, ?_⟩ | refine ⟨_, _, Value.type "NoneType", Value.type "tuple", false, rfl, ClsV.ty _, TyX.base TyOf.non, kt_NoneType_tuple, ?_⟩ | refine ⟨_, _, Value.type "list", Value.type "tuple", false, rfl, ClsV.ty _, tyx_L (by walk_at "sq"), kt_list_tuple, ?_⟩ | refine ⟨_, _, Value.type "tuple", Value.type "tuple", true, rfl, ClsV.ty _, tyx_T (by walk_at "sq"), kt_tuple_tuple, ?_⟩ | refine ⟨_, _, Value.type "int", Value.type "bool", false, rfl, ClsV.ty _, TyX.base (TyOf.int _), kt_int_bool, ?_⟩ | refine ⟨_, _, Value.type "bool", Value.type "bool", true, rfl, ClsV.ty _, TyX.base (TyOf.bl _), kt_bool_bool, ?_⟩ | refine ⟨_, _, Value.type "str", Value.type "bool", false, rfl, ClsV.ty _, TyX.base (TyOf.str _), kt_str_bool, ?_⟩ | refine ⟨_, _, Value.type "NoneType", Value.type "bool", false, rfl, ClsV.ty _, TyX.base TyOf.non, kt_NoneType_bool, ?_⟩ | refine ⟨_, _, Value.type "list", Value.type "bool", false, rfl, ClsV.ty _, tyx_L (by walk_at "sq"), kt_list_bool, ?_⟩ | refine ⟨_, _, Value.type "tuple", Value.type "bool", false, rfl, ClsV.ty _, tyx_T (by walk_at "sq"), kt_tuple_bool, ?_⟩ | refine ⟨_, _, Value.type "int", Value.type "int", true, rfl, ClsV.ty _, TyX.base (TyOf.int _), kt_int_int, ?_⟩ | refine ⟨_, _, Value.type "bool", Value.type "int", true, rfl, ClsV.ty _, TyX.base (TyOf.bl _), kt_bool_int, ?_⟩ | refine ⟨_, _, Value.type "str", Value.type "int", false, rfl, ClsV.ty _, TyX.base (TyOf.str _), kt_str_int, ?_⟩ | refine ⟨_, _, Value.type "NoneType", Value.type "int", false, rfl, ClsV.ty _, TyX.base TyOf.non, kt_NoneType_int, ?_⟩ | refine ⟨_, _, Value.type "list", Value.type "int", false, rfl, ClsV.ty _, tyx_L (by walk_at "sq"), kt_list_int, ?_⟩ | refine ⟨_, _, Value.type "tuple", Value.type "int", false, rfl, ClsV.ty _, tyx_T (by walk_at "sq"), kt_tuple_int, ?_⟩ | refine ⟨_, _, Value.type "int", Value.type "str", false, rfl, ClsV.ty _, TyX.base (TyOf.int _), kt_int_str, ?_⟩ | refine ⟨_, _, Value.type "bool", Value.type "str", false, rfl, ClsV.ty _, TyX.base (TyOf.bl _), kt_bool_str, ?_⟩ | refine ⟨_, _, Value.type "str", Value.type "str", true, rfl, ClsV.ty _, TyX.base (TyOf.str _), kt_str_str, ?_⟩ | refine ⟨_, _, Value.type "NoneType", Value.type "str", false, rfl, ClsV.ty _, TyX.base TyOf.non, kt_NoneType_str, ?_⟩ | refine ⟨_, _, Value.type "list", Value.type "str", false, rfl, ClsV.ty _, tyx_L (by walk_at "sq"), kt_list_str, ?_⟩ | refine ⟨_, _, Value.type "tuple", Value.type "str", false, rfl, ClsV.ty _, tyx_T (by walk_at "sq"), kt_tuple_str, ?_⟩)
local macro_rules | `(tactic| walk_at "go1") => `(tactic| first
  | (refine ⟨_, rfl, ?_⟩)
  | (refine ⟨_, _, rfl, rfl, ?_⟩)
  | (refine ⟨_, _, _, _, rfl, rfl, SqL.of (by walk_at "hp"), rfl, ?_⟩)
  | (refine Or.inl ⟨_, rfl, ?_⟩)
  | (refine ⟨rfl, ?_⟩)
  | (refine ⟨_, _, rfl, .inl (SqL.of (by walk_at "hp")), ?_⟩)
  | (refine ⟨_, _, rfl, Or.inl (by assumption), ?_⟩)
  | (refine ⟨_, _, rfl, Or.inr (by assumption), ?_⟩)
  | (refine ⟨(by walk_at "ok"), ?_⟩)
  | (refine ⟨_, _, _, _, rfl, rfl, (by walk_at "hp"), rfl, ?_⟩))
local macro_rules | `(tactic| walk_at "go") => `(tactic| repeat (walk_at "go1"))
local macro_rules | `(tactic| walk_at "gt") => `(tactic| repeat (first | walk_at "go1" | walk_at "ty"))

section
variable {P : Program} {w : World} {K : PySem.W.Frag} {mg : Str → Option Value} {base : Heap}
-- [0=_law_script, 1=_law_bag_here, 2=_law_turn, 3=_law_title_here, 4=_law_thing, 5=_law_told, 6=_law_due, 7=_law_a, 8=_law_b, 9=_law_x, 10=_law_said_here, 11=_law_plain, 12=_law_bent_here]
section
variable {σ : L2.St} {H : Hp} {te ta tb : TE} {E : XK} {v : V} {k : Kn} {nb t1 : Bool} {o : Option (Nat × Nat)} {f : Kn → Bool → Bool → Bool}
theorem ev_avB {i : Nat} (h : σ[i]? = some (some v)) (hv : ∀ H', Same H H' → AV K H' v k nb t1 o) : Ev (tCall (spAvB K f) [] E (tCons (tVar i) tNil)) σ H (IsV (.bl (f k nb t1))) := fun H1 s1 Q q =>
  ⟨_, h, v, k, nb, t1, o, rfl, hv H1 s1, fun H' s' => q _ H' s' rfl⟩
theorem ev_avBk {i : Nat} (h : σ[i]? = some (some v)) (hv : ∀ H', Same H H' → AV K H' v k nb t1 o) : Ev (tCallK0 (spAvB K f) g01 E (tCons (tVar i) tNil)) σ H (IsV (.bl (f k nb t1))) := fun H1 s1 Q q =>
  ⟨_, h, v, k, nb, t1, o, rfl, hv H1 s1, fun H' s' => q _ H' s' rfl⟩
theorem ev_avO {i : Nat} (h : σ[i]? = some (some v)) (hv : ∀ H', Same H H' → AV K H' v k nb t1 o) : Ev (tCall (spAvO K) [] E (tCons (tVar i) tNil)) σ H (OTR K o) := fun H1 s1 Q q =>
  ⟨_, h, v, k, nb, t1, o, rfl, hv H1 s1, fun v' H' s' ho => q v' H' s' ho⟩
theorem ev_avOk {i : Nat} (h : σ[i]? = some (some v)) (hv : ∀ H', Same H H' → AV K H' v k nb t1 o) : Ev (tCallK0 (spAvO K) g01 E (tCons (tVar i) tNil)) σ H (OTR K o) := fun H1 s1 Q q =>
  ⟨_, h, v, k, nb, t1, o, rfl, hv H1 s1, fun v' H' s' ho => q v' H' s' ho⟩
/-- the same of what an expression gives -/
theorem ev_avBe (h : Ev te σ H fun H' v => ∃ nb tb o, AV K H' v k nb tb o ∧ f k nb tb = t1) : Ev (tCall (spAvB K f) [] E (tCons te tNil)) σ H (IsV (.bl t1)) := fun H1 s1 Q q =>
  h H1 s1 _ fun v H2 s2 ⟨nb, tb, o, hv, e⟩ => ⟨v, k, nb, tb, o, rfl, hv, fun H' s' => q _ H' (s2.trans s') (by rw [e]; rfl)⟩
theorem if_last {n : Nat} {t0 : TS} {D : Ends} {A B : Hp → V → Prop} (ha : Ev ta σ H A) (mA : Mono A) (hb : Ev tb σ H B) (hd : Alike K n A B) (hn : n < 4) (k : ∀ H', Same H H' → D.nx σ H') :
    tIfS (tNot (tB (tCall (spSame K 4) [] E (tCons ta (tCons tb tNil))))) t0 tNext D σ H :=
  ha H (Same.refl _) _ fun v H1 s1 hv => hb H1 s1 _ fun u H2 s2 hu => ⟨n, v, u, rfl, hn, hd H2 v u (mA _ _ _ s2 hv) hu, fun H3 s3 => ⟨true, rfl, iteF' (c := !true) rfl (k H3 ((s1.trans s2).trans s3))⟩⟩
theorem gcd_beq (g : Nat) : (g == 1) = decide (g = 1) := by
  rw [Bool.eq_iff_iff, beq_iff_eq, decide_eq_true_iff]
theorem av_pair {H : Hp} {p : Addr} {x y : Nat} (hx : 0 < x) (hy : 0 < y) (h : SqT K H p [.int (x : Int), .int (y : Int)]) : AV K H (.ref p) .tup false (decide (Nat.gcd x y = 1)) none :=
  ⟨.t h, Kn.noConfusion, .inr ⟨⟨_, tyx_T h, kt_tuple_str⟩, rfl, rfl⟩, .inl ⟨p, [.int (x : Int), .int (y : Int)], [.int, .int], rfl, h, ⟨rfl, by show 2 ≤ 1000; decide, fun i u k hu hk => by
    match i, hu, hk with
    | 0, hu, hk => cases hu; cases hk; exact ⟨Kn.noConfusion, fun _ _ => .i, fun _ => ⟨_, rfl⟩⟩
    | 1, hu, hk => cases hu; cases hk; exact ⟨Kn.noConfusion, fun _ _ => .i, fun _ => ⟨_, rfl⟩⟩
    | i + 2, hu, _ => cases hu⟩, by
    show _ = (decide ((1 : Int) ≤ (x : Int)) && (decide ((1 : Int) ≤ (y : Int)) && (Nat.gcd (x : Int).natAbs (y : Int).natAbs == 1)) && (decide (2 = 2) && true))
    rw [decide_eq_true (by omega : (1 : Int) ≤ (x : Int)), decide_eq_true (by omega : (1 : Int) ≤ (y : Int)), Int.natAbs_natCast, Int.natAbs_natCast, gcd_beq, Bool.true_and, Bool.true_and]
    simp⟩⟩
theorem av_list {H : Hp} {p : Addr} {xs : List V} (h : SqL K H p xs) : AV K H (.ref p) .list false false none := ⟨.l h, Kn.noConfusion, .inr ⟨⟨_, tyx_L h, kt_list_str⟩, rfl, rfl⟩, .inr ⟨_, tyx_L h, kt_list_tuple, rfl⟩⟩
theorem av_int {H : Hp} {i : Int} : AV K H (.int i) .int false false none := ⟨.i, Kn.noConfusion, .inr ⟨⟨_, TyX.base (TyOf.int _), kt_int_str⟩, rfl, rfl⟩, .inr ⟨_, TyX.base (TyOf.int _), kt_int_tuple, rfl⟩⟩
theorem ev_bl {b : Bool} : Ev (tC (.bl b)) σ H (IsV (.bl b)) := ev_c fun _ _ => rfl
theorem ev_tone {i j x y : Nat} (hi : σ[i]? = some (some (.int (x : Int)))) (hj : σ[j]? = some (some (.int (y : Int)))) (hy : 0 < y) (hx2 : x < 2 ^ 8000) (hy2 : y < 2 ^ 8000) : Ev (tCall (spToneOf K) [] E (tCons (tVar i) (tCons (tVar j) tNil))) σ H (OTR K (some (x / Nat.gcd x y, y / Nat.gcd x y))) := fun H1 s1 Q q =>
  ⟨_, hi, _, hj, x, y, rfl, hy, hx2, hy2, fun t H' s' ht => q _ H' s' ⟨t, rfl, ht⟩⟩
theorem ev_toneK {i j x y : Nat} (hi : σ[i]? = some (some (.int (x : Int)))) (hj : σ[j]? = some (some (.int (y : Int)))) (hy : 0 < y) (hx2 : x < 2 ^ 8000) (hy2 : y < 2 ^ 8000) : Ev (tCallK0 (spToneOf K) g02s E (tCons (tVar j) (tCons (tVar i) tNil))) σ H (OTR K (some (x / Nat.gcd x y, y / Nat.gcd x y))) := fun H1 s1 Q q =>
  ⟨_, hj, _, hi, x, y, rfl, hy, hx2, hy2, fun t H' s' ht => q _ H' s' ⟨t, rfl, ht⟩⟩
theorem ev_ttext {i x y : Nat} {p : Addr} (hi : σ[i]? = some (some (.ref p))) (hp : ∀ H', Same H H' → SqT K H' p [.int (x : Int), .int (y : Int)]) (sx : Short x) (sy : Short y) : Ev (tCall (spToneText K) [] E (tCons (tVar i) tNil)) σ H (IsV (.str (told x y))) := fun H1 s1 Q q =>
  ⟨_, hi, p, x, y, rfl, hp H1 s1, sx, sy, q _ H1 (Same.refl _) rfl⟩
theorem ev_said {i x y : Nat} {p : Addr} (hi : σ[i]? = some (some (.ref p))) (hp : ∀ H', Same H H' → SqT K H' p [.int (x : Int), .int (y : Int)]) (sx : Short x) (sy : Short y) : Ev (tCall (spSaid K) [] E (tCons (tVar i) tNil)) σ H (IsV (.str (told x y))) := fun H1 s1 Q q =>
  ⟨_, hi, p, x, y, rfl, hp H1 s1, sx, sy, q _ H1 (Same.refl _) rfl⟩
theorem ev_eqp {i j l x y u w : Nat} {p : Addr} {b : Bool} (hi : σ[i]? = some (some (.ref p))) (hp : ∀ H', Same H H' → SqT K H' p [.int (x : Int), .int (y : Int)]) (hj : σ[j]? = some (some (.int (u : Int)))) (hl : σ[l]? = some (some (.int (w : Int)))) (hb : decide ([(x : Int), (y : Int)] = [(u : Int), (w : Int)]) = b) :
    Ev (tOp (rEqD K) (tVar i) (tTup (tCons (tVar j) (tCons (tVar l) tNil)))) σ H (IsV (.bl b)) := fun H1 s1 Q q => by
  refine ⟨_, hi, _, hj, _, hl, (by show 2 ≤ sizeLine; decide), fun r hr => ?_⟩
  have s2 := Same.new (o := .tup [.int (u : Int), .int (w : Int)]) hr
  refine ⟨_, _, .tup (hp _ (s1.trans s2)) (dpAll_ints [(x : Int), (y : Int)]), .tup (SqT.of upd_same) (dpAll_ints [(u : Int), (w : Int)]), shaped_tupI _, shaped_tupI _, ?_⟩
  rw [eqv_tupI, hb]
  exact q _ _ s2 rfl
theorem es_num {i x : Nat} (hi : σ[i]? = some (some (.int (x : Int)))) (sx : Short x) : EvS (tCB (fun xs H Q => ∃ i : Int, xs = [V.int i] ∧ i.natAbs.log2 < 1920 ∧ Q (V.str (Str.ofString (toString i))) H) (tCons (tVar i) tNil)) σ H (numS (x : Int)) := fun H1 _ Q q =>
  ⟨_, hi, _, rfl, (by rw [Int.natAbs_natCast]; exact sx), q⟩
end
theorem short_big {m : Nat} (h : m ≤ 10 ^ 60) (h0 : 0 < m) : Short m := Nat.lt_of_lt_of_le (PySem.Flt.log2_lt_of (k := 200) (by decide) (Nat.lt_of_le_of_lt h (by decide))) (by decide)
theorem LM {Rs : List (Hp → V → Prop)} (m : Monos Rs) : Mono (LstR Rs) := LstR.mono m
/-- the law's slots -/
def LS (a b : Addr) (σ : L2.St) : Prop := ∃ x2 x3 x4 x5 x6 x7 x8 x9 x10 x11 x12, σ = [some (.ref a), some (.ref b), x2, x3, x4, x5, x6, x7, x8, x9, x10, x11, x12]
def spLaw (K : PySem.W.Frag) : Sp := fun vs H Q _ => ∃ (a : Addr) (ns : List Int), vs = [.ref a] ∧ SqL K H a (ns.map V.int) ∧ ns.length ≤ 63 ∧ ∀ H', Q (.bl true) H'
theorem ok_law (T : Tx K mg) : FnOk P w K mg base CX0 6 T.f_law T.d_law ["_law_script"] (spLaw K) := by
  have G_l_bag := ok_bag (P := P) (w := w) (base := base) T
  have G_l_draw := ok_draw (P := P) (w := w) (base := base) T
  have G_l_title := ok_l_title (P := P) (w := w) (base := base) T
  have G_l_any := ok_l_any (P := P) (w := w) (base := base) T
  have G_is_name := av_name (P := P) (w := w) (base := base) T
  have G_is_number := av_number (P := P) (w := w) (base := base) T
  have G_is_tone := av_tone (P := P) (w := w) (base := base) T
  have G_read_tone := av_read (P := P) (w := w) (base := base) T
  have G_l_name_due := av_name_due (P := P) (w := w) (base := base) T
  have G_l_number := av_l_number (P := P) (w := w) (base := base) T
  have G_l_tone_due := av_tone_due (P := P) (w := w) (base := base) T
  have G_l_read := av_l_read (P := P) (w := w) (base := base) T
  have G_l_same := ok_same (P := P) (w := w) (base := base) T 4
  have G_l_big := ok_l_big (P := P) (w := w) (base := base) T
  have G_l_low := ok_l_low (P := P) (w := w) (base := base) T
  have G_l_said := ok_l_said (P := P) (w := w) (base := base) T
  have G_tone_of := ok_tone_of (P := P) (w := w) (base := base) T
  have G_tone_text := ok_tone_text (P := P) (w := w) (base := base) T
  have G_l_bent := ok_l_bent (P := P) (w := w) (base := base) T
  have G_l_long_so := ok_l_long_so (P := P) (w := w) (base := base) T
  refine T.F_law.ok sc_law (fun vs H Q E h => ?_) (fun cdv A outer s H vs Q E hr h => ?_)
  · obtain ⟨a, ns, rfl, _⟩ := h
    rfl
  obtain ⟨a, ns, rfl, hS, h63, q⟩ := h
  have nd := sc_law.nd
  refine ⟨_, (pss_cons (ps_set (i := 1) nd rfl (Or.inl rfl) (pe_call G_l_bag (hr.mono (by decide)) (by rfl) T.m_l_bag T.F_l_bag.kp T.b_l_bag .nil pass0 (pa_cons (pv 0) pa_nil)))
    (pss_cut (ps_for PassesOwn.never rfl (pi_range1 (by rfl) T.z_range (pa_cons pe_int pa_nil)) (pg_name (i := 2) nd rfl (Or.inl rfl)) (pss_cons (ps_par (i := 3) (j := 4) rfl nd rfl rfl (by decide) rfl rfl (pa_cons (pe_call G_l_title (hr.mono (by decide)) (by rfl) T.m_l_title T.F_l_title.kp T.b_l_title .nil pass0 (pa_cons (pv 1) pa_nil)) (pa_cons (pe_call G_l_any (hr.mono (by decide)) (by rfl) T.m_l_any T.F_l_any.kp T.b_l_any .nil pass0 (pa_cons (pv 1) pa_nil)) pa_nil)) rfl)
    (pss_cons (ps_set (i := 5) nd rfl (Or.inl rfl) (pe_lst (pa_cons (pe_call G_is_name (hr.mono (by decide)) (by rfl) T.m_is_name T.F_is_name.kp T.b_is_name .nil pass0 (pa_cons (pv 3) pa_nil)) (pa_cons (pe_call G_is_name (hr.mono (by decide)) (by rfl) T.m_is_name T.F_is_name.kp T.b_is_name .nil pass0 (pa_cons (pv 4) pa_nil)) (pa_cons (pe_call G_is_number (hr.mono (by decide)) (by rfl) T.m_is_number T.F_is_number.kp T.b_is_number .nil pass0 (pa_cons (pv 4) pa_nil)) (pa_cons (pe_call G_is_tone (hr.mono (by decide)) (by rfl) T.m_is_tone T.F_is_tone.kp T.b_is_tone .nil pass0 (pa_cons (pv 4) pa_nil)) (pa_cons (pe_call G_read_tone (hr.mono (by decide)) (by rfl) T.m_read_tone T.F_read_tone.kp T.b_read_tone .nil pass0 (pa_cons (pv 4) pa_nil)) (pa_cons (pe_call G_read_tone (hr.mono (by decide)) (by rfl) T.m_read_tone T.F_read_tone.kp T.b_read_tone .nil pass0 (pa_cons (pv 3) pa_nil)) pa_nil))))))))
    (pss_cons (ps_set (i := 5) nd rfl (Or.inl rfl) (pe_op op_cat (pv 5) (pe_lst (pa_cons (pe_callK0 G_is_name (hr.mono (by decide)) (by rfl) T.m_is_name T.F_is_name.kp T.kb_is_name pass0 (pk_cons (pv 3) pk_nil)) (pa_cons (pe_call G_is_number (hr.mono (by decide)) (by rfl) T.m_is_number T.F_is_number.kp T.b_is_number .nil pass0 (pa_cons (pv 3) pa_nil)) (pa_cons (pe_call G_is_tone (hr.mono (by decide)) (by rfl) T.m_is_tone T.F_is_tone.kp T.b_is_tone .nil pass0 (pa_cons (pv 3) pa_nil)) pa_nil))))))
    (pss_cons (ps_set (i := 6) nd rfl (Or.inl rfl) (pe_lst (pa_cons (pe_call G_l_name_due (hr.mono (by decide)) (by rfl) T.m_l_name_due T.F_l_name_due.kp T.b_l_name_due .nil pass0 (pa_cons (pv 3) pa_nil)) (pa_cons (pe_call G_l_name_due (hr.mono (by decide)) (by rfl) T.m_l_name_due T.F_l_name_due.kp T.b_l_name_due .nil pass0 (pa_cons (pv 4) pa_nil)) (pa_cons (pe_call G_l_number (hr.mono (by decide)) (by rfl) T.m_l_number T.F_l_number.kp T.b_l_number .nil pass0 (pa_cons (pv 4) pa_nil)) (pa_cons (pe_call G_l_tone_due (hr.mono (by decide)) (by rfl) T.m_l_tone_due T.F_l_tone_due.kp T.b_l_tone_due .nil pass0 (pa_cons (pv 4) pa_nil)) (pa_cons (pe_call G_l_read (hr.mono (by decide)) (by rfl) T.m_l_read T.F_l_read.kp T.b_l_read .nil pass0 (pa_cons (pv 4) pa_nil)) pa_nil)))))))
    (pss_cons (ps_set (i := 6) nd rfl (Or.inl rfl) (pe_op op_cat (pv 6) (pe_lst (pa_cons (pe_call G_l_read (hr.mono (by decide)) (by rfl) T.m_l_read T.F_l_read.kp T.b_l_read .nil pass0 (pa_cons (pv 3) pa_nil)) (pa_cons (pe_call G_l_name_due (hr.mono (by decide)) (by rfl) T.m_l_name_due T.F_l_name_due.kp T.b_l_name_due .nil pass0 (pa_cons (pv 3) pa_nil)) (pa_cons pe_bl (pa_cons pe_bl pa_nil)))))))
    (pss_one (ps_if (pt_not (pt_val (pe_call G_l_same (hr.mono (by decide)) (by rfl) T.m_l_same T.F_l_same.kp T.b_l_same .nil pass0 (pa_cons (pv 5) (pa_cons (pv 6) pa_nil))))) (pss_one (ps_ret pe_bl)) pss_nil))))))))
    (pss_cut (ps_for PassesOwn.never rfl (pi_range1 (by rfl) T.z_range (pa_cons pe_int pa_nil)) (pg_name (i := 2) nd rfl (Or.inl rfl)) (pss_cons (ps_par (i := 7) (j := 8) rfl nd rfl rfl (by decide) rfl rfl (pa_cons (pe_call G_l_big (hr.mono (by decide)) (by rfl) T.m_l_big T.F_l_big.kp T.b_l_big .nil pass0 (pa_cons (pv 1) pa_nil)) (pa_cons (pe_call G_l_big (hr.mono (by decide)) (by rfl) T.m_l_big T.F_l_big.kp T.b_l_big .nil pass0 (pa_cons (pv 1) pa_nil)) pa_nil)) rfl)
    (pss_cons (ps_set (i := 9) nd rfl (Or.inl rfl) (pe_call G_l_low (hr.mono (by decide)) (by rfl) T.m_l_low T.F_l_low.kp T.b_l_low .nil pass0 (pa_cons (pv 7) (pa_cons (pv 8) pa_nil))))
    (pss_cons (ps_set (i := 10) nd rfl (Or.inl rfl) (pe_call G_l_said (hr.mono (by decide)) (by rfl) T.m_l_said T.F_l_said.kp T.b_l_said .nil pass0 (pa_cons (pv 9) pa_nil)))
    (pss_cons (ps_set (i := 5) nd rfl (Or.inl rfl) (pe_lst (pa_cons (pe_call G_tone_of (hr.mono (by decide)) (by rfl) T.m_tone_of T.F_tone_of.kp T.b_tone_of .nil pass0 (pa_cons (pv 7) (pa_cons (pv 8) pa_nil))) (pa_cons (pe_callK0 G_tone_of (hr.mono (by decide)) (by rfl) T.m_tone_of T.F_tone_of.kp T.kb_tone_of pass0 (pk_cons (pv 8) (pk_cons (pv 7) pk_nil))) (pa_cons (pe_call G_tone_text (hr.mono (by decide)) (by rfl) T.m_tone_text T.F_tone_text.kp T.b_tone_text .nil pass0 (pa_cons (pv 9) pa_nil)) (pa_cons (pe_call G_read_tone (hr.mono (by decide)) (by rfl) T.m_read_tone T.F_read_tone.kp T.b_read_tone .nil pass0 (pa_cons (pv 10) pa_nil)) (pa_cons (pe_call G_is_tone (hr.mono (by decide)) (by rfl) T.m_is_tone T.F_is_tone.kp T.b_is_tone .nil pass0 (pa_cons (pv 9) pa_nil)) (pa_cons (pe_call G_is_tone (hr.mono (by decide)) (by rfl) T.m_is_tone T.F_is_tone.kp T.b_is_tone .nil pass0 (pa_cons (pe_tup (pa_cons (pv 7) (pa_cons (pv 8) pa_nil))) pa_nil)) (pa_cons (pe_call G_is_tone (hr.mono (by decide)) (by rfl) T.m_is_tone T.F_is_tone.kp T.b_is_tone .nil pass0 (pa_cons (pe_lst (pa_cons (pv 7) (pa_cons (pv 8) pa_nil))) pa_nil)) pa_nil)))))))))
    (pss_cons (ps_if (pt_not (pt_val (pe_call G_l_same (hr.mono (by decide)) (by rfl) T.m_l_same T.F_l_same.kp T.b_l_same .nil pass0 (pa_cons (pv 5) (pa_cons (pe_lst (pa_cons (pv 9) (pa_cons (pv 9) (pa_cons (pv 10) (pa_cons (pv 9) (pa_cons pe_bl (pa_cons (pe_cmpR (show OpR _ _ (rEqD K) from op_eqD hr.units) (pv 9) (pe_tup (pa_cons (pv 7) (pa_cons (pv 8) pa_nil))) (nomark _)) (pa_cons pe_bl pa_nil)))))))) pa_nil))))) (pss_one (ps_ret pe_bl)) pss_nil)
    (pss_cons (ps_set (i := 11) nd rfl (Or.inl rfl) (pe_op op_add_str (pe_op op_add_str (pe_callTy call_str_int (by rfl) T.z_str (by decide +kernel) (pa_cons (pv 7) pa_nil)) pe_str) (pe_callTy call_str_int (by rfl) T.z_str (by decide +kernel) (pa_cons (pv 8) pa_nil))))
    (pss_cons (ps_set (i := 12) nd rfl (Or.inl rfl) (pe_call G_l_bent (hr.mono (by decide)) (by rfl) T.m_l_bent T.F_l_bent.kp T.b_l_bent .nil pass0 (pa_cons (pv 1) (pa_cons (pv 10) pa_nil))))
    (pss_cons (ps_set (i := 5) nd rfl (Or.inl rfl) (pe_lst (pa_cons (pe_call G_read_tone (hr.mono (by decide)) (by rfl) T.m_read_tone T.F_read_tone.kp T.b_read_tone .nil pass0 (pa_cons (pv 11) pa_nil)) (pa_cons (pe_call G_read_tone (hr.mono (by decide)) (by rfl) T.m_read_tone T.F_read_tone.kp T.b_read_tone .nil pass0 (pa_cons (pv 12) pa_nil)) (pa_cons (pe_callK0 G_read_tone (hr.mono (by decide)) (by rfl) T.m_read_tone T.F_read_tone.kp T.kb_read_tone pass0 (pk_cons (pv 10) pk_nil)) (pa_cons (pe_call G_is_number (hr.mono (by decide)) (by rfl) T.m_is_number T.F_is_number.kp T.b_is_number .nil pass0 (pa_cons (pv 7) pa_nil)) (pa_cons (pe_call G_is_number (hr.mono (by decide)) (by rfl) T.m_is_number T.F_is_number.kp T.b_is_number .nil pass0 (pa_cons (pe_un un_neg (pv 8)) pa_nil)) (pa_cons (pe_call G_is_number (hr.mono (by decide)) (by rfl) T.m_is_number T.F_is_number.kp T.b_is_number .nil pass0 (pa_cons (pe_callTy call_str_int (by rfl) T.z_str (by decide +kernel) (pa_cons (pv 7) pa_nil)) pa_nil)) pa_nil))))))))
    (pss_one (ps_if (pt_not (pt_val (pe_call G_l_same (hr.mono (by decide)) (by rfl) T.m_l_same T.F_l_same.kp T.b_l_same .nil pass0 (pa_cons (pv 5) (pa_cons (pe_lst (pa_cons (pe_call G_l_read (hr.mono (by decide)) (by rfl) T.m_l_read T.F_l_read.kp T.b_l_read .nil pass0 (pa_cons (pv 11) pa_nil)) (pa_cons (pe_call G_l_read (hr.mono (by decide)) (by rfl) T.m_l_read T.F_l_read.kp T.b_l_read .nil pass0 (pa_cons (pv 12) pa_nil)) (pa_cons (pv 9) (pa_cons pe_bl (pa_cons pe_bl (pa_cons pe_bl pa_nil))))))) pa_nil))))) (pss_one (ps_ret pe_bl)) pss_nil)))))))))))
    (pss_one (ps_ret (pe_or (pe_cmpR op_gt (pe_call G_l_draw (hr.mono (by decide)) (by rfl) T.m_l_draw T.F_l_draw.kp T.b_l_draw .nil pass0 (pa_cons (pv 1) (pa_cons pe_int pa_nil))) pe_int (nomark _)) (pe_one (pe_call G_l_long_so hr (by rfl) T.m_l_long_so T.F_l_long_so.kp T.b_l_long_so .nil pass0 (pa_cons (pv 1) pa_nil))))))))), ?_⟩
  refine ⟨_, rfl, a, ns, rfl, hS, h63, fun B H1 s1 hB1 _ => ?_⟩
  refine ⟨fun σ' H' => LS a B.b σ' ∧ Bag B H', ⟨4, rfl, by decide, by decide, for_it (walk_range (lo := 0) (n := 4)) (fun i σ H' => LS a B.b σ ∧ Bag B H') ⟨⟨_, _, _, _, _, _, _, _, _, _, _, rfl⟩, hB1⟩ (fun _ _ _ _ _ => trivial) ?_ ?_⟩, ?_⟩
  · rintro i v σ H2 H3 hi ⟨⟨x2, x3, x4, x5, x6, x7, x8, x9, x10, x11, x12, rfl⟩, hB2⟩ ⟨rfl, rfl⟩
    refine ⟨_, rfl, B, rfl, hB2, fun t H3 hA hB3 kb3 => ⟨_, rfl, B, rfl, hB3, fun u H4 hu hB4 kb4 => ⟨_, _, rfl, ?_⟩⟩⟩
    obtain ⟨k, nb, t1, o, hv⟩ := hu
    have hv0 : ∀ H', Same H4 H' → AV K H' u k nb t1 o := fun H' s' => hv H' (Kb.same s')
    have ht : ∀ H', AV K H' (.str t) .str (nameB t) false (pairO t) := fun H' => av_str (hA.le (by decide))
    dsimp only
    refine asg_ev (R := LstR [IsV (.bl (nameB t)), IsV (.bl nb), IsV (.bl k.isNum), IsV (.bl t1), OTR K o, OTR K (pairO t)])
      (ev_lst (evs_cons (ev_avB (f := fun _ nb _ => nb) rfl fun H' _ => ht H') mIsV (evs_cons (ev_avB (f := fun _ nb _ => nb) rfl hv0) mIsV (evs_cons (ev_avB (f := fun k _ _ => k.isNum) rfl hv0) mIsV (evs_cons (ev_avB (f := fun _ _ tb => tb) rfl hv0) mIsV
        (evs_cons (ev_avO rfl hv0) mOT (evs_cons (ev_avO rfl fun H' _ => ht H') mOT evs_nil)))))) ⟨mIsV, mIsV, mIsV, mIsV, mOT, mOT, trivial⟩ (Nat.le_of_ble_eq_true rfl)) fun v5 H5 s5 hv5 => ?_
    refine asg_ev (R := LstR ([IsV (.bl (nameB t)), IsV (.bl nb), IsV (.bl k.isNum), IsV (.bl t1), OTR K o, OTR K (pairO t)] ++ [IsV (.bl (nameB t)), IsV (.bl false), IsV (.bl false)])) (ev_cat (ev_var rfl fun H' s' => LM (Rs := [IsV (.bl (nameB t)), IsV (.bl nb), IsV (.bl k.isNum), IsV (.bl t1), OTR K o, OTR K (pairO t)]) ⟨mIsV, mIsV, mIsV, mIsV, mOT, mOT, trivial⟩ _ _ _ s' hv5) ⟨mIsV, mIsV, mIsV, mIsV, mOT, mOT, trivial⟩ (ev_lst (evs_cons (ev_avBk (f := fun _ nb _ => nb) rfl fun H' _ => ht H') mIsV (evs_cons (ev_avB (f := fun k _ _ => k.isNum) rfl fun H' _ => ht H') mIsV (evs_cons (ev_avB (f := fun _ _ tb => tb) rfl fun H' _ => ht H') mIsV evs_nil))) ⟨mIsV, mIsV, mIsV, trivial⟩ (Nat.le_of_ble_eq_true rfl)) ⟨mIsV, mIsV, mIsV, trivial⟩ (Nat.le_of_ble_eq_true rfl)) fun v5' H6 s6 hv6 => ?_
    have hv2 : ∀ H', Same H6 H' → AV K H' u k nb t1 o := fun H' s' => hv0 H' ((s5.trans s6).trans s')
    refine asg_ev (R := LstR [IsV (.bl (nameB t)), IsV (.bl nb), IsV (.bl k.isNum), IsV (.bl t1), OTR K o]) (ev_lst (evs_cons (ev_avB (f := fun _ nb _ => nb) rfl fun H' _ => ht H') mIsV (evs_cons (ev_avB (f := fun _ nb _ => nb) rfl hv2) mIsV (evs_cons (ev_avB (f := fun k _ _ => k.isNum) rfl hv2) mIsV (evs_cons (ev_avB (f := fun _ _ tb => tb) rfl hv2) mIsV (evs_cons (ev_avO rfl hv2) mOT evs_nil))))) ⟨mIsV, mIsV, mIsV, mIsV, mOT, trivial⟩ (Nat.le_of_ble_eq_true rfl)) fun v6 H7 s7 hv7 => ?_
    refine asg_ev (R := LstR ([IsV (.bl (nameB t)), IsV (.bl nb), IsV (.bl k.isNum), IsV (.bl t1), OTR K o] ++ [OTR K (pairO t), IsV (.bl (nameB t)), IsV (.bl false), IsV (.bl false)])) (ev_cat (ev_var rfl fun H' s' => LM (Rs := [IsV (.bl (nameB t)), IsV (.bl nb), IsV (.bl k.isNum), IsV (.bl t1), OTR K o]) ⟨mIsV, mIsV, mIsV, mIsV, mOT, trivial⟩ _ _ _ s' hv7) ⟨mIsV, mIsV, mIsV, mIsV, mOT, trivial⟩ (ev_lst (evs_cons (ev_avO rfl fun H' _ => ht H') mOT (evs_cons (ev_avB (f := fun _ nb _ => nb) rfl fun H' _ => ht H') mIsV (evs_cons (ev_bl) mIsV (evs_cons (ev_bl) mIsV evs_nil)))) ⟨mOT, mIsV, mIsV, mIsV, trivial⟩ (Nat.le_of_ble_eq_true rfl)) ⟨mOT, mIsV, mIsV, mIsV, trivial⟩ (Nat.le_of_ble_eq_true rfl)) fun v6' H8 s8 hv8 => ?_
    refine if_last (n := 2) (A := LstR ([IsV (.bl (nameB t)), IsV (.bl nb), IsV (.bl k.isNum), IsV (.bl t1), OTR K o, OTR K (pairO t)] ++ [IsV (.bl (nameB t)), IsV (.bl false), IsV (.bl false)])) (B := LstR ([IsV (.bl (nameB t)), IsV (.bl nb), IsV (.bl k.isNum), IsV (.bl t1), OTR K o] ++ [OTR K (pairO t), IsV (.bl (nameB t)), IsV (.bl false), IsV (.bl false)])) (ev_var rfl fun H' s' => LM (Rs := [IsV (.bl (nameB t)), IsV (.bl nb), IsV (.bl k.isNum), IsV (.bl t1), OTR K o, OTR K (pairO t)] ++ [IsV (.bl (nameB t)), IsV (.bl false), IsV (.bl false)]) ⟨mIsV, mIsV, mIsV, mIsV, mOT, mOT, mIsV, mIsV, mIsV, trivial⟩ _ _ _ ((s7.trans s8).trans s') hv6) (LM ⟨mIsV, mIsV, mIsV, mIsV, mOT, mOT, mIsV, mIsV, mIsV, trivial⟩)
      (ev_var rfl fun H' s' => LM (Rs := [IsV (.bl (nameB t)), IsV (.bl nb), IsV (.bl k.isNum), IsV (.bl t1), OTR K o] ++ [OTR K (pairO t), IsV (.bl (nameB t)), IsV (.bl false), IsV (.bl false)]) ⟨mIsV, mIsV, mIsV, mIsV, mOT, mOT, mIsV, mIsV, mIsV, trivial⟩ _ _ _ s' hv8) (alike_lst ⟨alike_bl, alike_bl, alike_bl, alike_bl, alike_ot, alike_ot, alike_bl, alike_bl, alike_bl, trivial⟩ (Nat.le_of_ble_eq_true rfl)) (by decide) fun H9 s9 => ?_
    exact ⟨⟨_, _, _, _, _, _, _, _, _, _, _, rfl⟩, hB4.same ((((s5.trans s6).trans s7).trans s8).trans s9)⟩
  · rintro σ H2 ⟨⟨x2, x3, x4, x5, x6, x7, x8, x9, x10, x11, x12, rfl⟩, hB2⟩
    exact ⟨⟨_, _, _, _, _, _, _, _, _, _, _, rfl⟩, hB2⟩
  rintro σ H2 ⟨⟨x2, x3, x4, x5, x6, x7, x8, x9, x10, x11, x12, rfl⟩, hB2⟩
  refine ⟨fun σ' H' => LS a B.b σ' ∧ Bag B H', ⟨4, rfl, by decide, by decide, for_it (walk_range (lo := 0) (n := 4)) (fun i σ H' => LS a B.b σ ∧ Bag B H') ⟨⟨_, _, _, _, _, _, _, _, _, _, _, rfl⟩, hB2⟩ (fun _ _ _ _ _ => trivial) ?_ ?_⟩, ?_⟩
  · clear hB2 x2 x3 x4 x5 x6 x7 x8 x9 x10 x11 x12
    rintro i v σ H2 H3 hi ⟨⟨x2, x3, x4, x5, x6, x7, x8, x9, x10, x11, x12, rfl⟩, hB2⟩ ⟨rfl, rfl⟩
    refine ⟨_, rfl, B, rfl, hB2, fun x H3 x0 xb hB3 kb3 => ⟨_, rfl, B, rfl, hB3, fun y H4 y0 yb hB4 kb4 => ⟨_, _, rfl, ?_⟩⟩⟩
    dsimp only
    obtain ⟨u, hu⟩ : ∃ u, u = x / Nat.gcd x y := ⟨_, rfl⟩
    obtain ⟨d, hd⟩ : ∃ d, d = y / Nat.gcd x y := ⟨_, rfl⟩
    have g0 : 0 < Nat.gcd x y := Nat.gcd_pos_of_pos_left _ x0
    have u0 : 0 < u := by rw [hu]; exact Nat.div_pos (Nat.le_of_dvd x0 (Nat.gcd_dvd_left x y)) g0
    have d0 : 0 < d := by rw [hd]; exact Nat.div_pos (Nat.le_of_dvd y0 (Nat.gcd_dvd_right x y)) g0
    have ub : u ≤ 10 ^ 60 := Nat.le_trans (by rw [hu]; exact Nat.div_le_self _ _) xb
    have db : d ≤ 10 ^ 60 := Nat.le_trans (by rw [hd]; exact Nat.div_le_self _ _) yb
    have g1 : Nat.gcd u d = 1 := by rw [hu, hd, Nat.gcd_div (Nat.gcd_dvd_left x y) (Nat.gcd_dvd_right x y), Nat.div_self g0]
    have su := short_big ub u0
    have sd := short_big db d0
    have sx := short_big xb x0
    have sy := short_big yb y0
    have x8 : x < 2 ^ 8000 := Nat.lt_of_le_of_lt xb (by decide +kernel)
    have y8 : y < 2 ^ 8000 := Nat.lt_of_le_of_lt yb (by decide +kernel)
    have hb : decide ([(u : Int), (d : Int)] = [(x : Int), (y : Int)]) = decide (Nat.gcd x y = 1) := decide_eq_decide.mpr ⟨fun z => by
      simp only [List.cons.injEq, and_true] at z
      have e1 : u = x := by omega
      have e2 : d = y := by omega
      rw [← e1, ← e2]
      exact g1, fun z => by rw [hu, hd, z, Nat.div_one, Nat.div_one]⟩
    have hto : ∀ {E : XK} {σ : L2.St} {H : Hp} {i j : Nat}, σ[i]? = some (some (.int (x : Int))) → σ[j]? = some (some (.int (y : Int))) → Ev (tCall (spToneOf K) [] E (tCons (tVar i) (tCons (tVar j) tNil))) σ H (OTR K (some (u, d))) := fun h1 h2 => by rw [hu, hd]; exact ev_tone h1 h2 y0 x8 y8
    have htk : ∀ {E : XK} {σ : L2.St} {H : Hp} {i j : Nat}, σ[i]? = some (some (.int (x : Int))) → σ[j]? = some (some (.int (y : Int))) → Ev (tCallK0 (spToneOf K) g02s E (tCons (tVar j) (tCons (tVar i) tNil))) σ H (OTR K (some (u, d))) := fun h1 h2 => by rw [hu, hd]; exact ev_toneK h1 h2 y0 x8 y8
    refine asg_ev (R := OTR K (some (u, d))) (hto rfl rfl) fun v9 H5 s5 hv9 => ?_
    obtain ⟨p, rfl, hp⟩ : ∃ p, v9 = .ref p ∧ SqT K H5 p [.int (u : Int), .int (d : Int)] := hv9
    refine asg_ev (R := IsV (.str (told u d))) (ev_said rfl (fun H' s' => seqT s' hp) su sd) fun _ H6 s6 e => ?_
    obtain rfl := e
    replace hp := seqT s6 hp
    have hs : ∀ H', AV K H' (.str (told u d)) .str (nameB (told u d)) false (some (u, d)) := fun H' => pair_told u0 d0 g1 su sd ▸ av_str ((told_short su sd).le (by decide))
    have hx9 : ∀ H', Same H6 H' → AV K H' (.ref p) .tup false true none := fun H' s' => by
      have := av_pair u0 d0 (seqT s' hp)
      rw [decide_eq_true g1] at this
      exact this
    have etup : ∀ {σ : L2.St} {H : Hp} {i j : Nat}, σ[i]? = some (some (.int (x : Int))) → σ[j]? = some (some (.int (y : Int))) → Ev (tTup (tCons (tVar i) (tCons (tVar j) tNil))) σ H fun H' v => ∃ nb tb o, AV K H' v .tup nb tb o ∧ tb = decide (Nat.gcd x y = 1) := fun h1 h2 H1 s1 Q q =>
      ⟨_, h1, _, h2, (by show 2 ≤ sizeLine; decide), fun r hr => q _ _ (Same.new hr) ⟨_, _, _, av_pair x0 y0 (SqT.of upd_same), rfl⟩⟩
    have elst : ∀ {σ : L2.St} {H : Hp} {i j : Nat}, σ[i]? = some (some (.int (x : Int))) → σ[j]? = some (some (.int (y : Int))) → Ev (tLst (tCons (tVar i) (tCons (tVar j) tNil))) σ H fun H' v => ∃ nb tb o, AV K H' v .list nb tb o ∧ tb = false := fun h1 h2 H1 s1 Q q =>
      ⟨_, h1, _, h2, (by show 2 ≤ sizeLine; decide), fun r hr => q _ _ (Same.new hr) ⟨_, _, _, av_list (SqL.of upd_same), rfl⟩⟩
    refine asg_ev (R := LstR [OTR K (some (u, d)), OTR K (some (u, d)), IsV (.str (told u d)), OTR K (some (u, d)), IsV (.bl true), IsV (.bl (decide (Nat.gcd x y = 1))), IsV (.bl false)]) (ev_lst (evs_cons (hto rfl rfl) mOT (evs_cons (htk rfl rfl) mOT (evs_cons (ev_ttext rfl (fun H' s' => seqT s' hp) su sd) mIsV (evs_cons (ev_avO rfl fun H' _ => hs H') mOT (evs_cons (ev_avB (f := fun _ _ tb => tb) rfl hx9) mIsV (evs_cons (ev_avBe (k := .tup) (f := fun _ _ tb => tb) (etup rfl rfl)) mIsV (evs_cons (ev_avBe (k := .list) (f := fun _ _ tb => tb) (elst rfl rfl)) mIsV evs_nil))))))) ⟨mOT, mOT, mIsV, mOT, mIsV, mIsV, mIsV, trivial⟩ (Nat.le_of_ble_eq_true rfl)) fun v5 H7 s7 hv5 => ?_
    have ev9 : ∀ {σ : L2.St}, σ[9]? = some (some (.ref p)) → Ev (tVar 9) σ H7 (OTR K (some (u, d))) := fun h => ev_var h fun H' s' => ⟨p, rfl, seqT (s7.trans s') hp⟩
    refine if_same (n := 2) (A := LstR [OTR K (some (u, d)), OTR K (some (u, d)), IsV (.str (told u d)), OTR K (some (u, d)), IsV (.bl true), IsV (.bl (decide (Nat.gcd x y = 1))), IsV (.bl false)]) (B := LstR [OTR K (some (u, d)), OTR K (some (u, d)), IsV (.str (told u d)), OTR K (some (u, d)), IsV (.bl true), IsV (.bl (decide (Nat.gcd x y = 1))), IsV (.bl false)]) (ev_var rfl fun H' s' => LM (Rs := [OTR K (some (u, d)), OTR K (some (u, d)), IsV (.str (told u d)), OTR K (some (u, d)), IsV (.bl true), IsV (.bl (decide (Nat.gcd x y = 1))), IsV (.bl false)]) ⟨mOT, mOT, mIsV, mOT, mIsV, mIsV, mIsV, trivial⟩ _ _ _ s' hv5) (LM ⟨mOT, mOT, mIsV, mOT, mIsV, mIsV, mIsV, trivial⟩) (ev_lst (evs_cons (ev9 rfl) mOT (evs_cons (ev9 rfl) mOT (evs_cons (ev_var rfl fun _ _ => rfl) mIsV (evs_cons (ev9 rfl) mOT (evs_cons (ev_bl) mIsV (evs_cons (ev_eqp rfl (fun H' s' => seqT (s7.trans s') hp) rfl rfl hb) mIsV (evs_cons (ev_bl) mIsV evs_nil))))))) ⟨mOT, mOT, mIsV, mOT, mIsV, mIsV, mIsV, trivial⟩ (Nat.le_of_ble_eq_true rfl))
      (alike_lst ⟨alike_ot, alike_ot, alike_str, alike_ot, alike_bl, alike_bl, alike_bl, trivial⟩ (Nat.le_of_ble_eq_true rfl)) (by decide) fun H8 s8 => ?_
    have lx : (numS (x : Int)).length ≤ 1921 := short_len sx
    have ly : (numS (y : Int)).length ≤ 1921 := short_len sy
    have lsl : (Str.ofString "/").length = 1 := by decide +kernel
    have z2 : ∀ {x y : Str}, (x ++ y).length = x.length + y.length := Str.length_append ..
    refine asg_ev (R := IsV (.str (numS (x : Int) ++ Str.ofString "/" ++ numS (y : Int)))) (ev_es (es_add (es_add (es_num rfl sx) es_c (by omega)) (es_num rfl sy) (by rw [z2]; omega))) fun _ H9 s9 e => ?_
    obtain rfl := e
    have hB9 := hB4.same ((((s5.trans s6).trans s7).trans s8).trans s9)
    refine ⟨_, rfl, _, rfl, B, told u d, rfl, told_short su sd, hB9, fun bt H10 ab hB10 kb10 => ?_⟩
    have hp10 := bagT hB9 kb10 (seqT ((s7.trans s8).trans s9) hp)
    have asx : ∀ {m : Nat}, Short m → Asc 1921 (numS (m : Int)) := fun {m} h => ⟨short_len h, fun c hc => by
      have h1 := List.all_eq_true.mp (digs_num m) c hc
      have := dig_range c (of_decide_eq_true h1)
      omega⟩
    have asl : Asc 1 (Str.ofString "/") := by
      have h : (Str.ofString "/").length ≤ 1 ∧ ∀ c ∈ (Str.ofString "/").cps.toList, c < 128 := by decide +kernel
      exact h
    have aP : Asc 9000 (numS (x : Int) ++ Str.ofString "/" ++ numS (y : Int)) := (asc_app (asc_app (asx sx) asl) (asx sy)).le (by decide)
    have eneg : ∀ {σ : L2.St} {H : Hp} {i : Nat}, σ[i]? = some (some (.int (y : Int))) → Ev (tUn (rU fun i => V.int (-i)) (tVar i)) σ H fun H' v => ∃ nb tb o, AV K H' v .int nb tb o ∧ Kn.int.isNum = true := fun h H1 s1 Q q =>
      ⟨_, h, _, rfl, q _ H1 (Same.refl _) ⟨_, _, _, av_int, rfl⟩⟩
    have estr : ∀ {σ : L2.St} {H : Hp} {i : Nat}, σ[i]? = some (some (.int (x : Int))) → Ev (tCB (fun xs H Q => ∃ i : Int, xs = [V.int i] ∧ i.natAbs.log2 < 1920 ∧ Q (V.str (Str.ofString (toString i))) H) (tCons (tVar i) tNil)) σ H fun H' v => ∃ nb tb o, AV K H' v .str nb tb o ∧ Kn.str.isNum = false := fun h H1 s1 Q q =>
      es_num h sx H1 s1 _ (q _ H1 (Same.refl _) ⟨_, _, _, av_str ((asx sx).le (by decide)), rfl⟩)
    refine asg_ev (R := LstR [OTR K (pairO (numS (x : Int) ++ Str.ofString "/" ++ numS (y : Int))), OTR K (pairO bt), OTR K (some (u, d)), IsV (.bl true), IsV (.bl true), IsV (.bl false)]) (ev_lst (evs_cons (ev_avO rfl fun H' _ => av_str aP) mOT (evs_cons (ev_avO rfl fun H' _ => av_str ab) mOT (evs_cons (ev_avOk rfl fun H' _ => hs H') mOT (evs_cons (ev_avB (f := fun k _ _ => k.isNum) rfl fun _ _ => av_int) mIsV (evs_cons (ev_avBe (k := .int) (f := fun k _ _ => k.isNum) (eneg rfl)) mIsV (evs_cons (ev_avBe (k := .str) (f := fun k _ _ => k.isNum) (estr rfl)) mIsV evs_nil)))))) ⟨mOT, mOT, mOT, mIsV, mIsV, mIsV, trivial⟩ (Nat.le_of_ble_eq_true rfl)) fun v5' H11 s11 hv11 => ?_
    have ev9b : ∀ {σ : L2.St}, σ[9]? = some (some (.ref p)) → Ev (tVar 9) σ H11 (OTR K (some (u, d))) := fun h => ev_var h fun H' s' => ⟨p, rfl, seqT (s11.trans s') hp10⟩
    refine if_last (n := 2) (A := LstR [OTR K (pairO (numS (x : Int) ++ Str.ofString "/" ++ numS (y : Int))), OTR K (pairO bt), OTR K (some (u, d)), IsV (.bl true), IsV (.bl true), IsV (.bl false)]) (B := LstR [OTR K (pairO (numS (x : Int) ++ Str.ofString "/" ++ numS (y : Int))), OTR K (pairO bt), OTR K (some (u, d)), IsV (.bl true), IsV (.bl true), IsV (.bl false)]) (ev_var rfl fun H' s' => LM (Rs := [OTR K (pairO (numS (x : Int) ++ Str.ofString "/" ++ numS (y : Int))), OTR K (pairO bt), OTR K (some (u, d)), IsV (.bl true), IsV (.bl true), IsV (.bl false)]) ⟨mOT, mOT, mOT, mIsV, mIsV, mIsV, trivial⟩ _ _ _ s' hv11) (LM ⟨mOT, mOT, mOT, mIsV, mIsV, mIsV, trivial⟩) (ev_lst (evs_cons (ev_avO rfl fun H' _ => av_str aP) mOT (evs_cons (ev_avO rfl fun H' _ => av_str ab) mOT (evs_cons (ev9b rfl) mOT (evs_cons (ev_bl) mIsV (evs_cons (ev_bl) mIsV (evs_cons (ev_bl) mIsV evs_nil)))))) ⟨mOT, mOT, mOT, mIsV, mIsV, mIsV, trivial⟩ (Nat.le_of_ble_eq_true rfl))
      (alike_lst ⟨alike_ot, alike_ot, alike_ot, alike_bl, alike_bl, alike_bl, trivial⟩ (Nat.le_of_ble_eq_true rfl)) (by decide) fun H12 s12 => ?_
    exact ⟨⟨_, _, _, _, _, _, _, _, _, _, _, rfl⟩, hB10.same (s11.trans s12)⟩
  · rintro σ H2 ⟨⟨x2, x3, x4, x5, x6, x7, x8, x9, x10, x11, x12, rfl⟩, hB2⟩
    exact ⟨⟨_, _, _, _, _, _, _, _, _, _, _, rfl⟩, hB2⟩
  clear hB2 x2 x3 x4 x5 x6 x7 x8 x9 x10 x11 x12
  rintro σ H2 ⟨⟨x2, x3, x4, x5, x6, x7, x8, x9, x10, x11, x12, rfl⟩, hB2⟩
  refine ⟨_, rfl, B, 4, rfl, by decide, by decide, hB2, fun d H3 d0 d1 hB3 kb3 => ⟨_, _, rfl, rfl, _, rfl, ?_⟩⟩
  cases e : decide (0 < d) with
  | true => exact q H3
  | false => exact ⟨_, rfl, B, rfl, hB3, q⟩
end
end TL
namespace TL
open PySem L2
/-! ### the end -/
def TupO (o : Obj) (xs : List V) : Prop := ∃ (its : Array Value) (n : Nat), o.cls = .type "tuple" ∧ o.data = .seq its n ∧ its.size ≤ sizeLine ∧ Vals xs its.toList
theorem tupO_sq {K : PySem.W.Frag} {H : Hp} {a : Addr} {o : Obj} {xs : List V} (l : K.lookup a = some o) (v : TupO o xs) : SqT K H a xs := by
  obtain ⟨its, n, h1, h2, h3, h4⟩ := v
  exact .inr ⟨o, its, n, l, h1, h2, h3, h4⟩
set_option maxHeartbeats 0 in
theorem all_mk {P : Program} {w : World} {K : PySem.W.Frag} {h : Heap} {mg : Str → Option Value} {fa : Addr} {t_LETTERS : Tok} {t_DIGITS : Tok} {t_MOST_LETTERS : Tok} {t_MOST_DIGITS : Tok} {f1 : Addr} {od1 an1 : Option Addr} {sl1 : Array (Option Value)} {oc1 kV1 dc1 pm1 cd1 ct1 : Value} {f2 : Addr} {od2 an2 : Option Addr} {sl2 : Array (Option Value)} {oc2 kV2 dc2 pm2 cd2 ct2 : Value} {f3 : Addr} {od3 an3 : Option Addr} {sl3 : Array (Option Value)} {oc3 kV3 dc3 pm3 cd3 ct3 : Value} {f4 : Addr} {od4 an4 : Option Addr} {sl4 : Array (Option Value)} {oc4 kV4 dc4 pm4 cd4 ct4 : Value} {f5 : Addr} {od5 an5 : Option Addr} {sl5 : Array (Option Value)} {oc5 kV5 dc5 pm5 cd5 ct5 : Value} {f6 : Addr} {od6 an6 : Option Addr} {sl6 : Array (Option Value)} {oc6 kV6 dc6 pm6 cd6 ct6 : Value} {f7 : Addr} {od7 an7 : Option Addr} {sl7 : Array (Option Value)} {oc7 kV7 dc7 pm7 cd7 ct7 : Value} {f8 : Addr} {od8 an8 : Option Addr} {sl8 : Array (Option Value)} {oc8 kV8 dc8 pm8 cd8 ct8 : Value} {f9 : Addr} {od9 an9 : Option Addr} {sl9 : Array (Option Value)} {oc9 kV9 dc9 pm9 cd9 ct9 : Value} {f10 : Addr} {od10 an10 : Option Addr} {sl10 : Array (Option Value)} {oc10 kV10 dc10 pm10 cd10 ct10 : Value} {f11 : Addr} {od11 an11 : Option Addr} {sl11 : Array (Option Value)} {oc11 kV11 dc11 pm11 cd11 ct11 : Value} {f12 : Addr} {od12 an12 : Option Addr} {sl12 : Array (Option Value)} {oc12 kV12 dc12 pm12 cd12 ct12 : Value} {f13 : Addr} {od13 an13 : Option Addr} {sl13 : Array (Option Value)} {oc13 kV13 dc13 pm13 cd13 ct13 : Value} {f14 : Addr} {od14 an14 : Option Addr} {sl14 : Array (Option Value)} {oc14 kV14 dc14 pm14 cd14 ct14 : Value} {f15 : Addr} {od15 an15 : Option Addr} {sl15 : Array (Option Value)} {oc15 kV15 dc15 pm15 cd15 ct15 : Value} {f16 : Addr} {od16 an16 : Option Addr} {sl16 : Array (Option Value)} {oc16 kV16 dc16 pm16 cd16 ct16 : Value} {f17 : Addr} {od17 an17 : Option Addr} {sl17 : Array (Option Value)} {oc17 kV17 dc17 pm17 cd17 ct17 : Value} {f18 : Addr} {od18 an18 : Option Addr} {sl18 : Array (Option Value)} {oc18 kV18 dc18 pm18 cd18 ct18 : Value} {f19 : Addr} {od19 an19 : Option Addr} {sl19 : Array (Option Value)} {oc19 kV19 dc19 pm19 cd19 ct19 : Value} {f20 : Addr} {od20 an20 : Option Addr} {sl20 : Array (Option Value)} {oc20 kV20 dc20 pm20 cd20 ct20 : Value} {f21 : Addr} {od21 an21 : Option Addr} {sl21 : Array (Option Value)} {oc21 kV21 dc21 pm21 cd21 ct21 : Value} {f22 : Addr} {od22 an22 : Option Addr} {sl22 : Array (Option Value)} {oc22 kV22 dc22 pm22 cd22 ct22 : Value} {f23 : Addr} {od23 an23 : Option Addr} {sl23 : Array (Option Value)} {oc23 kV23 dc23 pm23 cd23 ct23 : Value} {f24 : Addr} {od24 an24 : Option Addr} {sl24 : Array (Option Value)} {oc24 kV24 dc24 pm24 cd24 ct24 : Value} {f25 : Addr} {od25 an25 : Option Addr} {sl25 : Array (Option Value)} {oc25 kV25 dc25 pm25 cd25 ct25 : Value} {f26 : Addr} {od26 an26 : Option Addr} {sl26 : Array (Option Value)} {oc26 kV26 dc26 pm26 cd26 ct26 : Value} {f27 : Addr} {od27 an27 : Option Addr} {sl27 : Array (Option Value)} {oc27 kV27 dc27 pm27 cd27 ct27 : Value} {f28 : Addr} {od28 an28 : Option Addr} {sl28 : Array (Option Value)} {oc28 kV28 dc28 pm28 cd28 ct28 : Value} (X : K.In h) (G : h.Ns mainGlobals mg) (hfa : mg "law" = some (.ref fa))
    (z_len : PySem.W.nsIn K mainGlobals "len" = some none)
    (z_abs : PySem.W.nsIn K mainGlobals "abs" = some none)
    (z_int : PySem.W.nsIn K mainGlobals "int" = some none)
    (z_isinstance : PySem.W.nsIn K mainGlobals "isinstance" = some none)
    (z_list : PySem.W.nsIn K mainGlobals "list" = some none)
    (z_tuple : PySem.W.nsIn K mainGlobals "tuple" = some none)
    (z_bool : PySem.W.nsIn K mainGlobals "bool" = some none)
    (z_str : PySem.W.nsIn K mainGlobals "str" = some none)
    (z_all : PySem.W.nsIn K mainGlobals "all" = some none)
    (z_zip : PySem.W.nsIn K mainGlobals "zip" = some none)
    (z_range : PySem.W.nsIn K mainGlobals "range" = some none)
    (gb_gcd : PySem.W.nsIn K mainGlobals "gcd" = some (some (.builtin "math.gcd")))
    (gi_LETTERS : PySem.W.nsIn K mainGlobals "LETTERS" = some (some (.str (Str.ofString "abcdefghijklmnopqrstuvwxyz") t_LETTERS)))
    (gi_DIGITS : PySem.W.nsIn K mainGlobals "DIGITS" = some (some (.str (Str.ofString "0123456789") t_DIGITS)))
    (gi_MOST_LETTERS : PySem.W.nsIn K mainGlobals "MOST_LETTERS" = some (some (.int 6 t_MOST_LETTERS)))
    (gi_MOST_DIGITS : PySem.W.nsIn K mainGlobals "MOST_DIGITS" = some (some (.int 2000 t_MOST_DIGITS)))
    (a1 : PySem.W.nsIn K mainGlobals "is_name" = some (some (.ref f1)))
    (l1 : K.lookup f1 = some ⟨oc1, od1, .func (PySem.W.fnOf "is_name" "is_name" (defArgs s_is_name) (defBody s_is_name) (defScope s_is_name) .none kV1 dc1 pm1 an1 cd1 ct1), sl1⟩)
    (c1 : PySem.W.codeIn K cd1 "is_name" = true)
    (k1 : PySem.W.keepIn K (.ref f1) = true)
    (a2 : PySem.W.nsIn K mainGlobals "is_number" = some (some (.ref f2)))
    (l2 : K.lookup f2 = some ⟨oc2, od2, .func (PySem.W.fnOf "is_number" "is_number" (defArgs s_is_number) (defBody s_is_number) (defScope s_is_number) .none kV2 dc2 pm2 an2 cd2 ct2), sl2⟩)
    (c2 : PySem.W.codeIn K cd2 "is_number" = true)
    (k2 : PySem.W.keepIn K (.ref f2) = true)
    (a3 : PySem.W.nsIn K mainGlobals "is_listed" = some (some (.ref f3)))
    (l3 : K.lookup f3 = some ⟨oc3, od3, .func (PySem.W.fnOf "is_listed" "is_listed" (defArgs s_is_listed) (defBody s_is_listed) (defScope s_is_listed) .none kV3 dc3 pm3 an3 cd3 ct3), sl3⟩)
    (c3 : PySem.W.codeIn K cd3 "is_listed" = true)
    (k3 : PySem.W.keepIn K (.ref f3) = true)
    (a4 : PySem.W.nsIn K mainGlobals "are_numbers" = some (some (.ref f4)))
    (l4 : K.lookup f4 = some ⟨oc4, od4, .func (PySem.W.fnOf "are_numbers" "are_numbers" (defArgs s_are_numbers) (defBody s_are_numbers) (defScope s_are_numbers) .none kV4 dc4 pm4 an4 cd4 ct4), sl4⟩)
    (c4 : PySem.W.codeIn K cd4 "are_numbers" = true)
    (k4 : PySem.W.keepIn K (.ref f4) = true)
    (a5 : PySem.W.nsIn K mainGlobals "is_tone" = some (some (.ref f5)))
    (l5 : K.lookup f5 = some ⟨oc5, od5, .func (PySem.W.fnOf "is_tone" "is_tone" (defArgs s_is_tone) (defBody s_is_tone) (defScope s_is_tone) .none kV5 dc5 pm5 an5 cd5 ct5), sl5⟩)
    (c5 : PySem.W.codeIn K cd5 "is_tone" = true)
    (k5 : PySem.W.keepIn K (.ref f5) = true)
    (a6 : PySem.W.nsIn K mainGlobals "tone_of" = some (some (.ref f6)))
    (l6 : K.lookup f6 = some ⟨oc6, od6, .func (PySem.W.fnOf "tone_of" "tone_of" (defArgs s_tone_of) (defBody s_tone_of) (defScope s_tone_of) .none kV6 dc6 pm6 an6 cd6 ct6), sl6⟩)
    (c6 : PySem.W.codeIn K cd6 "tone_of" = true)
    (k6 : PySem.W.keepIn K (.ref f6) = true)
    (a7 : PySem.W.nsIn K mainGlobals "tone_text" = some (some (.ref f7)))
    (l7 : K.lookup f7 = some ⟨oc7, od7, .func (PySem.W.fnOf "tone_text" "tone_text" (defArgs s_tone_text) (defBody s_tone_text) (defScope s_tone_text) .none kV7 dc7 pm7 an7 cd7 ct7), sl7⟩)
    (c7 : PySem.W.codeIn K cd7 "tone_text" = true)
    (k7 : PySem.W.keepIn K (.ref f7) = true)
    (a8 : PySem.W.nsIn K mainGlobals "_read_number" = some (some (.ref f8)))
    (l8 : K.lookup f8 = some ⟨oc8, od8, .func (PySem.W.fnOf "_read_number" "_read_number" (defArgs s__read_number) (defBody s__read_number) (defScope s__read_number) .none kV8 dc8 pm8 an8 cd8 ct8), sl8⟩)
    (c8 : PySem.W.codeIn K cd8 "_read_number" = true)
    (k8 : PySem.W.keepIn K (.ref f8) = true)
    (a9 : PySem.W.nsIn K mainGlobals "read_tone" = some (some (.ref f9)))
    (l9 : K.lookup f9 = some ⟨oc9, od9, .func (PySem.W.fnOf "read_tone" "read_tone" (defArgs s_read_tone) (defBody s_read_tone) (defScope s_read_tone) .none kV9 dc9 pm9 an9 cd9 ct9), sl9⟩)
    (c9 : PySem.W.codeIn K cd9 "read_tone" = true)
    (k9 : PySem.W.keepIn K (.ref f9) = true)
    (a10 : PySem.W.nsIn K mainGlobals "_law_bag" = some (some (.ref f10)))
    (l10 : K.lookup f10 = some ⟨oc10, od10, .func (PySem.W.fnOf "_law_bag" "_law_bag" (defArgs s_l_bag) (defBody s_l_bag) (defScope s_l_bag) .none kV10 dc10 pm10 an10 cd10 ct10), sl10⟩)
    (c10 : PySem.W.codeIn K cd10 "_law_bag" = true)
    (k10 : PySem.W.keepIn K (.ref f10) = true)
    (a11 : PySem.W.nsIn K mainGlobals "_law_draw" = some (some (.ref f11)))
    (l11 : K.lookup f11 = some ⟨oc11, od11, .func (PySem.W.fnOf "_law_draw" "_law_draw" (defArgs s_l_draw) (defBody s_l_draw) (defScope s_l_draw) .none kV11 dc11 pm11 an11 cd11 ct11), sl11⟩)
    (c11 : PySem.W.codeIn K cd11 "_law_draw" = true)
    (k11 : PySem.W.keepIn K (.ref f11) = true)
    (a12 : PySem.W.nsIn K mainGlobals "_law_of" = some (some (.ref f12)))
    (l12 : K.lookup f12 = some ⟨oc12, od12, .func (PySem.W.fnOf "_law_of" "_law_of" (defArgs s_l_of) (defBody s_l_of) (defScope s_l_of) .none kV12 dc12 pm12 an12 cd12 ct12), sl12⟩)
    (c12 : PySem.W.codeIn K cd12 "_law_of" = true)
    (k12 : PySem.W.keepIn K (.ref f12) = true)
    (a13 : PySem.W.nsIn K mainGlobals "_law_same" = some (some (.ref f13)))
    (l13 : K.lookup f13 = some ⟨oc13, od13, .func (PySem.W.fnOf "_law_same" "_law_same" (defArgs s_l_same) (defBody s_l_same) (defScope s_l_same) .none kV13 dc13 pm13 an13 cd13 ct13), sl13⟩)
    (c13 : PySem.W.codeIn K cd13 "_law_same" = true)
    (k13 : PySem.W.keepIn K (.ref f13) = true)
    (a14 : PySem.W.nsIn K mainGlobals "_law_number" = some (some (.ref f14)))
    (l14 : K.lookup f14 = some ⟨oc14, od14, .func (PySem.W.fnOf "_law_number" "_law_number" (defArgs s_l_number) (defBody s_l_number) (defScope s_l_number) .none kV14 dc14 pm14 an14 cd14 ct14), sl14⟩)
    (c14 : PySem.W.codeIn K cd14 "_law_number" = true)
    (k14 : PySem.W.keepIn K (.ref f14) = true)
    (a15 : PySem.W.nsIn K mainGlobals "_law_gcd" = some (some (.ref f15)))
    (l15 : K.lookup f15 = some ⟨oc15, od15, .func (PySem.W.fnOf "_law_gcd" "_law_gcd" (defArgs s_l_gcd) (defBody s_l_gcd) (defScope s_l_gcd) .none kV15 dc15 pm15 an15 cd15 ct15), sl15⟩)
    (c15 : PySem.W.codeIn K cd15 "_law_gcd" = true)
    (k15 : PySem.W.keepIn K (.ref f15) = true)
    (a16 : PySem.W.nsIn K mainGlobals "_law_low" = some (some (.ref f16)))
    (l16 : K.lookup f16 = some ⟨oc16, od16, .func (PySem.W.fnOf "_law_low" "_law_low" (defArgs s_l_low) (defBody s_l_low) (defScope s_l_low) .none kV16 dc16 pm16 an16 cd16 ct16), sl16⟩)
    (c16 : PySem.W.codeIn K cd16 "_law_low" = true)
    (k16 : PySem.W.keepIn K (.ref f16) = true)
    (a17 : PySem.W.nsIn K mainGlobals "_law_said" = some (some (.ref f17)))
    (l17 : K.lookup f17 = some ⟨oc17, od17, .func (PySem.W.fnOf "_law_said" "_law_said" (defArgs s_l_said) (defBody s_l_said) (defScope s_l_said) .none kV17 dc17 pm17 an17 cd17 ct17), sl17⟩)
    (c17 : PySem.W.codeIn K cd17 "_law_said" = true)
    (k17 : PySem.W.keepIn K (.ref f17) = true)
    (a18 : PySem.W.nsIn K mainGlobals "_law_sign" = some (some (.ref f18)))
    (l18 : K.lookup f18 = some ⟨oc18, od18, .func (PySem.W.fnOf "_law_sign" "_law_sign" (defArgs s_l_sign) (defBody s_l_sign) (defScope s_l_sign) .none kV18 dc18 pm18 an18 cd18 ct18), sl18⟩)
    (c18 : PySem.W.codeIn K cd18 "_law_sign" = true)
    (k18 : PySem.W.keepIn K (.ref f18) = true)
    (a19 : PySem.W.nsIn K mainGlobals "_law_title" = some (some (.ref f19)))
    (l19 : K.lookup f19 = some ⟨oc19, od19, .func (PySem.W.fnOf "_law_title" "_law_title" (defArgs s_l_title) (defBody s_l_title) (defScope s_l_title) .none kV19 dc19 pm19 an19 cd19 ct19), sl19⟩)
    (c19 : PySem.W.codeIn K cd19 "_law_title" = true)
    (k19 : PySem.W.keepIn K (.ref f19) = true)
    (a20 : PySem.W.nsIn K mainGlobals "_law_name_due" = some (some (.ref f20)))
    (l20 : K.lookup f20 = some ⟨oc20, od20, .func (PySem.W.fnOf "_law_name_due" "_law_name_due" (defArgs s_l_name_due) (defBody s_l_name_due) (defScope s_l_name_due) .none kV20 dc20 pm20 an20 cd20 ct20), sl20⟩)
    (c20 : PySem.W.codeIn K cd20 "_law_name_due" = true)
    (k20 : PySem.W.keepIn K (.ref f20) = true)
    (a21 : PySem.W.nsIn K mainGlobals "_law_tone_due" = some (some (.ref f21)))
    (l21 : K.lookup f21 = some ⟨oc21, od21, .func (PySem.W.fnOf "_law_tone_due" "_law_tone_due" (defArgs s_l_tone_due) (defBody s_l_tone_due) (defScope s_l_tone_due) .none kV21 dc21 pm21 an21 cd21 ct21), sl21⟩)
    (c21 : PySem.W.codeIn K cd21 "_law_tone_due" = true)
    (k21 : PySem.W.keepIn K (.ref f21) = true)
    (a22 : PySem.W.nsIn K mainGlobals "_law_whole" = some (some (.ref f22)))
    (l22 : K.lookup f22 = some ⟨oc22, od22, .func (PySem.W.fnOf "_law_whole" "_law_whole" (defArgs s_l_whole) (defBody s_l_whole) (defScope s_l_whole) .none kV22 dc22 pm22 an22 cd22 ct22), sl22⟩)
    (c22 : PySem.W.codeIn K cd22 "_law_whole" = true)
    (k22 : PySem.W.keepIn K (.ref f22) = true)
    (a23 : PySem.W.nsIn K mainGlobals "_law_read" = some (some (.ref f23)))
    (l23 : K.lookup f23 = some ⟨oc23, od23, .func (PySem.W.fnOf "_law_read" "_law_read" (defArgs s_l_read) (defBody s_l_read) (defScope s_l_read) .none kV23 dc23 pm23 an23 cd23 ct23), sl23⟩)
    (c23 : PySem.W.codeIn K cd23 "_law_read" = true)
    (k23 : PySem.W.keepIn K (.ref f23) = true)
    (a24 : PySem.W.nsIn K mainGlobals "_law_any" = some (some (.ref f24)))
    (l24 : K.lookup f24 = some ⟨oc24, od24, .func (PySem.W.fnOf "_law_any" "_law_any" (defArgs s_l_any) (defBody s_l_any) (defScope s_l_any) .none kV24 dc24 pm24 an24 cd24 ct24), sl24⟩)
    (c24 : PySem.W.codeIn K cd24 "_law_any" = true)
    (k24 : PySem.W.keepIn K (.ref f24) = true)
    (a25 : PySem.W.nsIn K mainGlobals "_law_big" = some (some (.ref f25)))
    (l25 : K.lookup f25 = some ⟨oc25, od25, .func (PySem.W.fnOf "_law_big" "_law_big" (defArgs s_l_big) (defBody s_l_big) (defScope s_l_big) .none kV25 dc25 pm25 an25 cd25 ct25), sl25⟩)
    (c25 : PySem.W.codeIn K cd25 "_law_big" = true)
    (k25 : PySem.W.keepIn K (.ref f25) = true)
    (a26 : PySem.W.nsIn K mainGlobals "_law_bent" = some (some (.ref f26)))
    (l26 : K.lookup f26 = some ⟨oc26, od26, .func (PySem.W.fnOf "_law_bent" "_law_bent" (defArgs s_l_bent) (defBody s_l_bent) (defScope s_l_bent) .none kV26 dc26 pm26 an26 cd26 ct26), sl26⟩)
    (c26 : PySem.W.codeIn K cd26 "_law_bent" = true)
    (k26 : PySem.W.keepIn K (.ref f26) = true)
    (a27 : PySem.W.nsIn K mainGlobals "_law_long_so" = some (some (.ref f27)))
    (l27 : K.lookup f27 = some ⟨oc27, od27, .func (PySem.W.fnOf "_law_long_so" "_law_long_so" (defArgs s_l_long_so) (defBody s_l_long_so) (defScope s_l_long_so) .none kV27 dc27 pm27 an27 cd27 ct27), sl27⟩)
    (c27 : PySem.W.codeIn K cd27 "_law_long_so" = true)
    (k27 : PySem.W.keepIn K (.ref f27) = true)
    (a28 : PySem.W.nsIn K mainGlobals "law" = some (some (.ref f28)))
    (l28 : K.lookup f28 = some ⟨oc28, od28, .func (PySem.W.fnOf "law" "law" (defArgs s_law) (defBody s_law) (defScope s_law) .none kV28 dc28 pm28 an28 cd28 ct28), sl28⟩)
    (c28 : PySem.W.codeIn K cd28 "law" = true)
    (k28 : PySem.W.keepIn K (.ref f28) = true)
    (h_no_limit : PySem.W.nsIn K cStatics "sys.int_max_str_digits" = some none)
    : ∃ fd : FuncData, (∀ (s : Shared) (v : Value), BindsTo s fd ⟨[v], []⟩ [("_law_script", v)]) ∧ ∀ base : Heap, K.In base → base.Ns mainGlobals mg → FnOk P w K mg base CX0 6 fa fd ["_law_script"] (spLaw K) := by
  have e := hfa.symm.trans (PySem.W.mg_of X G a28)
  cases e
  have F1 := fun_mk (st := s_is_name) l1 c1 k1
  have b1 := F1.binds (ps := ["value"]) fun _ _ _ _ _ _ us hl => match us, hl with | [_], _ => rfl
  have F2 := fun_mk (st := s_is_number) l2 c2 k2
  have b2 := F2.binds (ps := ["value"]) fun _ _ _ _ _ _ us hl => match us, hl with | [_], _ => rfl
  have F3 := fun_mk (st := s_is_listed) l3 c3 k3
  have b3 := F3.binds (ps := ["value"]) fun _ _ _ _ _ _ us hl => match us, hl with | [_], _ => rfl
  have F4 := fun_mk (st := s_are_numbers) l4 c4 k4
  have b4 := F4.binds (ps := ["value", "many"]) fun _ _ _ _ _ _ us hl => match us, hl with | [_, _], _ => rfl
  have F5 := fun_mk (st := s_is_tone) l5 c5 k5
  have b5 := F5.binds (ps := ["value"]) fun _ _ _ _ _ _ us hl => match us, hl with | [_], _ => rfl
  have F6 := fun_mk (st := s_tone_of) l6 c6 k6
  have b6 := F6.binds (ps := ["over", "under"]) fun _ _ _ _ _ _ us hl => match us, hl with | [_, _], _ => rfl
  have F7 := fun_mk (st := s_tone_text) l7 c7 k7
  have b7 := F7.binds (ps := ["tone"]) fun _ _ _ _ _ _ us hl => match us, hl with | [_], _ => rfl
  have F8 := fun_mk (st := s__read_number) l8 c8 k8
  have b8 := F8.binds (ps := ["text"]) fun _ _ _ _ _ _ us hl => match us, hl with | [_], _ => rfl
  have F9 := fun_mk (st := s_read_tone) l9 c9 k9
  have b9 := F9.binds (ps := ["text"]) fun _ _ _ _ _ _ us hl => match us, hl with | [_], _ => rfl
  have F10 := fun_mk (st := s_l_bag) l10 c10 k10
  have b10 := F10.binds (ps := ["_law_script"]) fun _ _ _ _ _ _ us hl => match us, hl with | [_], _ => rfl
  have F11 := fun_mk (st := s_l_draw) l11 c11 k11
  have b11 := F11.binds (ps := ["_law_bag_here", "_law_sides"]) fun _ _ _ _ _ _ us hl => match us, hl with | [_, _], _ => rfl
  have F12 := fun_mk (st := s_l_of) l12 c12 k12
  have b12 := F12.binds (ps := ["_law_bag_here", "_law_things"]) fun _ _ _ _ _ _ us hl => match us, hl with | [_, _], _ => rfl
  have F13 := fun_mk (st := s_l_same) l13 c13 k13
  have b13 := F13.binds (ps := ["_law_found", "_law_due"]) fun _ _ _ _ _ _ us hl => match us, hl with | [_, _], _ => rfl
  have F14 := fun_mk (st := s_l_number) l14 c14 k14
  have b14 := F14.binds (ps := ["_law_thing"]) fun _ _ _ _ _ _ us hl => match us, hl with | [_], _ => rfl
  have F15 := fun_mk (st := s_l_gcd) l15 c15 k15
  have b15 := F15.binds (ps := ["_law_x", "_law_y"]) fun _ _ _ _ _ _ us hl => match us, hl with | [_, _], _ => rfl
  have F16 := fun_mk (st := s_l_low) l16 c16 k16
  have b16 := F16.binds (ps := ["_law_num", "_law_den"]) fun _ _ _ _ _ _ us hl => match us, hl with | [_, _], _ => rfl
  have F17 := fun_mk (st := s_l_said) l17 c17 k17
  have b17 := F17.binds (ps := ["_law_x"]) fun _ _ _ _ _ _ us hl => match us, hl with | [_], _ => rfl
  have F18 := fun_mk (st := s_l_sign) l18 c18 k18
  have b18 := F18.binds (ps := ["_law_bag_here"]) fun _ _ _ _ _ _ us hl => match us, hl with | [_], _ => rfl
  have F19 := fun_mk (st := s_l_title) l19 c19 k19
  have b19 := F19.binds (ps := ["_law_bag_here"]) fun _ _ _ _ _ _ us hl => match us, hl with | [_], _ => rfl
  have F20 := fun_mk (st := s_l_name_due) l20 c20 k20
  have b20 := F20.binds (ps := ["_law_thing"]) fun _ _ _ _ _ _ us hl => match us, hl with | [_], _ => rfl
  have F21 := fun_mk (st := s_l_tone_due) l21 c21 k21
  have b21 := F21.binds (ps := ["_law_thing"]) fun _ _ _ _ _ _ us hl => match us, hl with | [_], _ => rfl
  have F22 := fun_mk (st := s_l_whole) l22 c22 k22
  have b22 := F22.binds (ps := ["_law_told"]) fun _ _ _ _ _ _ us hl => match us, hl with | [_], _ => rfl
  have F23 := fun_mk (st := s_l_read) l23 c23 k23
  have b23 := F23.binds (ps := ["_law_told"]) fun _ _ _ _ _ _ us hl => match us, hl with | [_], _ => rfl
  have F24 := fun_mk (st := s_l_any) l24 c24 k24
  have b24 := F24.binds (ps := ["_law_bag_here"]) fun _ _ _ _ _ _ us hl => match us, hl with | [_], _ => rfl
  have F25 := fun_mk (st := s_l_big) l25 c25 k25
  have b25 := F25.binds (ps := ["_law_bag_here"]) fun _ _ _ _ _ _ us hl => match us, hl with | [_], _ => rfl
  have F26 := fun_mk (st := s_l_bent) l26 c26 k26
  have b26 := F26.binds (ps := ["_law_bag_here", "_law_told"]) fun _ _ _ _ _ _ us hl => match us, hl with | [_, _], _ => rfl
  have F27 := fun_mk (st := s_l_long_so) l27 c27 k27
  have b27 := F27.binds (ps := ["_law_bag_here"]) fun _ _ _ _ _ _ us hl => match us, hl with | [_], _ => rfl
  have F28 := fun_mk (st := s_law) l28 c28 k28
  have b28 := F28.binds (ps := ["_law_script"]) fun _ _ _ _ _ _ us hl => match us, hl with | [_], _ => rfl
  have kb_is_name : KBinds K _ ["value"] ["value"] g01 g01 := Fun.kb01 F1 fun _ _ _ _ _ _ _ => rfl
  have kb_read_tone : KBinds K _ ["text"] ["text"] g01 g01 := Fun.kb01 F9 fun _ _ _ _ _ _ _ => rfl
  have kb_tone_of : KBinds K _ ["over", "under"] ["under", "over"] g02s g02s := Fun.kb02s F6 fun _ _ _ _ _ _ _ _ => rfl
  exact ⟨PySem.W.fnOf "law" "law" (defArgs s_law) (defBody s_law) (defScope s_law) .none kV28 dc28 pm28 an28 cd28 ct28, fun s v => .of_eq rfl, fun base _ _ => ok_law (T := {
    z_len := PySem.W.mg_none_of X G z_len
    z_abs := PySem.W.mg_none_of X G z_abs
    z_int := PySem.W.mg_none_of X G z_int
    z_isinstance := PySem.W.mg_none_of X G z_isinstance
    z_list := PySem.W.mg_none_of X G z_list
    z_tuple := PySem.W.mg_none_of X G z_tuple
    z_bool := PySem.W.mg_none_of X G z_bool
    z_str := PySem.W.mg_none_of X G z_str
    z_all := PySem.W.mg_none_of X G z_all
    z_zip := PySem.W.mg_none_of X G z_zip
    z_range := PySem.W.mg_none_of X G z_range
    m_gcd := PySem.W.mg_of X G gb_gcd
    t_LETTERS := t_LETTERS
    m_LETTERS := PySem.W.mg_of X G gi_LETTERS
    t_DIGITS := t_DIGITS
    m_DIGITS := PySem.W.mg_of X G gi_DIGITS
    t_MOST_LETTERS := t_MOST_LETTERS
    m_MOST_LETTERS := PySem.W.mg_of X G gi_MOST_LETTERS
    t_MOST_DIGITS := t_MOST_DIGITS
    m_MOST_DIGITS := PySem.W.mg_of X G gi_MOST_DIGITS
    f_is_name := f1
    d_is_name := PySem.W.fnOf "is_name" "is_name" (defArgs s_is_name) (defBody s_is_name) (defScope s_is_name) .none kV1 dc1 pm1 an1 cd1 ct1
    F_is_name := F1
    b_is_name := b1
    m_is_name := PySem.W.mg_of X G a1
    f_is_number := f2
    d_is_number := PySem.W.fnOf "is_number" "is_number" (defArgs s_is_number) (defBody s_is_number) (defScope s_is_number) .none kV2 dc2 pm2 an2 cd2 ct2
    F_is_number := F2
    b_is_number := b2
    m_is_number := PySem.W.mg_of X G a2
    f_is_listed := f3
    d_is_listed := PySem.W.fnOf "is_listed" "is_listed" (defArgs s_is_listed) (defBody s_is_listed) (defScope s_is_listed) .none kV3 dc3 pm3 an3 cd3 ct3
    F_is_listed := F3
    b_is_listed := b3
    m_is_listed := PySem.W.mg_of X G a3
    f_are_numbers := f4
    d_are_numbers := PySem.W.fnOf "are_numbers" "are_numbers" (defArgs s_are_numbers) (defBody s_are_numbers) (defScope s_are_numbers) .none kV4 dc4 pm4 an4 cd4 ct4
    F_are_numbers := F4
    b_are_numbers := b4
    m_are_numbers := PySem.W.mg_of X G a4
    f_is_tone := f5
    d_is_tone := PySem.W.fnOf "is_tone" "is_tone" (defArgs s_is_tone) (defBody s_is_tone) (defScope s_is_tone) .none kV5 dc5 pm5 an5 cd5 ct5
    F_is_tone := F5
    b_is_tone := b5
    m_is_tone := PySem.W.mg_of X G a5
    f_tone_of := f6
    d_tone_of := PySem.W.fnOf "tone_of" "tone_of" (defArgs s_tone_of) (defBody s_tone_of) (defScope s_tone_of) .none kV6 dc6 pm6 an6 cd6 ct6
    F_tone_of := F6
    b_tone_of := b6
    m_tone_of := PySem.W.mg_of X G a6
    f_tone_text := f7
    d_tone_text := PySem.W.fnOf "tone_text" "tone_text" (defArgs s_tone_text) (defBody s_tone_text) (defScope s_tone_text) .none kV7 dc7 pm7 an7 cd7 ct7
    F_tone_text := F7
    b_tone_text := b7
    m_tone_text := PySem.W.mg_of X G a7
    f__read_number := f8
    d__read_number := PySem.W.fnOf "_read_number" "_read_number" (defArgs s__read_number) (defBody s__read_number) (defScope s__read_number) .none kV8 dc8 pm8 an8 cd8 ct8
    F__read_number := F8
    b__read_number := b8
    m__read_number := PySem.W.mg_of X G a8
    f_read_tone := f9
    d_read_tone := PySem.W.fnOf "read_tone" "read_tone" (defArgs s_read_tone) (defBody s_read_tone) (defScope s_read_tone) .none kV9 dc9 pm9 an9 cd9 ct9
    F_read_tone := F9
    b_read_tone := b9
    m_read_tone := PySem.W.mg_of X G a9
    f_l_bag := f10
    d_l_bag := PySem.W.fnOf "_law_bag" "_law_bag" (defArgs s_l_bag) (defBody s_l_bag) (defScope s_l_bag) .none kV10 dc10 pm10 an10 cd10 ct10
    F_l_bag := F10
    b_l_bag := b10
    m_l_bag := PySem.W.mg_of X G a10
    f_l_draw := f11
    d_l_draw := PySem.W.fnOf "_law_draw" "_law_draw" (defArgs s_l_draw) (defBody s_l_draw) (defScope s_l_draw) .none kV11 dc11 pm11 an11 cd11 ct11
    F_l_draw := F11
    b_l_draw := b11
    m_l_draw := PySem.W.mg_of X G a11
    f_l_of := f12
    d_l_of := PySem.W.fnOf "_law_of" "_law_of" (defArgs s_l_of) (defBody s_l_of) (defScope s_l_of) .none kV12 dc12 pm12 an12 cd12 ct12
    F_l_of := F12
    b_l_of := b12
    m_l_of := PySem.W.mg_of X G a12
    f_l_same := f13
    d_l_same := PySem.W.fnOf "_law_same" "_law_same" (defArgs s_l_same) (defBody s_l_same) (defScope s_l_same) .none kV13 dc13 pm13 an13 cd13 ct13
    F_l_same := F13
    b_l_same := b13
    m_l_same := PySem.W.mg_of X G a13
    f_l_number := f14
    d_l_number := PySem.W.fnOf "_law_number" "_law_number" (defArgs s_l_number) (defBody s_l_number) (defScope s_l_number) .none kV14 dc14 pm14 an14 cd14 ct14
    F_l_number := F14
    b_l_number := b14
    m_l_number := PySem.W.mg_of X G a14
    f_l_gcd := f15
    d_l_gcd := PySem.W.fnOf "_law_gcd" "_law_gcd" (defArgs s_l_gcd) (defBody s_l_gcd) (defScope s_l_gcd) .none kV15 dc15 pm15 an15 cd15 ct15
    F_l_gcd := F15
    b_l_gcd := b15
    m_l_gcd := PySem.W.mg_of X G a15
    f_l_low := f16
    d_l_low := PySem.W.fnOf "_law_low" "_law_low" (defArgs s_l_low) (defBody s_l_low) (defScope s_l_low) .none kV16 dc16 pm16 an16 cd16 ct16
    F_l_low := F16
    b_l_low := b16
    m_l_low := PySem.W.mg_of X G a16
    f_l_said := f17
    d_l_said := PySem.W.fnOf "_law_said" "_law_said" (defArgs s_l_said) (defBody s_l_said) (defScope s_l_said) .none kV17 dc17 pm17 an17 cd17 ct17
    F_l_said := F17
    b_l_said := b17
    m_l_said := PySem.W.mg_of X G a17
    f_l_sign := f18
    d_l_sign := PySem.W.fnOf "_law_sign" "_law_sign" (defArgs s_l_sign) (defBody s_l_sign) (defScope s_l_sign) .none kV18 dc18 pm18 an18 cd18 ct18
    F_l_sign := F18
    b_l_sign := b18
    m_l_sign := PySem.W.mg_of X G a18
    f_l_title := f19
    d_l_title := PySem.W.fnOf "_law_title" "_law_title" (defArgs s_l_title) (defBody s_l_title) (defScope s_l_title) .none kV19 dc19 pm19 an19 cd19 ct19
    F_l_title := F19
    b_l_title := b19
    m_l_title := PySem.W.mg_of X G a19
    f_l_name_due := f20
    d_l_name_due := PySem.W.fnOf "_law_name_due" "_law_name_due" (defArgs s_l_name_due) (defBody s_l_name_due) (defScope s_l_name_due) .none kV20 dc20 pm20 an20 cd20 ct20
    F_l_name_due := F20
    b_l_name_due := b20
    m_l_name_due := PySem.W.mg_of X G a20
    f_l_tone_due := f21
    d_l_tone_due := PySem.W.fnOf "_law_tone_due" "_law_tone_due" (defArgs s_l_tone_due) (defBody s_l_tone_due) (defScope s_l_tone_due) .none kV21 dc21 pm21 an21 cd21 ct21
    F_l_tone_due := F21
    b_l_tone_due := b21
    m_l_tone_due := PySem.W.mg_of X G a21
    f_l_whole := f22
    d_l_whole := PySem.W.fnOf "_law_whole" "_law_whole" (defArgs s_l_whole) (defBody s_l_whole) (defScope s_l_whole) .none kV22 dc22 pm22 an22 cd22 ct22
    F_l_whole := F22
    b_l_whole := b22
    m_l_whole := PySem.W.mg_of X G a22
    f_l_read := f23
    d_l_read := PySem.W.fnOf "_law_read" "_law_read" (defArgs s_l_read) (defBody s_l_read) (defScope s_l_read) .none kV23 dc23 pm23 an23 cd23 ct23
    F_l_read := F23
    b_l_read := b23
    m_l_read := PySem.W.mg_of X G a23
    f_l_any := f24
    d_l_any := PySem.W.fnOf "_law_any" "_law_any" (defArgs s_l_any) (defBody s_l_any) (defScope s_l_any) .none kV24 dc24 pm24 an24 cd24 ct24
    F_l_any := F24
    b_l_any := b24
    m_l_any := PySem.W.mg_of X G a24
    f_l_big := f25
    d_l_big := PySem.W.fnOf "_law_big" "_law_big" (defArgs s_l_big) (defBody s_l_big) (defScope s_l_big) .none kV25 dc25 pm25 an25 cd25 ct25
    F_l_big := F25
    b_l_big := b25
    m_l_big := PySem.W.mg_of X G a25
    f_l_bent := f26
    d_l_bent := PySem.W.fnOf "_law_bent" "_law_bent" (defArgs s_l_bent) (defBody s_l_bent) (defScope s_l_bent) .none kV26 dc26 pm26 an26 cd26 ct26
    F_l_bent := F26
    b_l_bent := b26
    m_l_bent := PySem.W.mg_of X G a26
    f_l_long_so := f27
    d_l_long_so := PySem.W.fnOf "_law_long_so" "_law_long_so" (defArgs s_l_long_so) (defBody s_l_long_so) (defScope s_l_long_so) .none kV27 dc27 pm27 an27 cd27 ct27
    F_l_long_so := F27
    b_l_long_so := b27
    m_l_long_so := PySem.W.mg_of X G a27
    f_law := fa
    d_law := PySem.W.fnOf "law" "law" (defArgs s_law) (defBody s_law) (defScope s_law) .none kV28 dc28 pm28 an28 cd28 ct28
    F_law := F28
    b_law := b28
    m_law := PySem.W.mg_of X G a28
    no_limit := h_no_limit
    kb_is_name := kb_is_name
    kb_read_tone := kb_read_tone
    kb_tone_of := kb_tone_of
  } )⟩
theorem walk {l : PySem.W.OpenLaw} {q : Program} {loose : List Str} {XP : (Str → Option Value) → Heap → Prop} {YP : World → Heap → Prop} {d : DefRec} {K : Params → PySem.W.Frag} (hn : l.most = some 63) (hdf : d.params.defaults = [])
    (hY : ∀ (w : World) (h : Heap), YP w h → (K w.params).In h)
    (F : ∀ (w : World) (mg : Str → Option Value) (fa : Addr) (h : Heap), (K w.params).In h → h.Ns mainGlobals mg → mg d.name = some (.ref fa) →
      ∃ fd : FuncData, (∀ (s : Shared) (u : Value), BindsTo s fd ⟨[u], []⟩ [("_law_script", u)]) ∧ ∀ base : Heap, (K w.params).In base → base.Ns mainGlobals mg → FnOk l.prog w (K w.params) mg base CX0 6 fa fd ["_law_script"] (spLaw (K w.params))) :
    PySem.W.WalkO q loose XP YP l.row.toRowW d [] (fun f vs => PySem.call f vs) :=
  L2.walk_of (n := 63) (k := 6) (x := "_law_script") (CX := fun _ => CX0) (sp := fun w => spLaw (K w.params)) hn (by decide) hdf ⟨rfl, by decide, by decide⟩ hY F (fun _ _ a ns hl _ hS => ⟨a, ns, rfl, hS, hl, fun _ => rfl⟩) fun _ _ _ _ _ z => z
end TL
open PySem PySem.W PyProof.Rows
set_option maxRecDepth 100000 in
set_option maxHeartbeats 0 in
theorem PySem.Challenge.cw_turnsleft_k01_names_and_tones_judged_holds : PySem.Challenge.rw_turnsleft_k01_names_and_tones_judged.Holds := by
  w_on; o_law; k_head; (case hw => w_witness2)
  k_fill
  refine TL.walk (l := PySem.Challenge.rw_turnsleft_k01_names_and_tones_judged) rfl rfl (fun w h Y => PySem.W.kIn_of Y) ?F
  case F =>
    intro w mg fa h KX G hmg
    refine' TL.all_mk KX G hmg ?z_len ?z_abs ?z_int ?z_isinstance ?z_list ?z_tuple ?z_bool ?z_str ?z_all ?z_zip ?z_range ?gb_gcd ?gi_LETTERS ?gi_DIGITS ?gi_MOST_LETTERS ?gi_MOST_DIGITS ?a1 ?l1 ?c1 ?k1 ?a2 ?l2 ?c2 ?k2 ?a3 ?l3 ?c3 ?k3 ?a4 ?l4 ?c4 ?k4 ?a5 ?l5 ?c5 ?k5 ?a6 ?l6 ?c6 ?k6 ?a7 ?l7 ?c7 ?k7 ?a8 ?l8 ?c8 ?k8 ?a9 ?l9 ?c9 ?k9 ?a10 ?l10 ?c10 ?k10 ?a11 ?l11 ?c11 ?k11 ?a12 ?l12 ?c12 ?k12 ?a13 ?l13 ?c13 ?k13 ?a14 ?l14 ?c14 ?k14 ?a15 ?l15 ?c15 ?k15 ?a16 ?l16 ?c16 ?k16 ?a17 ?l17 ?c17 ?k17 ?a18 ?l18 ?c18 ?k18 ?a19 ?l19 ?c19 ?k19 ?a20 ?l20 ?c20 ?k20 ?a21 ?l21 ?c21 ?k21 ?a22 ?l22 ?c22 ?k22 ?a23 ?l23 ?c23 ?k23 ?a24 ?l24 ?c24 ?k24 ?a25 ?l25 ?c25 ?k25 ?a26 ?l26 ?c26 ?k26 ?a27 ?l27 ?c27 ?k27 ?a28 ?l28 ?c28 ?k28 ?h_no_limit
    (case z_len => k_is)
    (case z_abs => k_is)
    (case z_int => k_is)
    (case z_isinstance => k_is)
    (case z_list => k_is)
    (case z_tuple => k_is)
    (case z_bool => k_is)
    (case z_str => k_is)
    (case z_all => k_is)
    (case z_zip => k_is)
    (case z_range => k_is)
    (case gb_gcd => k_is)
    (case gi_LETTERS => k_is)
    (case gi_DIGITS => k_is)
    (case gi_MOST_LETTERS => k_is)
    (case gi_MOST_DIGITS => k_is)
    (case a1 => k_is)
    (case l1 => k_is)
    (case c1 => k_is)
    (case k1 => k_is)
    (case a2 => k_is)
    (case l2 => k_is)
    (case c2 => k_is)
    (case k2 => k_is)
    (case a3 => k_is)
    (case l3 => k_is)
    (case c3 => k_is)
    (case k3 => k_is)
    (case a4 => k_is)
    (case l4 => k_is)
    (case c4 => k_is)
    (case k4 => k_is)
    (case a5 => k_is)
    (case l5 => k_is)
    (case c5 => k_is)
    (case k5 => k_is)
    (case a6 => k_is)
    (case l6 => k_is)
    (case c6 => k_is)
    (case k6 => k_is)
    (case a7 => k_is)
    (case l7 => k_is)
    (case c7 => k_is)
    (case k7 => k_is)
    (case a8 => k_is)
    (case l8 => k_is)
    (case c8 => k_is)
    (case k8 => k_is)
    (case a9 => k_is)
    (case l9 => k_is)
    (case c9 => k_is)
    (case k9 => k_is)
    (case a10 => k_is)
    (case l10 => k_is)
    (case c10 => k_is)
    (case k10 => k_is)
    (case a11 => k_is)
    (case l11 => k_is)
    (case c11 => k_is)
    (case k11 => k_is)
    (case a12 => k_is)
    (case l12 => k_is)
    (case c12 => k_is)
    (case k12 => k_is)
    (case a13 => k_is)
    (case l13 => k_is)
    (case c13 => k_is)
    (case k13 => k_is)
    (case a14 => k_is)
    (case l14 => k_is)
    (case c14 => k_is)
    (case k14 => k_is)
    (case a15 => k_is)
    (case l15 => k_is)
    (case c15 => k_is)
    (case k15 => k_is)
    (case a16 => k_is)
    (case l16 => k_is)
    (case c16 => k_is)
    (case k16 => k_is)
    (case a17 => k_is)
    (case l17 => k_is)
    (case c17 => k_is)
    (case k17 => k_is)
    (case a18 => k_is)
    (case l18 => k_is)
    (case c18 => k_is)
    (case k18 => k_is)
    (case a19 => k_is)
    (case l19 => k_is)
    (case c19 => k_is)
    (case k19 => k_is)
    (case a20 => k_is)
    (case l20 => k_is)
    (case c20 => k_is)
    (case k20 => k_is)
    (case a21 => k_is)
    (case l21 => k_is)
    (case c21 => k_is)
    (case k21 => k_is)
    (case a22 => k_is)
    (case l22 => k_is)
    (case c22 => k_is)
    (case k22 => k_is)
    (case a23 => k_is)
    (case l23 => k_is)
    (case c23 => k_is)
    (case k23 => k_is)
    (case a24 => k_is)
    (case l24 => k_is)
    (case c24 => k_is)
    (case k24 => k_is)
    (case a25 => k_is)
    (case l25 => k_is)
    (case c25 => k_is)
    (case k25 => k_is)
    (case a26 => k_is)
    (case l26 => k_is)
    (case c26 => k_is)
    (case k26 => k_is)
    (case a27 => k_is)
    (case l27 => k_is)
    (case c27 => k_is)
    (case k27 => k_is)
    (case a28 => k_is)
    (case l28 => k_is)
    (case c28 => k_is)
    (case k28 => k_is)
    (case h_no_limit => first | rfl | k_is)
