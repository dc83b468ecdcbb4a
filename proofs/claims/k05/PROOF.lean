import PyProof.Rows.All
import Wide.All
import OpenK.AllK
import Wide.FinOn
import HandS.ForMost
import HandS.OwnEq
import HandS.SlotsOwn
import KE.KOpsOwn
import PyProof.ListMulAny
import PyProof.ConsumeWalk
import PyProof.WalksMore
import HandS.IsInst
import HandS.Wide
import HandS.Zip
import HandS.Defaults
import HandS.Walk
import KE.BitLaws
import KE.KCallOwn
import HandS.ClsMeth
import HandS.MakeKwOnly
import PyProof.InstEq
import KE.KFmtOwn
import HandS.List
import PyProof.WalkInts
import HandS.ForExc
import HandS.ExcInit
import HandS.ExcIs
import HandS.ExcField
import HandS.RevRange
import HandS.Conv
import HandS.SortInts
import PyProof.CollectIter
import PyProof.ListNew
import PyProof.FactsAll.range_iterator_1
import HandS.Iter
import KE.GoesEnum
import HandS.Sort
import HandS.Ends
import HandS.Gcd
import HandS.Property
import HandS.WideBits
import KE.GoesZip
import HandS.Dict
import PySem.Challenge.RW_turnsleft_k05_matrices_reckoned
set_option Elab.async false
set_option linter.all false
set_option maxRecDepth 100000
namespace TL
open PySem PySem.Spec PyProof.Rows L2
section
variable {X : Cx} {pins : List (Addr × Obj)} {σ : L2.St} {H : Hp} {s : Shared} {a b C dx dy f : Addr} {fs gs : List (Str × V)} {k : Nat} {fd : FuncData} {ps : List Str} {sp : Sp} {CX : CXT} {E : XK}
theorem inst_at (I : Inv X pins σ H s) (h : H a = some (.ins C dx fs)) : ∃ od, PySem.W.InstAt s.heap a (PySem.W.instObj C dx) C (some od) := by
  obtain ⟨mA, J, _⟩ := ins_get I.hok h
  obtain ⟨od, J, _⟩ := J.look
  exact ⟨od, J⟩
/-- what an own operator's def asks: the def that stands at f in the class at C under a name -/
structure OpAt (K : PySem.W.Frag) (C f : Addr) (name : Str) : Prop where
  sf : PySem.W.selfFirst K C = true
  at_ : PySem.W.findIn K (.ref C) name = some (some (.ref f))
  fn : PySem.W.isFn K (.ref f) = true
/-- x op y, both instances of the class at C -/
def rOw (C : Addr) (sp : Sp) (E : XK) : R2 := fun x y H Q => ∃ a dx fs b dy gs, x = .ref a ∧ y = .ref b ∧ H a = some (.ins C dx fs) ∧ H b = some (.ins C dy gs) ∧ sp [x, y] H Q E
theorem cb {P : Value → Shared → Prop} {z : V} {v : Value} {s' : Shared} (r : RelV z v) (h : P v s') : PySem.W.CmpBack P v s' := by
  cases z with
  | non => cases (show v = Value.none from r); exact h
  | bl b => cases (show v = Value.bool b from r); exact h
  | int i => obtain ⟨t, e⟩ := (show ∃ t, v = Value.int i t from r); cases e; exact h
  | str x => obtain ⟨t, e⟩ := (show ∃ t, v = Value.str x t from r); cases e; exact h
  | byt b => obtain ⟨t, e⟩ := (show ∃ t, v = Value.bytes b t from r); cases e; exact h
  | flt b => obtain ⟨t, e⟩ := (show ∃ t, v = Value.float b t from r); cases e; exact h
  | ref a => cases (show v = Value.ref a from r); exact h
  | ty n => cases (show v = Value.type n from r); exact h
theorem op_ow {op : Operator} (o : OpAt X.K C f (PySem.dunder op.info.2)) (F : FnOk X.prog X.w X.K X.mg X.base CX k f fd ps sp) (hr : Room k X.A) (hb : Binds X.K fd ps []) (hx : Passes CX X E) : OpR X (binaryOp op) (rOw C sp E) := by
  intro pins s σ H x y v u Q I rx ry h
  obtain ⟨a, dx, fs, b, dy, gs, rfl, rfl, ha, hb', q⟩ := h
  cases (show v = Value.ref a from rx)
  cases (show u = Value.ref b from ry)
  obtain ⟨od, J⟩ := inst_at I ha
  obtain ⟨od', J'⟩ := inst_at I hb'
  obtain ⟨m, hF⟩ := I.fr
  refine PySem.W.binop_K hF I.ok.mod.kin J J'.type o.sf o.at_ o.fn ?_
  refine wpAny_mono (run_fn (us := [.ref a, .ref b]) (vs := [.ref a, .ref b]) F hr hb .nil hx I (.cons rfl (.cons rfl .nil)) q) (fun w s' z => ?_) fun _ _ x => x
  obtain ⟨z', H', I', rz, qz⟩ := z
  exact cb rz ⟨z', H', I', rz, qz⟩
/-- x op n, x an instance of the class at C, n a whole number -/
def rOwI (C : Addr) (sp : Sp) (E : XK) : R2 := fun x y H Q => ∃ a dx fs n, x = .ref a ∧ y = .int n ∧ H a = some (.ins C dx fs) ∧ sp [x, y] H Q E
theorem op_owI {op : Operator} {g : Addr} {fo ro : Option Value} (o : OpAt X.K C f (PySem.dunder op.info.2)) (hr1 : PySem.W.findIn X.K (.ref C) (PySem.dunderR op.info.2) = some (some (.ref g)))
    (h1 : PySem.W.findIn X.K (.type "int") (PySem.dunder op.info.2) = some fo) (h2 : PySem.W.findIn X.K (.type "int") (PySem.dunderR op.info.2) = some ro) (hsub : PySem.W.subIn X.K (.type "int") (.ref C) = some false)
    (F : FnOk X.prog X.w X.K X.mg X.base CX k f fd ps sp) (hr : Room k X.A) (hb : Binds X.K fd ps []) (hx : Passes CX X E) : OpR X (binaryOp op) (rOwI C sp E) := by
  intro pins s σ H x y v u Q I rx ry h
  obtain ⟨a, dx, fs, n, rfl, rfl, ha, q⟩ := h
  cases (show v = Value.ref a from rx)
  obtain ⟨t, rfl⟩ := (show ∃ t, u = Value.int n t from ry)
  obtain ⟨od, J⟩ := inst_at I ha
  obtain ⟨m, hF⟩ := I.fr
  refine PySem.W.ksp_binT (T := "int") hF I.ok.mod.kin J rfl o.sf o.at_ o.fn hr1 (.inr ⟨_, rfl⟩) h1 h2 hsub ?_
  refine wpAny_mono (run_fn (us := [.ref a, .int n t]) (vs := [.ref a, .int n]) F hr hb .nil hx I (.cons rfl (.cons ⟨_, rfl⟩ .nil)) q) (fun w s' z => ?_) fun _ _ x => x
  obtain ⟨z', H', I', rz, qz⟩ := z
  exact cb rz ⟨z', H', I', rz, qz⟩
/-- -x -/
def rNeg (C : Addr) (sp : Sp) (E : XK) : V → Hp → VK → Prop := fun x H Q => ∃ a dx fs, x = .ref a ∧ H a = some (.ins C dx fs) ∧ sp [x] H Q E
theorem un_ow (at_ : PySem.W.findIn X.K (.ref C) "__neg__" = some (some (.ref f))) (fn : PySem.W.isFn X.K (.ref f) = true) (F : FnOk X.prog X.w X.K X.mg X.base CX k f fd ps sp) (hr : Room k X.A) (hb : Binds X.K fd ps []) (hx : Passes CX X E) :
    UnR X (unaryOp .USub) (rNeg C sp E) := by
  intro pins s σ H x v Q I rx h
  obtain ⟨a, dx, fs, rfl, ha, q⟩ := h
  cases (show v = Value.ref a from rx)
  obtain ⟨od, J⟩ := inst_at I ha
  obtain ⟨m, hF⟩ := I.fr
  refine PySem.W.ksp_neg hF I.ok.mod.kin J at_ fn ?_
  exact run_fn (us := [.ref a]) (vs := [.ref a]) F hr hb .nil hx I (.cons rfl .nil) q
/-- x == y, both instances of the class at C -/
theorem op_owEq (at_ : PySem.W.findIn X.K (.ref C) "__eq__" = some (some (.ref f))) (fn : PySem.W.isFn X.K (.ref f) = true) (F : FnOk X.prog X.w X.K X.mg X.base CX k f fd ps sp) (hr : Room k X.A) (hb : Binds X.K fd ps []) (hx : Passes CX X E) :
    OpR X (compareOp .Eq) (rOw C sp E) := by
  intro pins s σ H x y v u Q I rx ry h
  obtain ⟨a, dx, fs, b, dy, gs, rfl, rfl, ha, hb', q⟩ := h
  cases (show v = Value.ref a from rx)
  cases (show u = Value.ref b from ry)
  obtain ⟨od, J⟩ := inst_at I ha
  obtain ⟨od', J'⟩ := inst_at I hb'
  obtain ⟨m, hF⟩ := I.fr
  refine PySem.W.cmp_K (op := .Eq) (tb := .ref C) hr.units0 hF I.ok.mod.kin J J'.type (by simp [PySem.W.notFirst]) at_ fn ?_
  refine wpAny_mono (run_fn (us := [.ref a, .ref b]) (vs := [.ref a, .ref b]) F hr hb .nil hx I (.cons rfl (.cons rfl .nil)) q) (fun w s' z => ?_) fun _ _ x => x
  obtain ⟨z', H', I', rz, qz⟩ := z
  exact cb rz ⟨z', H', I', rz, qz⟩
/-- any(t), t a tuple of whole numbers -/
theorem iter_anyT {prog : Program} {w : World} {A : Around} {E : Value → Shared → Prop} {s : Shared} {l : Addr} {items : Array Value} {Q : Value → Shared → Prop} (hl : s.heap.IsTuple l items)
    (h : ∀ s₂ : Shared, s₂ = { s with heap := s.heap.push { cls := .type "tuple_iterator", data := .fields #[.ref l, .int 0 0] } } →
      (s₂.heap.IsTupleIter s.heap.objs.size l 0 ∧ s₂.heap.IsTuple l items) → l ≠ s.heap.objs.size → Q (.ref s.heap.objs.size) s₂) : wpAny (model prog w) A (pyIter (.ref l)) Q E s := by
  have hlt : l < s.heap.objs.size := by obtain ⟨_, e, _⟩ := hl; exact Heap.lt_size e
  exact wpAny_pyIter_tuple hl (h _ rfl ⟨⟨_, Heap.get?_push_size _ rfl, rfl, rfl⟩, hl.push _⟩ (Nat.ne_of_lt hlt))
theorem truth_ints {prog : Program} {w : World} {A : Around} {ns : List Int} {its : List Value} (e : Vals (ns.map V.int) its) :
    TruthOf prog w A (fun i v => its.toArray[i]? = some v) (fun i => ns.getD i 0 != 0) := fun i v s Q E hv hq => by
  have hv' : its[i]? = some v := by simpa using hv
  have hl := e.length
  rw [List.length_map] at hl
  have hi : i < its.length := (List.getElem?_eq_some_iff.mp hv').1
  have hi2 : i < ns.length := by omega
  obtain ⟨u, hu, ru⟩ := e.get (i := i) (x := V.int ns[i]) (by rw [List.getElem?_map, List.getElem?_eq_getElem hi2]; rfl)
  rw [hv'] at hu
  cases hu
  obtain ⟨t, rfl⟩ := ru
  have hg : ns.getD i 0 = ns[i] := by rw [List.getD_eq_getElem?_getD, List.getElem?_eq_getElem hi2]; rfl
  have hq' : Q (ns.getD i 0 != 0) s := hq
  rw [hg] at hq'
  exact PyProof.Rows.truthy_int hq'
theorem any_rangeI : ∀ ns : List Int, (List.range ns.length).any (fun i => ns.getD i 0 != 0) = ns.any (fun n => n != 0)
  | [] => rfl
  | b :: bs => by
    rw [List.length_cons, List.range_succ_eq_map, List.any_cons, List.any_map, List.any_cons, ← any_rangeI bs]
    all_goals rfl
def rAnyT (K : PySem.W.Frag) : List V → Hp → VK → Prop := fun vs H Q => ∃ (a : Addr) (ns : List Int), vs = [V.ref a] ∧ SqT K H a (ns.map V.int) ∧ Q (.bl (ns.any fun n => n != 0)) H
theorem cr_anyT (hc : X.calm = true) : CallR X (.builtin "any") (rAnyT X.K) := by
  intro pins s σ H vs us Q I r h
  obtain ⟨a, ns, rfl, hs, q⟩ := h
  obtain ⟨its, rv, hl, _⟩ := I.tuple hs
  rw [Vals.ref1 r]
  have hlen := rv.length
  rw [List.length_map] at hlen
  refine call_any_walk (iter_anyT (items := its.toArray) (show s.heap.IsTuple a its.toArray from hl) fun s₂ e2 st hne => ?_)
  subst e2
  refine ⟨_, _, _, _, _, _, _, rfl, Walks.tuple (A := X.A.in1) (I.ok.hd hc) _ a hne its.toArray, st, truth_ints rv, fun h' tk hk => ?_⟩
  refine ⟨.bl _, H, I.kept fun b o eo => hk b o (fun hmem => ?_) (Heap.get?_push_of_some _ eo), ?_, q⟩
  · rcases List.mem_cons.mp hmem with e1 | hmem
    · exact absurd (e1 ▸ Heap.lt_size eo) (Nat.lt_irrefl _)
    · cases hmem
  · show Value.bool _ = Value.bool _
    rw [← any_rangeI, List.size_toArray, ← hlen]
/-- bool(x), x an instance with its own __bool__ -/
theorem truthy_X {M : Model} {A : Around} {E' : Value → Shared → Prop} {s : Shared} {K : PySem.W.Frag} {x C f : Addr} {ox : Obj} {od : Option Obj} {Q : Bool → Shared → Prop} (X₀ : K.In s.heap) (I : PySem.W.InstAt s.heap x ox C od) (hs : PySem.W.findIn K (.ref C) "__bool__" = some (some (.ref f))) (hf : PySem.W.isFn K (.ref f) = true)
    (h : wpAny M A (call (.ref f) [.ref x]) (fun r s' => ∃ b, r = Value.bool b ∧ Q b s') E' s) : wpAny M A (truthy (.ref x)) Q E' s := by
  unfold truthy
  refine wpAny_bind (m := callSpecial? (.ref x) (Str.ofString "__bool__")) (PySem.W.special_fn X₀ I hs (beq_iff_eq.mp hf) (wpAny_mono h (fun r s' hr => ?_) fun _ _ y => y))
  obtain ⟨b, rfl, hr⟩ := hr
  exact wpAny_pure hr
theorem bool_own {prog : Program} {w : World} {A : Around} {E' : Value → Shared → Prop} {s : Shared} {K : PySem.W.Frag} {x C f : Addr} {ox : Obj} {od : Option Obj} {Q : Value → Shared → Prop} (X₀ : K.In s.heap) (I : PySem.W.InstAt s.heap x ox C od) (hs : PySem.W.findIn K (.ref C) "__bool__" = some (some (.ref f))) (hf : PySem.W.isFn K (.ref f) = true)
    (h : wpAny (model prog w) A.in1.in1 (call (.ref f) [.ref x]) (fun r s' => ∃ b, r = Value.bool b ∧ Q r s') E' s) : wpAny (model prog w) A (call (.type "bool") [.ref x]) Q E' s := by
  refine callType_codes (T := "bool") (Bi := Builtin.«object.__init__») (Q₁ := fun r s₁ => ∃ b, r = Value.bool b ∧ Q r s₁) PySem.F.called_bool (PySem.F.typeCall_bool_1 _) PySem.F.entry_object_init ?_ ?_
  · refine codeAny_of_tree ?_
    show wpAny _ A.in1.in1 (do checkBuiltinCall "bool.__new__" ⟨[.type "bool", .ref x], []⟩; again (.builtin "bool.__new__" ⟨[.type "bool", .ref x], []⟩)) _ _ s
    refine wpAny_bind (wpAny_of_eq (PySem.F.newCall_bool_1 _) (wpAny_pure ⟨plainId_quiet (by decide +kernel) _, codeAny_builtin PySem.F.entry_bool_new ?_⟩))
    rw [Around.under_plainId (by decide +kernel) _]
    unfold Builtin.«bool.__new__»
    refine wpAny_bind (wpAny_of_eq (a := true) rfl ?_)
    refine PySem.W.KFB.if_not rfl ?_
    refine wpAny_bind (wpAny_of_eq (a := true) PySem.F.conv_sub_bool ?_)
    refine PySem.W.KFB.if_not rfl ?_
    refine wpAny_bind (wpAny_of_eq (a := [Value.ref x]) rfl ?_)
    refine wpAny_bind (truthy_X X₀ I hs hf (wpAny_mono h (fun r s₁ hr => ?_) fun _ _ y => y))
    obtain ⟨b, rfl, hq⟩ := hr
    exact ⟨b, rfl, wpAny_pure ⟨b, rfl, hq⟩⟩
  · rintro obj s₁ ⟨b, rfl, hq⟩
    exact ⟨PySem.typeIs_bool _ _, PySem.F.args_object_init_2 _ _, object_init_meets PySem.F.called_bool.init.lookup PySem.F.called_bool.made (by decide) prog w A.in1 _ s₁ ⟨PySem.typeIs_bool _ _, rfl, hq⟩⟩
def rBoolOw (C : Addr) (sp : Sp) (E : XK) : List V → Hp → VK → Prop := fun vs H Q => ∃ a dx fs, vs = [.ref a] ∧ H a = some (.ins C dx fs) ∧ sp [.ref a] H (fun v H' => ∃ b, v = .bl b ∧ Q v H') E
theorem run_at2 {A : Around} {Q : VK} {us : List Value} {ws : List V} (F : FnOk X.prog X.w X.K X.mg X.base CX k f fd ps sp) (hr : Room k A) (e0 : Env0 X.prog X.w X.K X.mg X.base A X.stack s H) (hb : Binds X.K fd ps []) (hx : Passes CX X E) (I : Inv X pins σ H s) (r : Vals ws us) (h : sp ws H Q E) :
    wpAny (model X.prog X.w) A (call (.ref f) us) (EP X pins σ Q) X.xe s := by
  have hl : us.length = ps.length := by rw [← r.length]; exact F.len _ _ _ _ h
  refine wpAny_call (codeAny_mono (F.run A X.stack s H ⟨us, []⟩ us ws Q E hr e0 (by have := hb s us I.kIn (by simpa using hl); simpa using this) r h) fun r s' hq => ?_)
  cases r with
  | error e => exact hx pins σ H s e s' I hq
  | ok fl =>
    cases fl with
    | ret u => exact I.after hq
    | next => exact False.elim hq
    | brk => exact False.elim hq
    | cont => exact False.elim hq
theorem call_boolOw (at_ : PySem.W.findIn X.K (.ref C) "__bool__" = some (some (.ref f))) (fn : PySem.W.isFn X.K (.ref f) = true) (F : FnOk X.prog X.w X.K X.mg X.base CX k f fd ps sp) (hr : Room (k + 2) X.A) (hb : Binds X.K fd ps []) (hx : Passes CX X E) :
    CallR X (.type "bool") (rBoolOw C sp E) := by
  intro pins s σ H vs us Q I r h
  obtain ⟨a, dx, fs, rfl, ha, q⟩ := h
  obtain rfl := Vals.ref1 r
  obtain ⟨od, J⟩ := inst_at I ha
  have hr2 : Room k X.A.in1.in1 := (show Room (k + 1) X.A.in1 from Room.in1 hr).in1
  refine bool_own I.kIn J at_ fn (wpAny_mono (run_at2 (us := [.ref a]) (ws := [.ref a]) F hr2 I.env0.in1.in1 hb hx I (.cons rfl .nil) q) (fun w s' z => ?_) fun _ _ x => x)
  obtain ⟨z', H', I', rz, b, rfl, qz⟩ := z
  cases (show w = Value.bool b from rz)
  exact ⟨b, rfl, .bl b, H', I', rfl, qz⟩
/-- n op x, n a whole number, x an instance of the class at C with the reflected def -/
theorem int_mul_ref (a : Int) (t : Tok) (x C dx : Addr) :
    Meets (Builtin.«int.__mul__» ⟨[.int a t, .ref x], []⟩) (fun _ R s => (∃ od, s.heap.get? x = some (PySem.W.instObj C dx) ∧ od = dx) ∧ R (.ok (.ret Value.notImplemented)) s) :=
  .of_wp fun prog w A R s h => by obtain ⟨hp, g, d, tk, os⟩ := s; obtain ⟨⟨_, hl, _⟩, h⟩ := h; wp_walk; exact ⟨_, rfl, h⟩
def rIOw (C : Addr) (sp : Sp) (E : XK) : R2 := fun x y H Q => ∃ a dx fs n, x = .int n ∧ y = .ref a ∧ H a = some (.ins C dx fs) ∧ sp [y, x] H Q E
set_option maxHeartbeats 2000000 in
theorem binR {prog : Program} {w : World} {A : Around} {E' : Value → Shared → Prop} {s : Shared} {K : PySem.W.Frag} {x C f g : Addr} {dx : Addr} {od : Option Obj} {n : Int} {t : Tok} {Q : Value → Shared → Prop}
    (X : K.In s.heap) (I : PySem.W.InstAt s.heap x (PySem.W.instObj C dx) C od) (hc : PySem.W.selfFirst K C = true) (hs : PySem.W.findIn K (.ref C) (PySem.dunder "mul") = some (some (.ref g)))
    (hr : PySem.W.findIn K (.ref C) (PySem.dunderR "mul") = some (some (.ref f))) (hf : PySem.W.isFn K (.ref f) = true) (hsub : PySem.W.subIn K (.ref C) (.type "int") = some false) (hx : s.heap.get? x = some (PySem.W.instObj C dx))
    (h : wpAny (model prog w) A (call (.ref f) [.ref x, .int n t]) (PySem.W.CmpBack Q) E' s) : wpAny (model prog w) A (binaryOp .Mult (.int n t) (.ref x)) Q E' s := by
  obtain ⟨cd, rest, hcd, hm⟩ := PySem.W.ksp_first hc
  have one := PySem.W.ksp_try (name := PySem.dunderR "mul") X I hr hf h
  obtain ⟨hh, gg, d, tt, os⟩ := s
  have L1 : PySem.W.Looks (model prog w) hh (typeOf (.ref x)) (.ref C) := I.type
  have L2 : PySem.W.Looks (model prog w) hh (typeOf (.int n t)) (.type "int") := PySem.W.Looks.of_pure rfl
  have L3 : PySem.W.Looks (model prog w) hh (fillsNumberSlot (.ref C) "mul") true := PySem.W.fills_K (nm := "mul") X hcd hm hs
  have L4 : PySem.W.Looks (model prog w) hh (fillsNumberSlot (.type "int") "mul") true := PySem.W.Looks.of_pure PySem.F.fills_int_mul
  have L5 : PySem.W.Looks (model prog w) hh (isSubtype (.ref C) (.type "int")) false := PySem.W.looks_subIn X hsub
  have L7 : PySem.W.Looks (model prog w) hh (numberSlotInPython (.type "int") "mul") false := PySem.W.Looks.of_pure rfl
  have hne : (Value.type "int" == Value.ref C) = false := Bool.eq_false_iff.mpr fun q => by cases beq_iff_eq.mp q
  show wpAny _ _ (binaryOp .Mult (.int n t) (.ref x)) _ _ _
  simp only [binaryOp, Operator.info]
  refine wpAny_holding (wpAny_bind ?_)
  unfold binaryOp1
  refine wpAny_bind (L2.at (wpAny_bind (L1.at (wpAny_bind (L4.at ?_)))))
  simp only [hne, Bool.false_eq_true, if_false]
  refine wpAny_bind (L3.at ?_)
  simp only [Bool.and_self, if_true]
  refine wpAny_bind (L5.at ?_)
  simp only [Bool.false_eq_true, if_false, Bool.not_false, Bool.and_self, if_true, pure_bind]
  refine wpAny_bind (L7.at ?_)
  simp only [Bool.false_eq_true, if_false, pure_bind]
  refine wpAny_bind (wpAny_tryMethod_declines (PySem.typeIs_int _ n t) PySem.F.slot_int_mul (call_meets PySem.F.slot_int_mul (PySem.typeIs_int _ n t) PySem.F.entry_int_mul (PySem.F.args_int_mul_2 _ _) (int_mul_ref n t x C dx) ⟨⟨dx, hx, rfl⟩, rfl, ?_⟩))
  simp only [Bool.false_eq_true, if_false, pure_bind]
  refine wpAny_bind (wpAny_mono one (fun r s' hr' => ?_) fun _ _ e => e)
  obtain ⟨v, rfl, hq⟩ := hr'
  exact wpAny_bind (wpAny_rule (wpAny_pure (wpAny_pure hq)))
theorem op_IOw (o : OpAt X.K C f (PySem.dunderR "mul")) {g : Addr} (hm : PySem.W.findIn X.K (.ref C) (PySem.dunder "mul") = some (some (.ref g))) (hsub : PySem.W.subIn X.K (.ref C) (.type "int") = some false)
    (F : FnOk X.prog X.w X.K X.mg X.base CX k f fd ps sp) (hr : Room k X.A) (hb : Binds X.K fd ps []) (hx : Passes CX X E) : OpR X (binaryOp .Mult) (rIOw C sp E) := by
  intro pins s σ H x y v u Q I rx ry h
  obtain ⟨a, dx, fs, n, rfl, rfl, ha, q⟩ := h
  obtain ⟨t, rfl⟩ := (show ∃ t, v = Value.int n t from rx)
  cases (show u = Value.ref a from ry)
  obtain ⟨mA, O, _⟩ := ins_get I.hok ha
  obtain ⟨od, J, _⟩ := O.look
  refine binR I.kIn J o.sf hm o.at_ o.fn hsub O.obj ?_
  refine wpAny_mono (run_fn (us := [.ref a, .int n t]) (vs := [.ref a, .int n]) F hr hb .nil hx I (.cons rfl (.cons ⟨_, rfl⟩ .nil)) q) (fun w s' z => ?_) fun _ _ x => x
  obtain ⟨z', H', I', rz, qz⟩ := z
  exact cb rz ⟨z', H', I', rz, qz⟩
end
theorem d_add : PySem.dunder Operator.Add.info.2 = ("__add__" : Str) := by decide +kernel
theorem d_sub : PySem.dunder Operator.Sub.info.2 = ("__sub__" : Str) := by decide +kernel
theorem d_mul : PySem.dunder Operator.Mult.info.2 = ("__mul__" : Str) := by decide +kernel
theorem d_mul' : PySem.dunder "mul" = ("__mul__" : Str) := by decide +kernel
theorem d_rmul : PySem.dunderR Operator.Mult.info.2 = ("__rmul__" : Str) := by decide +kernel
theorem d_rmul' : PySem.dunderR "mul" = ("__rmul__" : Str) := by decide +kernel
end TL
namespace TL
open PySem L2
/-! ### heaps -/
theorem Same.new {H : Hp} {p : Addr} {o : HO} (h : H p = none) : Same H (upd H p o) := fun b u q => by rw [upd_ne (ne_of_none q h)]; exact q
theorem seqT {K : PySem.W.Frag} {H H' : Hp} {a : Addr} {xs : List V} (e : Same H H') (h : SqT K H a xs) : SqT K H' a xs := by
  rcases h with (h | ⟨o, h⟩) | h
  · exact .inl (.inl (e _ _ h))
  · exact .inl (.inr ⟨o, e _ _ h⟩)
  · exact .inr h
/-- but for what stands at g, all that was tracked is as it was -/
def Kb (g : Addr) (H H' : Hp) : Prop := ∀ a o, H a = some o → a ≠ g → H' a = some o
theorem Kb.refl (g : Addr) (H : Hp) : Kb g H H := fun _ _ h _ => h
theorem Kb.trans {g : Addr} {H H1 H2 : Hp} (a : Kb g H H1) (b : Kb g H1 H2) : Kb g H H2 := fun c o h n => b c o (a c o h n) n
theorem Kb.same {g : Addr} {H H' : Hp} (a : Same H H') : Kb g H H' := fun c o h _ => a c o h
theorem Kb.at {g : Addr} {H : Hp} {o : HO} : Kb g H (upd H g o) := fun c u h n => by rw [upd_ne n]; exact h
theorem Kb.new {g p : Addr} {H H' : Hp} {o : HO} (a : Kb g H H') (h : H' p = none) : Kb g H (upd H' p o) := a.trans (Kb.same (Same.new h))
theorem tyx_L {K : PySem.W.Frag} {H : Hp} {a : Addr} {xs : List V} (h : SqL K H a xs) : TyX K H (.ref a) (.type "list") := by
  rcases h with (h | ⟨o, h⟩) | ⟨o, its, n, h, c, _⟩
  · exact .base (.lst h)
  · exact .base (.frz h)
  · exact .kList h c
theorem tyx_T {K : PySem.W.Frag} {H : Hp} {a : Addr} {xs : List V} (h : SqT K H a xs) : TyX K H (.ref a) (.type "tuple") := by
  rcases h with (h | ⟨o, h⟩) | ⟨o, its, n, h, c, _⟩
  · exact .base (.tup h)
  · exact .fTuple h
  · exact .kTuple h c
theorem fm {i j : Int} (h : 0 < j) : 0 ≤ i.fmod j ∧ i.fmod j < j := ⟨Int.fmod_nonneg_of_pos _ h, Int.fmod_lt_of_pos _ h⟩
theorem kt_int_list {K : PySem.W.Frag} : PySem.W.kitOne K (.type "int") (.type "list") = some false := kit_ty (by decide +kernel)
theorem kt_int_tuple {K : PySem.W.Frag} : PySem.W.kitOne K (.type "int") (.type "tuple") = some false := kit_ty (by decide +kernel)
theorem kt_int_bool {K : PySem.W.Frag} : PySem.W.kitOne K (.type "int") (.type "bool") = some false := kit_ty (by decide +kernel)
theorem kt_int_int {K : PySem.W.Frag} : PySem.W.kitOne K (.type "int") (.type "int") = some true := kit_ty (by decide +kernel)
theorem kt_int_str {K : PySem.W.Frag} : PySem.W.kitOne K (.type "int") (.type "str") = some false := kit_ty (by decide +kernel)
theorem kt_int_dict {K : PySem.W.Frag} : PySem.W.kitOne K (.type "int") (.type "dict") = some false := kit_ty (by decide +kernel)
theorem kt_bool_list {K : PySem.W.Frag} : PySem.W.kitOne K (.type "bool") (.type "list") = some false := kit_ty (by decide +kernel)
theorem kt_bool_tuple {K : PySem.W.Frag} : PySem.W.kitOne K (.type "bool") (.type "tuple") = some false := kit_ty (by decide +kernel)
theorem kt_bool_bool {K : PySem.W.Frag} : PySem.W.kitOne K (.type "bool") (.type "bool") = some true := kit_ty (by decide +kernel)
theorem kt_bool_int {K : PySem.W.Frag} : PySem.W.kitOne K (.type "bool") (.type "int") = some true := kit_ty (by decide +kernel)
theorem kt_bool_str {K : PySem.W.Frag} : PySem.W.kitOne K (.type "bool") (.type "str") = some false := kit_ty (by decide +kernel)
theorem kt_bool_dict {K : PySem.W.Frag} : PySem.W.kitOne K (.type "bool") (.type "dict") = some false := kit_ty (by decide +kernel)
theorem kt_str_list {K : PySem.W.Frag} : PySem.W.kitOne K (.type "str") (.type "list") = some false := kit_ty (by decide +kernel)
theorem kt_str_tuple {K : PySem.W.Frag} : PySem.W.kitOne K (.type "str") (.type "tuple") = some false := kit_ty (by decide +kernel)
theorem kt_str_bool {K : PySem.W.Frag} : PySem.W.kitOne K (.type "str") (.type "bool") = some false := kit_ty (by decide +kernel)
theorem kt_str_int {K : PySem.W.Frag} : PySem.W.kitOne K (.type "str") (.type "int") = some false := kit_ty (by decide +kernel)
theorem kt_str_str {K : PySem.W.Frag} : PySem.W.kitOne K (.type "str") (.type "str") = some true := kit_ty (by decide +kernel)
theorem kt_str_dict {K : PySem.W.Frag} : PySem.W.kitOne K (.type "str") (.type "dict") = some false := kit_ty (by decide +kernel)
theorem kt_NoneType_list {K : PySem.W.Frag} : PySem.W.kitOne K (.type "NoneType") (.type "list") = some false := kit_ty (by decide +kernel)
theorem kt_NoneType_tuple {K : PySem.W.Frag} : PySem.W.kitOne K (.type "NoneType") (.type "tuple") = some false := kit_ty (by decide +kernel)
theorem kt_NoneType_bool {K : PySem.W.Frag} : PySem.W.kitOne K (.type "NoneType") (.type "bool") = some false := kit_ty (by decide +kernel)
theorem kt_NoneType_int {K : PySem.W.Frag} : PySem.W.kitOne K (.type "NoneType") (.type "int") = some false := kit_ty (by decide +kernel)
theorem kt_NoneType_str {K : PySem.W.Frag} : PySem.W.kitOne K (.type "NoneType") (.type "str") = some false := kit_ty (by decide +kernel)
theorem kt_NoneType_dict {K : PySem.W.Frag} : PySem.W.kitOne K (.type "NoneType") (.type "dict") = some false := kit_ty (by decide +kernel)
theorem kt_list_list {K : PySem.W.Frag} : PySem.W.kitOne K (.type "list") (.type "list") = some true := kit_ty (by decide +kernel)
theorem kt_list_tuple {K : PySem.W.Frag} : PySem.W.kitOne K (.type "list") (.type "tuple") = some false := kit_ty (by decide +kernel)
theorem kt_list_bool {K : PySem.W.Frag} : PySem.W.kitOne K (.type "list") (.type "bool") = some false := kit_ty (by decide +kernel)
theorem kt_list_int {K : PySem.W.Frag} : PySem.W.kitOne K (.type "list") (.type "int") = some false := kit_ty (by decide +kernel)
theorem kt_list_str {K : PySem.W.Frag} : PySem.W.kitOne K (.type "list") (.type "str") = some false := kit_ty (by decide +kernel)
theorem kt_list_dict {K : PySem.W.Frag} : PySem.W.kitOne K (.type "list") (.type "dict") = some false := kit_ty (by decide +kernel)
theorem kt_tuple_list {K : PySem.W.Frag} : PySem.W.kitOne K (.type "tuple") (.type "list") = some false := kit_ty (by decide +kernel)
theorem kt_tuple_tuple {K : PySem.W.Frag} : PySem.W.kitOne K (.type "tuple") (.type "tuple") = some true := kit_ty (by decide +kernel)
theorem kt_tuple_bool {K : PySem.W.Frag} : PySem.W.kitOne K (.type "tuple") (.type "bool") = some false := kit_ty (by decide +kernel)
theorem kt_tuple_int {K : PySem.W.Frag} : PySem.W.kitOne K (.type "tuple") (.type "int") = some false := kit_ty (by decide +kernel)
theorem kt_tuple_str {K : PySem.W.Frag} : PySem.W.kitOne K (.type "tuple") (.type "str") = some false := kit_ty (by decide +kernel)
theorem kt_tuple_dict {K : PySem.W.Frag} : PySem.W.kitOne K (.type "tuple") (.type "dict") = some false := kit_ty (by decide +kernel)
theorem rIsi_mk {K : PySem.W.Frag} {H : Hp} {Q : VK} {x c : V} {t u : Value} {b : Bool} (ty : TyX K H x t) (cl : ClsV c u) (e : PySem.W.kitOne K t u = some b) (q : Q (.bl b) H) : rIsi K [x, c] H Q := ⟨x, c, t, u, b, rfl, cl, ty, e, q⟩
theorem ri_int_list {K : PySem.W.Frag} {H : Hp} {Q : VK} {i : Int} (q : Q (.bl false) H) : rIsi K [.int i, .ty "list"] H Q := rIsi_mk (TyX.base (TyOf.int _)) (ClsV.ty _) kt_int_list q
theorem ri_int_tuple {K : PySem.W.Frag} {H : Hp} {Q : VK} {i : Int} (q : Q (.bl false) H) : rIsi K [.int i, .ty "tuple"] H Q := rIsi_mk (TyX.base (TyOf.int _)) (ClsV.ty _) kt_int_tuple q
theorem ri_int_bool {K : PySem.W.Frag} {H : Hp} {Q : VK} {i : Int} (q : Q (.bl false) H) : rIsi K [.int i, .ty "bool"] H Q := rIsi_mk (TyX.base (TyOf.int _)) (ClsV.ty _) kt_int_bool q
theorem ri_int_int {K : PySem.W.Frag} {H : Hp} {Q : VK} {i : Int} (q : Q (.bl true) H) : rIsi K [.int i, .ty "int"] H Q := rIsi_mk (TyX.base (TyOf.int _)) (ClsV.ty _) kt_int_int q
theorem ri_int_str {K : PySem.W.Frag} {H : Hp} {Q : VK} {i : Int} (q : Q (.bl false) H) : rIsi K [.int i, .ty "str"] H Q := rIsi_mk (TyX.base (TyOf.int _)) (ClsV.ty _) kt_int_str q
theorem ri_int_dict {K : PySem.W.Frag} {H : Hp} {Q : VK} {i : Int} (q : Q (.bl false) H) : rIsi K [.int i, .ty "dict"] H Q := rIsi_mk (TyX.base (TyOf.int _)) (ClsV.ty _) kt_int_dict q
theorem ri_bool_list {K : PySem.W.Frag} {H : Hp} {Q : VK} {c : Bool} (q : Q (.bl false) H) : rIsi K [.bl c, .ty "list"] H Q := rIsi_mk (TyX.base (TyOf.bl _)) (ClsV.ty _) kt_bool_list q
theorem ri_bool_tuple {K : PySem.W.Frag} {H : Hp} {Q : VK} {c : Bool} (q : Q (.bl false) H) : rIsi K [.bl c, .ty "tuple"] H Q := rIsi_mk (TyX.base (TyOf.bl _)) (ClsV.ty _) kt_bool_tuple q
theorem ri_bool_bool {K : PySem.W.Frag} {H : Hp} {Q : VK} {c : Bool} (q : Q (.bl true) H) : rIsi K [.bl c, .ty "bool"] H Q := rIsi_mk (TyX.base (TyOf.bl _)) (ClsV.ty _) kt_bool_bool q
theorem ri_bool_int {K : PySem.W.Frag} {H : Hp} {Q : VK} {c : Bool} (q : Q (.bl true) H) : rIsi K [.bl c, .ty "int"] H Q := rIsi_mk (TyX.base (TyOf.bl _)) (ClsV.ty _) kt_bool_int q
theorem ri_bool_str {K : PySem.W.Frag} {H : Hp} {Q : VK} {c : Bool} (q : Q (.bl false) H) : rIsi K [.bl c, .ty "str"] H Q := rIsi_mk (TyX.base (TyOf.bl _)) (ClsV.ty _) kt_bool_str q
theorem ri_bool_dict {K : PySem.W.Frag} {H : Hp} {Q : VK} {c : Bool} (q : Q (.bl false) H) : rIsi K [.bl c, .ty "dict"] H Q := rIsi_mk (TyX.base (TyOf.bl _)) (ClsV.ty _) kt_bool_dict q
theorem ri_str_list {K : PySem.W.Frag} {H : Hp} {Q : VK} {z : Str} (q : Q (.bl false) H) : rIsi K [.str z, .ty "list"] H Q := rIsi_mk (TyX.base (TyOf.str _)) (ClsV.ty _) kt_str_list q
theorem ri_str_tuple {K : PySem.W.Frag} {H : Hp} {Q : VK} {z : Str} (q : Q (.bl false) H) : rIsi K [.str z, .ty "tuple"] H Q := rIsi_mk (TyX.base (TyOf.str _)) (ClsV.ty _) kt_str_tuple q
theorem ri_str_bool {K : PySem.W.Frag} {H : Hp} {Q : VK} {z : Str} (q : Q (.bl false) H) : rIsi K [.str z, .ty "bool"] H Q := rIsi_mk (TyX.base (TyOf.str _)) (ClsV.ty _) kt_str_bool q
theorem ri_str_int {K : PySem.W.Frag} {H : Hp} {Q : VK} {z : Str} (q : Q (.bl false) H) : rIsi K [.str z, .ty "int"] H Q := rIsi_mk (TyX.base (TyOf.str _)) (ClsV.ty _) kt_str_int q
theorem ri_str_str {K : PySem.W.Frag} {H : Hp} {Q : VK} {z : Str} (q : Q (.bl true) H) : rIsi K [.str z, .ty "str"] H Q := rIsi_mk (TyX.base (TyOf.str _)) (ClsV.ty _) kt_str_str q
theorem ri_str_dict {K : PySem.W.Frag} {H : Hp} {Q : VK} {z : Str} (q : Q (.bl false) H) : rIsi K [.str z, .ty "dict"] H Q := rIsi_mk (TyX.base (TyOf.str _)) (ClsV.ty _) kt_str_dict q
theorem ri_NoneType_list {K : PySem.W.Frag} {H : Hp} {Q : VK}  (q : Q (.bl false) H) : rIsi K [.non, .ty "list"] H Q := rIsi_mk (TyX.base TyOf.non) (ClsV.ty _) kt_NoneType_list q
theorem ri_NoneType_tuple {K : PySem.W.Frag} {H : Hp} {Q : VK}  (q : Q (.bl false) H) : rIsi K [.non, .ty "tuple"] H Q := rIsi_mk (TyX.base TyOf.non) (ClsV.ty _) kt_NoneType_tuple q
theorem ri_NoneType_bool {K : PySem.W.Frag} {H : Hp} {Q : VK}  (q : Q (.bl false) H) : rIsi K [.non, .ty "bool"] H Q := rIsi_mk (TyX.base TyOf.non) (ClsV.ty _) kt_NoneType_bool q
theorem ri_NoneType_int {K : PySem.W.Frag} {H : Hp} {Q : VK}  (q : Q (.bl false) H) : rIsi K [.non, .ty "int"] H Q := rIsi_mk (TyX.base TyOf.non) (ClsV.ty _) kt_NoneType_int q
theorem ri_NoneType_str {K : PySem.W.Frag} {H : Hp} {Q : VK}  (q : Q (.bl false) H) : rIsi K [.non, .ty "str"] H Q := rIsi_mk (TyX.base TyOf.non) (ClsV.ty _) kt_NoneType_str q
theorem ri_NoneType_dict {K : PySem.W.Frag} {H : Hp} {Q : VK}  (q : Q (.bl false) H) : rIsi K [.non, .ty "dict"] H Q := rIsi_mk (TyX.base TyOf.non) (ClsV.ty _) kt_NoneType_dict q
theorem ri_list_list {K : PySem.W.Frag} {H : Hp} {Q : VK} {a : Addr} {xs : List V} (h : SqL K H a xs) (q : Q (.bl true) H) : rIsi K [.ref a, .ty "list"] H Q := rIsi_mk (tyx_L h) (ClsV.ty _) kt_list_list q
theorem ri_list_tuple {K : PySem.W.Frag} {H : Hp} {Q : VK} {a : Addr} {xs : List V} (h : SqL K H a xs) (q : Q (.bl false) H) : rIsi K [.ref a, .ty "tuple"] H Q := rIsi_mk (tyx_L h) (ClsV.ty _) kt_list_tuple q
theorem ri_list_bool {K : PySem.W.Frag} {H : Hp} {Q : VK} {a : Addr} {xs : List V} (h : SqL K H a xs) (q : Q (.bl false) H) : rIsi K [.ref a, .ty "bool"] H Q := rIsi_mk (tyx_L h) (ClsV.ty _) kt_list_bool q
theorem ri_list_int {K : PySem.W.Frag} {H : Hp} {Q : VK} {a : Addr} {xs : List V} (h : SqL K H a xs) (q : Q (.bl false) H) : rIsi K [.ref a, .ty "int"] H Q := rIsi_mk (tyx_L h) (ClsV.ty _) kt_list_int q
theorem ri_list_str {K : PySem.W.Frag} {H : Hp} {Q : VK} {a : Addr} {xs : List V} (h : SqL K H a xs) (q : Q (.bl false) H) : rIsi K [.ref a, .ty "str"] H Q := rIsi_mk (tyx_L h) (ClsV.ty _) kt_list_str q
theorem ri_list_dict {K : PySem.W.Frag} {H : Hp} {Q : VK} {a : Addr} {xs : List V} (h : SqL K H a xs) (q : Q (.bl false) H) : rIsi K [.ref a, .ty "dict"] H Q := rIsi_mk (tyx_L h) (ClsV.ty _) kt_list_dict q
theorem ri_tuple_list {K : PySem.W.Frag} {H : Hp} {Q : VK} {a : Addr} {xs : List V} (h : SqT K H a xs) (q : Q (.bl false) H) : rIsi K [.ref a, .ty "list"] H Q := rIsi_mk (tyx_T h) (ClsV.ty _) kt_tuple_list q
theorem ri_tuple_tuple {K : PySem.W.Frag} {H : Hp} {Q : VK} {a : Addr} {xs : List V} (h : SqT K H a xs) (q : Q (.bl true) H) : rIsi K [.ref a, .ty "tuple"] H Q := rIsi_mk (tyx_T h) (ClsV.ty _) kt_tuple_tuple q
theorem ri_tuple_bool {K : PySem.W.Frag} {H : Hp} {Q : VK} {a : Addr} {xs : List V} (h : SqT K H a xs) (q : Q (.bl false) H) : rIsi K [.ref a, .ty "bool"] H Q := rIsi_mk (tyx_T h) (ClsV.ty _) kt_tuple_bool q
theorem ri_tuple_int {K : PySem.W.Frag} {H : Hp} {Q : VK} {a : Addr} {xs : List V} (h : SqT K H a xs) (q : Q (.bl false) H) : rIsi K [.ref a, .ty "int"] H Q := rIsi_mk (tyx_T h) (ClsV.ty _) kt_tuple_int q
theorem ri_tuple_str {K : PySem.W.Frag} {H : Hp} {Q : VK} {a : Addr} {xs : List V} (h : SqT K H a xs) (q : Q (.bl false) H) : rIsi K [.ref a, .ty "str"] H Q := rIsi_mk (tyx_T h) (ClsV.ty _) kt_tuple_str q
theorem ri_tuple_dict {K : PySem.W.Frag} {H : Hp} {Q : VK} {a : Addr} {xs : List V} (h : SqT K H a xs) (q : Q (.bl false) H) : rIsi K [.ref a, .ty "dict"] H Q := rIsi_mk (tyx_T h) (ClsV.ty _) kt_tuple_dict q
def rLenSq (K : PySem.W.Frag) : List V → Hp → VK → Prop := fun xs H Q => ∃ p ys, xs = [.ref p] ∧ (SqL K H p ys ∨ SqT K H p ys) ∧ Q (.int ys.length) H
def rListOf (K : PySem.W.Frag) : List V → Hp → VK → Prop := fun xs H Q => ∃ p ys, xs = [.ref p] ∧ (SqL K H p ys ∨ SqT K H p ys) ∧ ∀ l, H l = none → Q (.ref l) (upd H l (.lst ys))
def rTupOf (K : PySem.W.Frag) : List V → Hp → VK → Prop := fun xs H Q => ∃ p ys, xs = [.ref p] ∧ ((SqL K H p ys ∧ ∀ l, H l = none → Q (.ref l) (upd H l (.tup ys))) ∨ (SqT K H p ys ∧ Q (.ref p) H))
/-- a list or a tuple -/
def Sq (K : PySem.W.Frag) (H : Hp) (a : Addr) (xs : List V) : Prop := SqL K H a xs ∨ SqT K H a xs
theorem Sq.same {K : PySem.W.Frag} {H H' : Hp} {a : Addr} {xs : List V} (h : Sq K H a xs) (s : Same H H') : Sq K H' a xs := h.elim (fun q => .inl (s.seq q)) fun q => .inr (seqT s q)
theorem seqL_ins {K : PySem.W.Frag} {H : Hp} {a p C dx : Addr} {fs : List (Str × V)} {o : HO} {xs : List V} (hp : H p = some (.ins C dx fs)) (h : SqL K H a xs) : SqL K (upd H p o) a xs := by
  rcases h with (h | ⟨u, h⟩) | h
  · exact .inl (.inl (by rw [upd_ne (ne_of h hp (by intro z; cases z))]; exact h))
  · exact .inl (.inr ⟨u, by rw [upd_ne (ne_of h hp (by intro z; cases z))]; exact h⟩)
  · exact .inr h
theorem seqT_ins {K : PySem.W.Frag} {H : Hp} {a p C dx : Addr} {fs : List (Str × V)} {o : HO} {xs : List V} (hp : H p = some (.ins C dx fs)) (h : SqT K H a xs) : SqT K (upd H p o) a xs := by
  rcases h with (h | ⟨u, h⟩) | h
  · exact .inl (.inl (by rw [upd_ne (ne_of h hp (by intro z; cases z))]; exact h))
  · exact .inl (.inr ⟨u, by rw [upd_ne (ne_of h hp (by intro z; cases z))]; exact h⟩)
  · exact .inr h
theorem Sq.ins {K : PySem.W.Frag} {H : Hp} {a p C dx : Addr} {fs : List (Str × V)} {o : HO} {xs : List V} (h : Sq K H a xs) (hp : H p = some (.ins C dx fs)) : Sq K (upd H p o) a xs := h.elim (fun q => .inl (seqL_ins hp q)) fun q => .inr (seqT_ins hp q)
/-- tuple(x) of either -/
def rTup1 (K : PySem.W.Frag) : List V → Hp → VK → Prop := fun vs H Q => ∃ p xs, vs = [.ref p] ∧ Sq K H p xs ∧ ∀ t H', Same H H' → SqT K H' t xs → Q (.ref t) H'
theorem call_tup1 {X : Cx} : CallR X (.type "tuple") (rTup1 X.K) := by
  intro pins s σ H xs us Q I r h
  obtain ⟨p, ys, rfl, hq, q⟩ := h
  refine call_tuple_of pins s σ H _ us Q I r ⟨p, ys, rfl, ?_⟩
  rcases hq with hq | hq
  · exact .inl ⟨hq, fun l hl => q l _ (Same.new hl) (SqT.of upd_same)⟩
  · exact .inr ⟨hq, q p H (Same.refl H) hq⟩
/-! ### a statement, then the rest, with a word between them -/
def tCut (t u : TS) : TS := fun D σ H => ∃ Mid : L2.St → Hp → Prop, t { D with nx := Mid } σ H ∧ ∀ σ' H', Mid σ' H' → u D σ' H'
theorem pss_cut {X : Cx} {st : Stmt} {rest : List Stmt} {t u : TS} (h1 : PS X st t) (h2 : PSs X rest u) : PSs X (st :: rest) (tCut t u) := by
  refine ⟨fun pins s σ H D I h => ?_⟩
  obtain ⟨Mid, hm, hu⟩ := h
  refine wpAny_execs_cons (thn (h1.run pins s σ H { D with nx := Mid } I hm) fun f s1 q => ?_)
  cases f with
  | next =>
    obtain ⟨σ', H', I', q⟩ := q
    exact h2.run pins s1 σ' H' D I' (hu σ' H' q)
  | ret v => exact q
  | brk => exact q
  | cont => exact q
/-! ### the law's bag: the cells, how many were taken, the rest of a great cell, a mixed number, a count -/
structure Bg where
  b : Addr
  L : Addr
  ns : List Int
structure Bag (B : Bg) (H : Hp) : Prop where
  ex : ∃ (i r s c : Int), H B.b = some (.lst [.ref B.L, .int i, .int r, .int s, .int c]) ∧ 0 ≤ i ∧ 0 ≤ r ∧ 0 ≤ s ∧ s < 2147483648
  cells : H B.L = some (.lst (B.ns.map V.int))
  ne : B.L ≠ B.b
theorem Bag.same {B : Bg} {H H' : Hp} (h : Bag B H) (s : Same H H') : Bag B H' := by
  obtain ⟨i, r, z, c, h1, h2⟩ := h.ex
  exact ⟨⟨i, r, z, c, s _ _ h1, h2⟩, s _ _ h.cells, h.ne⟩
theorem Bag.nb {B : Bg} {H : Hp} {p : Addr} (h : Bag B H) (hp : H p = none) : p ≠ B.b := by
  obtain ⟨i, r, z, c, h1, h2⟩ := h.ex
  exact Ne.symm (ne_of_none h1 hp)
theorem Bag.nL {B : Bg} {H : Hp} {p : Addr} (h : Bag B H) (hp : H p = none) : p ≠ B.L := Ne.symm (ne_of_none h.cells hp)
theorem Bag.upd {B : Bg} {H : Hp} {p : Addr} {o : HO} (h : Bag B H) (h1 : p ≠ B.b) (h2 : p ≠ B.L) : Bag B (L2.upd H p o) := by
  obtain ⟨i, r, z, c, e1, e2⟩ := h.ex
  exact ⟨⟨i, r, z, c, by rw [upd_ne (Ne.symm h1)]; exact e1, e2⟩, by rw [upd_ne (Ne.symm h2)]; exact h.cells, h.ne⟩
theorem Bag.new {B : Bg} {H : Hp} {p : Addr} {o : HO} (h : Bag B H) (hp : H p = none) : Bag B (L2.upd H p o) := h.upd (h.nb hp) (h.nL hp)
/-! ### comprehensions: what each turn gives is known (Same), or only bounded, while the bag changes (Kb) -/
section
variable {J : It} {n : Nat} {G : Hp → Prop} {Y : Nat → Hp → V → Hp → Prop} {K : PySem.W.Frag} {a b D : Addr} {xs ys : List V} {g : TG} {te : TE} {vs : List Nat} {σ : L2.St} {H0 : Hp} {Qd : Hp → Prop} {j : Nat}
theorem take_app {ys : List V} {i : Nat} {y : V} (h : ys[i]? = some y) : ys.take i ++ [y] = ys.take (i + 1) := by
  rw [List.take_add_one, h]
  rfl
/-- what is to be shown of a comprehension -/
def LcGoal (J : It) (g : TG) (te : TE) (vs : List Nat) (σ : L2.St) (H0 : Hp) (D : Addr) (Qd : Hp → Prop) : Prop :=
  ∃ W : Nat → Nat → Hp → Prop, (∃ m, W 0 m (upd H0 D (.lst []))) ∧ ∀ i m H, W i m H →
      (J.stop i H ∧ Qd H) ∨ (J.go i H ∧ ∃ Nx : Hp → Prop, (∀ H', Nx H' → ∃ m', m' < m ∧ W (i + 1) m' H') ∧ ∀ x H', J.yld i H x H' → g x (wipe σ vs) H' fun σ2 H2 => wipe σ2 vs = wipe σ vs ∧ tYes σ2 H2 fun b H3 =>
        if b = true then te σ2 H3 fun y H4 => ∃ acc, H4 D = some (.lst acc) ∧ acc.length < sizeLine ∧ Nx (upd H4 D (.lst (acc ++ [y]))) else Nx H3)
theorem lcm (w : Walk J n G Y) (ys : List V) (hn : ys.length = n) (hz : n ≤ 100000) (hD : H0 D = none) (hG : ∀ H, Same H0 H → G H)
    (hs : ∀ i y x H H', i < n → ys[i]? = some y → Same H0 H → Y i H x H' → ∀ k : VK, (∀ H4, Same H H4 → k y H4) → g x (wipe σ vs) H' fun σ2 H2 => wipe σ2 vs = wipe σ vs ∧ te σ2 H2 k)
    (hd : ∀ H, Same H0 H → H D = some (.lst ys) → Qd H) : LcGoal J g te vs σ H0 D Qd := by
  refine lc_it w (fun i H => Same H0 H ∧ H D = some (.lst (ys.take i))) ⟨Same.new hD, upd_same⟩ (fun i H _ h => hG H h.1) (fun i x H H' hi h hy => ?_) (fun H h => ?_)
  · have hi2 : i < ys.length := by omega
    refine hs i ys[i] x H H' hi (List.getElem?_eq_getElem hi2) h.1 hy _ fun H4 s4 => ⟨ys.take i, s4 _ _ h.2, ?_, fun c u q => ?_, ?_⟩
    · refine Nat.lt_of_le_of_lt (Nat.le_trans (List.length_take_le' _ _) (by omega : ys.length ≤ 100000)) (by decide)
    · rw [upd_ne (ne_of_none q hD)]
      exact s4 _ _ (h.1 _ _ q)
    · rw [upd_same, take_app (List.getElem?_eq_getElem hi2)]
  · refine hd H h.1 ?_
    rw [h.2, ← hn, List.take_length]
theorem lcb {B : Bg} (w : Walk J n G Y) (P : V → Prop) (hz : n ≤ 100000) (hB : Bag B H0) (hD : H0 D = none) (hG : ∀ H, Kb B.b H0 H → G H)
    (hs : ∀ i x H H', i < n → Kb B.b H0 H → Bag B H → Y i H x H' → ∀ k : VK, (∀ y H4, P y → Kb B.b H H4 → Bag B H4 → k y H4) → g x (wipe σ vs) H' fun σ2 H2 => wipe σ2 vs = wipe σ vs ∧ te σ2 H2 k)
    (hd : ∀ ys H, ys.length = n → (∀ y ∈ ys, P y) → Kb B.b H0 H → Bag B H → H D = some (.lst ys) → Qd H) : LcGoal J g te vs σ H0 D Qd := by
  have nb := hB.nb hD
  have nL := hB.nL hD
  refine lc_it w (fun i H => Kb B.b H0 H ∧ Bag B H ∧ ∃ ys, H D = some (.lst ys) ∧ ys.length = i ∧ ∀ y ∈ ys, P y) ⟨Kb.same (Same.new hD), hB.new hD, [], upd_same, rfl, fun y hy => by cases hy⟩ (fun i H _ h => hG H h.1) (fun i x H H' hi h hy => ?_) (fun H h => ?_)
  · obtain ⟨h1, h2, ys, h3, h4, h5⟩ := h
    refine hs i x H H' hi h1 h2 hy _ fun y H4 p kb b4 => ⟨ys, kb _ _ h3 nb, ?_, fun c u q ne => ?_, b4.upd nb nL, ys ++ [y], upd_same, ?_, ?_⟩
    · exact Nat.lt_of_le_of_lt (by omega : ys.length ≤ 100000) (by decide)
    · rw [upd_ne (ne_of_none q hD)]
      exact kb _ _ (h1 _ _ q ne) ne
    · rw [List.length_append, h4]
      rfl
    · intro z hz
      rcases List.mem_append.mp hz with q | q
      · exact h5 z q
      · rw [List.mem_singleton.mp q]
        exact p
  · obtain ⟨h1, h2, ys, h3, h4, h5⟩ := h
    exact hd ys H h4 h5 h1 h2 h3
end
theorem walk_zipT {K : PySem.W.Frag} {a b : Addr} {xs ys : List V} {n : Nat} (hn : n = min xs.length ys.length) : Walk (RZ.ItzT K a b) n (fun H => SqT K H a xs ∧ SqT K H b ys) (YPair (fun i => xs[i]?) (fun i => ys[i]?)) := by
  subst hn
  refine ⟨fun i _ hi q => ?_, fun _ q => ⟨xs, ys, q.1, q.2, by omega⟩, fun i H v H' _ q y => ?_⟩
  · have h1 : i < xs.length := by omega
    have h2 : i < ys.length := by omega
    exact ⟨xs, ys, xs[i], ys[i], q.1, q.2, by simp [h1], by simp [h2]⟩
  · obtain ⟨T, x, z, h1, h2, h3, h4, h5⟩ := y
    exact ⟨T, x, z, h1, h2, h3, h4 xs q.1, h5 ys q.2⟩
theorem ite_dec {p A B : Prop} [Decidable p] (h : p) (q : A) : if decide p = true then A else B := by
  rw [decide_eq_true h]
  exact q
theorem ite_dec' {p A B : Prop} [Decidable p] (h : ¬ p) (q : B) : if decide p = true then A else B := by
  rw [decide_eq_false h]
  exact q
theorem all_rep (n : Nat) : (List.replicate n true).all id = true := by
  rw [List.all_eq_true]
  intro x hx
  rw [(List.mem_replicate.mp hx).2]
  rfl
theorem rep_get {n i : Nat} {x y : V} (h : (List.replicate n x)[i]? = some y) : y = x := (List.mem_replicate.mp (List.mem_of_getElem? h)).2
theorem lc_zipT {K : PySem.W.Frag} {a b D : Addr} {xs ys : List Int} {f : Int → Int → Int} {te : TE} {vs : List Nat} {σ : L2.St} {H0 : Hp} {Qd : Hp → Prop} {i j : Nat} (h1 : SqT K H0 a (xs.map V.int)) (h2 : SqT K H0 b (ys.map V.int)) (hl : xs.length = ys.length) (hz : xs.length ≤ 1000) (hD : H0 D = none)
    (hw : ∀ u v, wipe (((wipe σ vs).set i (some u)).set j (some v)) vs = wipe σ vs)
    (hs : ∀ (u v : Int) (H : Hp) (k : VK), u ∈ xs → v ∈ ys → k (.int (f u v)) H → te (((wipe σ vs).set i (some (.int u))).set j (some (.int v))) H k)
    (hd : ∀ H, Same H0 H → H D = some (.lst ((List.zipWith f xs ys).map V.int)) → Qd H) : LcGoal (RZ.ItzT K a b) (gTup K 2 (gCons (gName i) (gCons (gName j) gNil))) te vs σ H0 D Qd := by
  refine lcm (walk_zipT (n := xs.length) (by rw [List.length_map, List.length_map]; omega)) ((List.zipWith f xs ys).map V.int) (by rw [List.length_map, List.length_zipWith]; omega) (by omega) hD (fun H' s => ⟨seqT s h1, seqT s h2⟩) ?_ hd
  rintro t y x H1 H2 hi hy s1 ⟨Tp, u, z, rfl, hT, rfl, hu, hz'⟩ k hk
  replace hu : (xs.map V.int)[t]? = some u := hu
  replace hz' : (ys.map V.int)[t]? = some z := hz'
  rw [List.getElem?_map] at hy hu hz'
  obtain ⟨y', hy1, rfl⟩ := Option.map_eq_some_iff.mp hy
  obtain ⟨u', hu1, rfl⟩ := Option.map_eq_some_iff.mp hu
  obtain ⟨z', hz1, rfl⟩ := Option.map_eq_some_iff.mp hz'
  rw [List.getElem?_zipWith, hu1, hz1] at hy1
  obtain rfl : f u' z' = y' := Option.some.inj hy1
  refine ⟨Tp, [.int u', .int z'], rfl, SqT.of upd_same, rfl, .int u', [.int z'], rfl, .int z', [], rfl, rfl, hw _ _, ?_⟩
  exact hs u' z' _ k (List.mem_of_getElem? hu1) (List.mem_of_getElem? hz1) (hk _ (Same.new hT))
theorem lc_zipL {K : PySem.W.Frag} {a b D : Addr} {xs ys : List Int} {f : Int → Int → Int} {te : TE} {vs : List Nat} {σ : L2.St} {H0 : Hp} {Qd : Hp → Prop} {i j : Nat} (h1 : SqL K H0 a (xs.map V.int)) (h2 : SqL K H0 b (ys.map V.int)) (hl : xs.length = ys.length) (hz : xs.length ≤ 1000) (hD : H0 D = none)
    (hw : ∀ u v, wipe (((wipe σ vs).set i (some u)).set j (some v)) vs = wipe σ vs)
    (hs : ∀ (u v : Int) (H : Hp) (k : VK), u ∈ xs → v ∈ ys → k (.int (f u v)) H → te (((wipe σ vs).set i (some (.int u))).set j (some (.int v))) H k)
    (hd : ∀ H, Same H0 H → H D = some (.lst ((List.zipWith f xs ys).map V.int)) → Qd H) : LcGoal (Itz K a b) (gTup K 2 (gCons (gName i) (gCons (gName j) gNil))) te vs σ H0 D Qd := by
  refine lcm (walk_zip (n := xs.length) (by rw [List.length_map, List.length_map]; omega)) ((List.zipWith f xs ys).map V.int) (by rw [List.length_map, List.length_zipWith]; omega) (by omega) hD (fun H' s => ⟨s.seq h1, s.seq h2⟩) ?_ hd
  rintro t y x H1 H2 hi hy s1 ⟨Tp, u, z, rfl, hT, rfl, hu, hz'⟩ k hk
  replace hu : (xs.map V.int)[t]? = some u := hu
  replace hz' : (ys.map V.int)[t]? = some z := hz'
  rw [List.getElem?_map] at hy hu hz'
  obtain ⟨y', hy1, rfl⟩ := Option.map_eq_some_iff.mp hy
  obtain ⟨u', hu1, rfl⟩ := Option.map_eq_some_iff.mp hu
  obtain ⟨z', hz1, rfl⟩ := Option.map_eq_some_iff.mp hz'
  rw [List.getElem?_zipWith, hu1, hz1] at hy1
  obtain rfl : f u' z' = y' := Option.some.inj hy1
  refine ⟨Tp, [.int u', .int z'], rfl, SqT.of upd_same, rfl, .int u', [.int z'], rfl, .int z', [], rfl, rfl, hw _ _, ?_⟩
  exact hs u' z' _ k (List.mem_of_getElem? hu1) (List.mem_of_getElem? hz1) (hk _ (Same.new hT))
theorem lc_mapT {K : PySem.W.Frag} {a D : Addr} {xs : List Int} {f : Int → Int} {te : TE} {vs : List Nat} {σ : L2.St} {H0 : Hp} {Qd : Hp → Prop} {i : Nat} (h1 : SqT K H0 a (xs.map V.int)) (hz : xs.length ≤ 1000) (hD : H0 D = none)
    (hw : ∀ u, wipe ((wipe σ vs).set i (some u)) vs = wipe σ vs) (hs : ∀ (u : Int) (H : Hp) (k : VK), u ∈ xs → k (.int (f u)) H → te ((wipe σ vs).set i (some (.int u))) H k)
    (hd : ∀ H, Same H0 H → H D = some (.lst ((xs.map f).map V.int)) → Qd H) : LcGoal (Itt K a) (gName i) te vs σ H0 D Qd := by
  refine lcm (walk_tup (K := K) (a := a) (xs := xs.map V.int)) ((xs.map f).map V.int) (by simp) (by rw [List.length_map]; omega) hD (fun H' s => seqT s h1) ?_ hd
  rintro t y x H1 H2 hi hy s1 ⟨rfl, hu⟩ k hk
  rw [List.getElem?_map] at hy hu
  obtain ⟨y', hy1, rfl⟩ := Option.map_eq_some_iff.mp hy
  obtain ⟨u', hu1, rfl⟩ := Option.map_eq_some_iff.mp hu
  rw [List.getElem?_map, hu1] at hy1
  obtain rfl : f u' = y' := Option.some.inj hy1
  exact ⟨hw _, hs u' _ k (List.mem_of_getElem? hu1) (hk _ (Same.refl _))⟩
theorem lc_mapL {K : PySem.W.Frag} {a D : Addr} {xs : List Int} {f : Int → Int} {te : TE} {vs : List Nat} {σ : L2.St} {H0 : Hp} {Qd : Hp → Prop} {i : Nat} (h1 : SqL K H0 a (xs.map V.int)) (hz : xs.length ≤ 1000) (hD : H0 D = none)
    (hw : ∀ u, wipe ((wipe σ vs).set i (some u)) vs = wipe σ vs) (hs : ∀ (u : Int) (H : Hp) (k : VK), u ∈ xs → k (.int (f u)) H → te ((wipe σ vs).set i (some (.int u))) H k)
    (hd : ∀ H, Same H0 H → H D = some (.lst ((xs.map f).map V.int)) → Qd H) : LcGoal (Itl K a) (gName i) te vs σ H0 D Qd := by
  refine lcm (walk_list (K := K) (a := a) (xs := xs.map V.int)) ((xs.map f).map V.int) (by simp) (by rw [List.length_map]; omega) hD (fun H' s => s.seq h1) ?_ hd
  rintro t y x H1 H2 hi hy s1 ⟨rfl, hu⟩ k hk
  rw [List.getElem?_map] at hy hu
  obtain ⟨y', hy1, rfl⟩ := Option.map_eq_some_iff.mp hy
  obtain ⟨u', hu1, rfl⟩ := Option.map_eq_some_iff.mp hu
  rw [List.getElem?_map, hu1] at hy1
  obtain rfl : f u' = y' := Option.some.inj hy1
  exact ⟨hw _, hs u' _ k (List.mem_of_getElem? hu1) (hk _ (Same.refl _))⟩
/-! ### whole data: lists and tuples of whole numbers -/
theorem dpAll_ints {K : PySem.W.Frag} {H : Hp} : ∀ ns : List Int, DpAll K H (ns.map V.int) (ns.map PyData.int)
  | [] => .nil
  | n :: ns => .cons (.int n) (dpAll_ints ns)
theorem lay_ints : ∀ ns : List Int, PyData.canLayAll0 (ns.map PyData.int) = true
  | [] => by simp [PyData.canLayAll0]
  | n :: ns => by simp [PyData.canLayAll0, PyData.canLay0, lay_ints ns]
theorem depth_ints : ∀ ns : List Int, PyData.depthAll (ns.map PyData.int) = 0
  | [] => by simp [PyData.depthAll]
  | n :: ns => by simp [PyData.depthAll, PyData.depth, depth_ints ns]
theorem shaped_tupI (ns : List Int) : SeqAt.shaped (.tuple (ns.map PyData.int)) = true := by simp [SeqAt.shaped, PyData.canLay0, PyData.depth, lay_ints, depth_ints]
theorem shaped_lstI (ns : List Int) : SeqAt.shaped (.list (ns.map PyData.int)) = true := by simp [SeqAt.shaped, PyData.canLay0, PyData.depth, lay_ints, depth_ints]
theorem shaped_two (xs ys : List Int) : SeqAt.shaped (.tuple [.list (xs.map PyData.int), .list (ys.map PyData.int)]) = true := by simp [SeqAt.shaped, PyData.canLay0, PyData.canLayAll0, PyData.depth, PyData.depthAll, lay_ints, depth_ints]
theorem eqv_ints : ∀ xs ys : List Int, PyData.eqvAll (xs.map PyData.int) (ys.map PyData.int) = decide (xs = ys)
  | [], [] => by simp [PyData.eqvAll]
  | [], y :: ys => by simp [PyData.eqvAll]
  | x :: xs, [] => by simp [PyData.eqvAll]
  | x :: xs, y :: ys => by
    simp only [List.map_cons, PyData.eqvAll, PyData.eqv, eqv_ints xs ys, List.cons.injEq]
    by_cases h1 : x = y <;> by_cases h2 : xs = ys <;> simp [h1, h2]
theorem eqv_tupI (xs ys : List Int) : PyData.eqv (.tuple (xs.map PyData.int)) (.tuple (ys.map PyData.int)) = decide (xs = ys) := by simp only [PyData.eqv, eqv_ints]
theorem eqv_lstI (xs ys : List Int) : PyData.eqv (.list (xs.map PyData.int)) (.list (ys.map PyData.int)) = decide (xs = ys) := by simp only [PyData.eqv, eqv_ints]
theorem eqv_two (x y : List Int × List Int) : PyData.eqv (.tuple [.list (x.1.map PyData.int), .list (x.2.map PyData.int)]) (.tuple [.list (y.1.map PyData.int), .list (y.2.map PyData.int)]) = decide (x = y) := by
  obtain ⟨a, b⟩ := x
  obtain ⟨c, d⟩ := y
  simp only [PyData.eqv, PyData.eqvAll, eqv_ints, Prod.mk.injEq]
  by_cases h1 : a = c <;> by_cases h2 : b = d <;> simp [h1, h2]
/-- == of two tuples of whole numbers -/
def rEqTI (K : PySem.W.Frag) : R2 := fun x y H Q => ∃ (a b : Addr) (xs ys : List Int), x = .ref a ∧ y = .ref b ∧ SqT K H a (xs.map V.int) ∧ SqT K H b (ys.map V.int) ∧ Q (.bl (decide (xs = ys))) H
theorem op_eqTI {X : Cx} (hu : X.A.units + 64 < cLine) : OpR X (compareOp .Eq) (rEqTI X.K) := by
  intro pins s σ H x y v u Q I rx ry h
  obtain ⟨a, b, xs, ys, rfl, rfl, h1, h2, q⟩ := h
  exact op_eqD hu pins s σ H _ _ v u Q I rx ry ⟨_, _, .tup h1 (dpAll_ints xs), .tup h2 (dpAll_ints ys), shaped_tupI xs, shaped_tupI ys, by rw [eqv_tupI]; exact q⟩
theorem and1 (n : Int) : Builtin.bitAnd n 1 = n.fmod 2 := by
  have h := PyProof.Rows.bitAnd_m1 n
  rw [Int.fmod_eq_emod_of_nonneg _ (by decide)]
  exact h
/-- a tuple that is read stands when a list is changed -/
theorem seqT_lst {K : PySem.W.Frag} {H : Hp} {a p : Addr} {zs : List V} {o : HO} {xs : List V} (hp : H p = some (.lst zs)) (h : SqT K H a xs) : SqT K (upd H p o) a xs := by
  rcases h with (h | ⟨u, h⟩) | h
  · exact .inl (.inl (by rw [upd_ne (ne_of h hp (by intro z; cases z))]; exact h))
  · exact .inl (.inr ⟨u, by rw [upd_ne (ne_of h hp (by intro z; cases z))]; exact h⟩)
  · exact .inr h
theorem seqT_kb {K : PySem.W.Frag} {H H' : Hp} {b a : Addr} {zs xs : List V} (hb : H b = some (.lst zs)) (k : Kb b H H') (h : SqT K H a xs) : SqT K H' a xs := by
  rcases h with (h | ⟨u, h⟩) | h
  · exact .inl (.inl (k _ _ h (ne_of h hb (by intro z; cases z))))
  · exact .inl (.inr ⟨u, k _ _ h (ne_of h hb (by intro z; cases z))⟩)
  · exact .inr h
section
variable {J : It} {n : Nat} {G : Hp → Prop} {Y : Nat → Hp → V → Hp → Prop} {D : Addr} {g : TG} {te : TE} {vs : List Nat} {σ : L2.St} {H0 : Hp} {Qd : Hp → Prop}
/-- a comprehension whose turns give new things, of which something is known -/
theorem lcs (w : Walk J n G Y) (P : Nat → V → Hp → Prop) (hP : ∀ i y H H', Same H H' → P i y H → P i y H') (hPD : ∀ i y H zs zs', H D = some (.lst zs) → P i y H → P i y (upd H D (.lst zs'))) (hz : n ≤ 100000) (hD : H0 D = none) (hG : ∀ H, Same H0 H → G H)
    (hs : ∀ i x H H', i < n → Same H0 H → Y i H x H' → ∀ k : VK, (∀ y H4, Same H H4 → P i y H4 → k y H4) → g x (wipe σ vs) H' fun σ2 H2 => wipe σ2 vs = wipe σ vs ∧ te σ2 H2 k)
    (hd : ∀ (ys : List V) H, ys.length = n → (∀ (i : Nat) y, ys[i]? = some y → P i y H) → Same H0 H → H D = some (.lst ys) → Qd H) : LcGoal J g te vs σ H0 D Qd := by
  refine lc_it w (fun i H => Same H0 H ∧ ∃ ys : List V, H D = some (.lst ys) ∧ ys.length = i ∧ ∀ (t : Nat) y, ys[t]? = some y → P t y H) ⟨Same.new hD, [], upd_same, rfl, fun t y h => by cases h⟩ (fun i H _ h => hG H h.1) (fun i x H H' hi h hy => ?_) (fun H h => ?_)
  · obtain ⟨h1, ys, h3, h4, h5⟩ := h
    refine hs i x H H' hi h1 hy _ fun y H4 s4 p => ⟨ys, s4 _ _ h3, ?_, fun c u q => ?_, ys ++ [y], upd_same, ?_, ?_⟩
    · exact Nat.lt_of_le_of_lt (by omega : ys.length ≤ 100000) (by decide)
    · rw [upd_ne (ne_of_none q hD)]
      exact s4 _ _ (h1 _ _ q)
    · rw [List.length_append, h4]
      rfl
    · intro t z hz
      refine hPD t z H4 ys _ (s4 _ _ h3) ?_
      rcases Nat.lt_or_ge t ys.length with q | q
      · rw [List.getElem?_append_left q] at hz
        exact hP _ _ _ _ s4 (h5 t z hz)
      · rw [List.getElem?_append_right q] at hz
        have e : t - ys.length = 0 := by
          have := (List.getElem?_eq_some_iff.mp hz).1
          simp at this
          omega
        rw [e] at hz
        obtain rfl : y = z := Option.some.inj hz
        have : t = i := by omega
        rw [this]
        exact p
  · obtain ⟨h1, ys, h3, h4, h5⟩ := h
    exact hd ys H h4 h5 h1 h3
end
end TL
namespace TL
/-! ### products of powers of primes -/
def pp : List Nat → List Nat → Nat
  | p :: ps, a :: as => p ^ a * pp ps as
  | _, _ => 1
def prs : List Nat := [2, 3, 5, 7, 11, 13]
def PC : List Nat → Prop
  | [] => True
  | p :: ps => 1 < p ∧ (∀ q ∈ ps, Nat.Coprime p q) ∧ PC ps
theorem pc_prs : PC prs := by simp only [PC, prs]; decide
theorem pc_drop : ∀ (n : Nat) {ps : List Nat}, PC ps → PC (ps.drop n)
  | 0, _, h => h
  | n + 1, [], h => h
  | n + 1, p :: ps, h => pc_drop n h.2.2
theorem pc_take : ∀ (n : Nat) {ps : List Nat}, PC ps → PC (ps.take n)
  | 0, _, _ => trivial
  | n + 1, [], h => h
  | n + 1, p :: ps, h => ⟨h.1, fun q hq => h.2.1 q (List.mem_of_mem_take hq), pc_take n h.2.2⟩
theorem pp_pos : ∀ {ps : List Nat} (as : List Nat), PC ps → 0 < pp ps as
  | [], _, _ => Nat.one_pos
  | p :: ps, [], _ => Nat.one_pos
  | p :: ps, a :: as, h => Nat.mul_pos (Nat.pow_pos (Nat.lt_trans Nat.one_pos h.1)) (pp_pos as h.2.2)
theorem cop_pp {k : Nat} : ∀ {ps : List Nat} (as : List Nat), (∀ q ∈ ps, Nat.Coprime k q) → Nat.Coprime k (pp ps as)
  | [], _, _ => Nat.coprime_one_right k
  | p :: ps, [], _ => Nat.coprime_one_right k
  | p :: ps, a :: as, h => Nat.Coprime.mul_right ((h p (List.mem_cons_self ..)).pow_right a) (cop_pp as fun q hq => h q (List.mem_cons_of_mem _ hq))
def Apart : List Nat → List Nat → Prop
  | a :: as, b :: bs => (a = 0 ∨ b = 0) ∧ Apart as bs
  | _, _ => True
theorem cop_ud : ∀ {ps as bs : List Nat}, PC ps → Apart as bs → Nat.Coprime (pp ps as) (pp ps bs)
  | [], _, _, _, _ => Nat.coprime_one_left _
  | p :: ps, [], _, _, _ => Nat.coprime_one_left _
  | p :: ps, a :: as, [], _, _ => Nat.coprime_one_right _
  | p :: ps, a :: as, b :: bs, h, d => by
    have ih := cop_ud h.2.2 d.2
    have h1 : Nat.Coprime (p ^ a) (pp ps bs) := (cop_pp bs h.2.1).pow_left a
    have h2 : Nat.Coprime (pp ps as) (p ^ b) := (Nat.Coprime.symm (cop_pp as h.2.1)).pow_right b
    have h3 : Nat.Coprime (p ^ a) (p ^ b) := by
      rcases d.1 with e | e
      · rw [e, Nat.pow_zero]
        exact Nat.coprime_one_left _
      · rw [e, Nat.pow_zero]
        exact Nat.coprime_one_right _
    exact Nat.Coprime.mul_left (Nat.Coprime.mul_right h3 h1) (Nat.Coprime.mul_right h2 ih)
theorem pp_add : ∀ (ps as bs : List Nat), as.length = bs.length → pp ps as * pp ps bs = pp ps (List.zipWith (· + ·) as bs)
  | [], _, _, _ => by simp [pp]
  | p :: ps, [], [], _ => by simp [pp]
  | p :: ps, a :: as, b :: bs, h => by
    have ih := pp_add ps as bs (by simpa using h)
    simp only [pp, List.zipWith_cons_cons, ← ih, Nat.pow_add]
    ac_rfl
theorem pp_pow (n : Nat) : ∀ (ps as : List Nat), pp ps as ^ n = pp ps (as.map (n * ·))
  | [], _ => by simp [pp]
  | p :: ps, [] => by simp [pp]
  | p :: ps, a :: as => by
    simp only [pp, List.map_cons, ← pp_pow n ps as, Nat.mul_pow]
    rw [← Nat.pow_mul, Nat.mul_comm a n]
/-! ### a ratio by its exponents -/
def upE (e : List Int) : List Nat := e.map Int.toNat
def dnE (e : List Int) : List Nat := e.map fun x => (-x).toNat
def up (e : List Int) : Nat := pp prs (upE e)
def dn (e : List Int) : Nat := pp prs (dnE e)
def addE (e f : List Int) : List Int := List.zipWith (· + ·) e f
def subE (e f : List Int) : List Int := List.zipWith (· - ·) e f
def mulE (n : Int) (e : List Int) : List Int := e.map (n * ·)
def negE (e : List Int) : List Int := e.map (- ·)
theorem up_pos (e : List Int) : 0 < up e := pp_pos _ pc_prs
theorem dn_pos (e : List Int) : 0 < dn e := pp_pos _ pc_prs
theorem apart_ud : ∀ e : List Int, Apart (upE e) (dnE e)
  | [] => trivial
  | x :: e => ⟨(show x.toNat = 0 ∨ (-x).toNat = 0 by omega), apart_ud e⟩
theorem cop_e (e : List Int) : Nat.Coprime (up e) (dn e) := cop_ud pc_prs (apart_ud e)
theorem up_neg (e : List Int) : up (negE e) = dn e := by
  unfold up dn upE dnE negE
  rw [List.map_map]
  rfl
theorem dn_neg (e : List Int) : dn (negE e) = up e := by
  unfold up dn upE dnE negE
  rw [List.map_map]
  congr 1
  apply List.map_congr_left
  intro x _
  simp
def both (e f : List Int) : List Nat := List.zipWith (fun x y => x.toNat + y.toNat - (x + y).toNat) e f
theorem up_mul (e f : List Int) (h : e.length = f.length) : up e * up f = pp prs (both e f) * up (addE e f) := by
  unfold up
  rw [pp_add _ _ _ (by simpa [upE] using h), pp_add _ _ _ (by simp [both, upE, addE])]
  congr 1
  apply List.ext_getElem
  · simp [both, upE, addE]
  · intro i h1 h2
    simp [both, upE, addE]
    omega
theorem dn_mul (e f : List Int) (h : e.length = f.length) : dn e * dn f = pp prs (both e f) * dn (addE e f) := by
  unfold dn
  rw [pp_add _ _ _ (by simpa [dnE] using h), pp_add _ _ _ (by simp [both, dnE, addE])]
  congr 1
  apply List.ext_getElem
  · simp [both, dnE, addE]
  · intro i h1 h2
    simp [both, dnE, addE]
    omega
/-- a fraction told over a common factor -/
theorem gcd_of {a b e m : Nat} (g : Nat.Coprime a b) : Nat.gcd (m * a) (m * b) = m := by
  rw [Nat.gcd_mul_left, g.gcd_eq_one, Nat.mul_one]
theorem ud_nil_iff {e : List Int} (h : e.length = 6) : up e = 1 → (∀ x ∈ e, x ≤ 0) := by
  intro u
  suffices H : ∀ {ps : List Nat} {as : List Nat}, PC ps → as.length ≤ ps.length → pp ps as = 1 → ∀ a ∈ as, a = 0 by
    intro x hx
    have := H pc_prs (by simp [upE, prs, h]) u x.toNat (List.mem_map.mpr ⟨x, hx, rfl⟩)
    omega
  intro ps
  induction ps with
  | nil =>
    intro as _ hl _ a ha
    have := List.length_eq_zero_iff.mp (Nat.le_zero.mp hl)
    rw [this] at ha
    cases ha
  | cons p ps ih =>
    intro as hp hl hu a ha
    cases as with
    | nil => cases ha
    | cons b bs =>
      have hu' : p ^ b = 1 ∧ pp ps bs = 1 := ⟨Nat.eq_one_of_mul_eq_one_right hu, Nat.eq_one_of_mul_eq_one_left hu⟩
      rcases List.mem_cons.mp ha with e | e
      · subst e
        have h1 := hu'.1
        rcases Nat.eq_zero_or_pos a with z | z
        · exact z
        · have := Nat.one_lt_pow (by omega : a ≠ 0) hp.1
          omega
      · exact ih hp.2.2 (by simpa using hl) hu'.2 a e
theorem pp_one : ∀ {ps as : List Nat}, PC ps → as.length ≤ ps.length → pp ps as = 1 → ∀ a ∈ as, a = 0
  | _, [], _, _, _, a, ha => by cases ha
  | [], b :: bs, _, hl, _, a, ha => by simp at hl
  | p :: ps, b :: bs, hp, hl, hu, a, ha => by
    have h1 : p ^ b = 1 := Nat.eq_one_of_mul_eq_one_right hu
    have h2 : pp ps bs = 1 := Nat.eq_one_of_mul_eq_one_left hu
    rcases List.mem_cons.mp ha with e | e
    · subst e
      rcases Nat.eq_zero_or_pos a with z | z
      · exact z
      · have := Nat.one_lt_pow (by omega : a ≠ 0) hp.1
        omega
    · exact pp_one hp.2.2 (by simpa using hl) h2 a e
theorem pp_drop {as : List Nat} {i : Nat} (hi : i < 6) (hl : as.length = 6) : ∃ p a, prs[i]? = some p ∧ as[i]? = some a ∧ 1 < p ∧ p ≤ 13 ∧ pp (prs.drop i) (as.drop i) = p ^ a * pp (prs.drop (i + 1)) (as.drop (i + 1)) ∧
    Nat.Coprime p (pp (prs.drop (i + 1)) (as.drop (i + 1))) ∧ 0 < pp (prs.drop (i + 1)) (as.drop (i + 1)) := by
  have h1 : i < prs.length := hi
  have h2 : i < as.length := by omega
  have hp := pc_drop i pc_prs
  rw [List.drop_eq_getElem_cons h1] at hp
  refine ⟨prs[i], as[i], List.getElem?_eq_getElem h1, List.getElem?_eq_getElem h2, hp.1, ?_, ?_, cop_pp _ hp.2.1, pp_pos _ hp.2.2⟩
  · have : ∀ p ∈ prs, p ≤ 13 := by decide
    exact this _ (List.getElem_mem h1)
  · rw [List.drop_eq_getElem_cons h1, List.drop_eq_getElem_cons h2]
    rfl
theorem pp_take : ∀ {ps as : List Nat} {i p a : Nat}, ps[i]? = some p → as[i]? = some a → pp (ps.take (i + 1)) (as.take (i + 1)) = pp (ps.take i) (as.take i) * p ^ a
  | [], _, _, _, _, h, _ => by simp at h
  | q :: ps, [], _, _, _, _, h => by simp at h
  | q :: ps, b :: bs, 0, p, a, h1, h2 => by
    simp at h1 h2
    subst h1 h2
    simp [pp]
  | q :: ps, b :: bs, i + 1, p, a, h1, h2 => by
    have ih := pp_take (ps := ps) (as := bs) (i := i) (p := p) (a := a) (by simpa using h1) (by simpa using h2)
    simp only [List.take_succ_cons, pp] at ih ⊢
    rw [ih, Nat.mul_assoc]
theorem pp_split : ∀ (i : Nat) (ps as : List Nat), ps.length = as.length → pp ps as = pp (ps.take i) (as.take i) * pp (ps.drop i) (as.drop i)
  | 0, ps, as, _ => by simp [pp]
  | i + 1, [], [], _ => by simp [pp]
  | i + 1, p :: ps, a :: as, h => by
    simp only [List.take_succ_cons, List.drop_succ_cons, pp]
    rw [pp_split i ps as (by simpa using h), Nat.mul_assoc]
theorem pp_take_le {i : Nat} {as : List Nat} (hl : as.length = 6) : pp (prs.take i) (as.take i) ≤ pp prs as := by
  rw [pp_split i prs as (by rw [hl]; rfl)]
  exact Nat.le_mul_of_pos_right _ (pp_pos _ (pc_drop i pc_prs))
def fill (as : List Nat) (i : Nat) : List Nat := as.take i ++ List.replicate (6 - i) 0
theorem fill_len {as : List Nat} {i : Nat} (hl : as.length = 6) (hi : i ≤ 6) : (fill as i).length = 6 := by
  simp [fill, hl]
  omega
theorem fill_all {as : List Nat} (hl : as.length = 6) : fill as 6 = as := by simp [fill, List.take_of_length_le (Nat.le_of_eq hl)]
theorem fill_set {as : List Nat} {i a : Nat} (hi : i < 6) (hl : as.length = 6) (ha : as[i]? = some a) : (fill as i).set i a = fill as (i + 1) := by
  apply List.ext_getElem
  · rw [List.length_set, fill_len hl (by omega), fill_len hl (by omega)]
  · intro j h1 h2
    have ha' := (List.getElem?_eq_some_iff.mp ha).2
    simp only [fill, List.getElem_set, List.getElem_append, List.length_take, List.getElem_take, List.getElem_replicate]
    by_cases e : i = j
    · subst e
      simp [hl, ha', show i < min (i + 1) 6 by omega]
    · rw [if_neg e]
      by_cases e2 : j < i
      · simp [hl, show j < min i 6 by omega, show j < min (i + 1) 6 by omega]
      · simp [hl, show ¬ j < min i 6 by omega, show ¬ j < min (i + 1) 6 by omega]
theorem fill_one {as : List Nat} {i : Nat} (hi : i < 6) (hl : as.length = 6) (h : pp (prs.drop i) (as.drop i) = 1) : fill as i = as := by
  have z := pp_one (pc_drop i pc_prs) (by simp [prs, hl]) h
  apply List.ext_getElem
  · rw [fill_len hl (by omega), hl]
  · intro j h1 h2
    simp only [fill, List.getElem_append, List.length_take, List.getElem_take, List.getElem_replicate]
    by_cases e : j < min i as.length
    · rw [dif_pos e]
    · rw [dif_neg e]
      have : as[j] ∈ as.drop i := by
        rw [List.mem_iff_getElem]
        exact ⟨j - i, by simp; omega, by simp [show i + (j - i) = j by omega]⟩
      exact (z _ this).symm
/-! ### how often a number divides -/
theorem split_at {p a n : Nat} (hp : 1 < p) (hc : Nat.Coprime p n) (hn : 0 < n) : ¬ p ^ 64 ∣ p ^ (a % 64) * n ∧ ¬ p ∣ n := by
  have h1 : ¬ p ∣ n := fun h => by
    have := hc.eq_one_of_dvd h
    omega
  refine ⟨fun h => h1 ?_, h1⟩
  have h2 : p ^ (a % 64 + 1) ∣ p ^ (a % 64) * n := Nat.dvd_trans (Nat.pow_dvd_pow p (by omega)) h
  rw [Nat.pow_succ] at h2
  exact Nat.dvd_of_mul_dvd_mul_left (Nat.pow_pos (by omega)) h2
theorem split_eq (p a n : Nat) : p ^ a * n = (p ^ 64) ^ (a / 64) * (p ^ (a % 64) * n) := by
  rw [← Nat.mul_assoc, ← Nat.pow_mul, ← Nat.pow_add, Nat.div_add_mod]
theorem pow_inj {p a b A B : Nat} (hp : 1 < p) (hA : Nat.Coprime p A) (h : p ^ a * A = p ^ b * B) : b ≤ a := by
  rcases Nat.lt_or_ge a b with c | c
  · exfalso
    have e : b = a + (b - a - 1 + 1) := by omega
    rw [e, Nat.pow_add, Nat.mul_assoc, Nat.pow_succ] at h
    have h2 := Nat.eq_of_mul_eq_mul_left (Nat.pow_pos (Nat.lt_trans Nat.one_pos hp)) h
    have : p ∣ A := ⟨p ^ (b - a - 1) * B, by rw [h2]; ac_rfl⟩
    have := hA.eq_one_of_dvd this
    omega
  · exact c
theorem pp_inj : ∀ {ps as bs : List Nat}, PC ps → as.length = ps.length → bs.length = ps.length → pp ps as = pp ps bs → as = bs
  | [], [], [], _, _, _, _ => rfl
  | p :: ps, a :: as, b :: bs, hp, h1, h2, h => by
    have cA := cop_pp (k := p) as hp.2.1
    have cB := cop_pp (k := p) bs hp.2.1
    have l1 := pow_inj hp.1 cA h
    have l2 := pow_inj hp.1 cB h.symm
    obtain rfl : a = b := by omega
    have h3 := Nat.eq_of_mul_eq_mul_left (Nat.pow_pos (Nat.lt_trans Nat.one_pos hp.1)) (show p ^ a * pp ps as = p ^ a * pp ps bs from h)
    rw [pp_inj hp.2.2 (by simpa using h1) (by simpa using h2) h3]
theorem e_inj {e f : List Int} (he : e.length = 6) (hf : f.length = 6) (hu : up e = up f) (hd : dn e = dn f) : e = f := by
  have a := pp_inj pc_prs (by simp [upE, he, prs]) (by simp [upE, hf, prs]) (show pp prs (upE e) = pp prs (upE f) from hu)
  have b := pp_inj pc_prs (by simp [dnE, he, prs]) (by simp [dnE, hf, prs]) (show pp prs (dnE e) = pp prs (dnE f) from hd)
  apply List.ext_getElem (by omega)
  intro i h1 h2
  have a' : (upE e)[i]? = (upE f)[i]? := by rw [a]
  have b' : (dnE e)[i]? = (dnE f)[i]? := by rw [b]
  simp [upE, dnE, h1, h2] at a' b'
  omega
theorem toNat_mulN (n : Nat) (x : Int) : ((n : Int) * x).toNat = n * x.toNat := by
  rcases Int.le_total 0 x with c | c
  · obtain ⟨k, rfl⟩ := Int.eq_ofNat_of_zero_le c
    rw [← Int.natCast_mul, Int.toNat_natCast, Int.toNat_natCast]
  · rw [Int.toNat_of_nonpos c, Int.toNat_of_nonpos (Int.mul_nonpos_of_nonneg_of_nonpos (by omega) c), Nat.mul_zero]
theorem up_pow (n : Nat) (e : List Int) : up e ^ n = up (mulE n e) := by
  unfold up
  rw [pp_pow]
  congr 1
  apply List.ext_getElem
  · simp [upE, mulE]
  · intro i h1 h2
    simp only [upE, mulE, List.getElem_map, toNat_mulN]
theorem neg_mulE (n : Int) (e : List Int) : negE (mulE n e) = mulE (-n) e := by
  apply List.ext_getElem
  · simp [negE, mulE]
  · intro i h1 h2
    simp [negE, mulE, Int.neg_mul]
theorem mul_negE (n : Int) (e : List Int) : mulE n (negE e) = mulE (-n) e := by
  apply List.ext_getElem
  · simp [negE, mulE]
  · intro i h1 h2
    simp [negE, mulE, Int.neg_mul, Int.mul_neg]
theorem dn_pow (n : Nat) (e : List Int) : dn e ^ n = dn (mulE n e) := by
  rw [← up_neg, ← up_neg, up_pow, mul_negE, neg_mulE]
theorem pp_at {as : List Nat} {i : Nat} (hi : i < 6) (hl : as.length = 6) : ∃ p a r, prs[i]? = some p ∧ as[i]? = some a ∧ 1 < p ∧ p ≤ 13 ∧ pp prs as = p ^ a * r ∧ 0 < r ∧ ¬ p ∣ r := by
  obtain ⟨p, a, e1, e2, g1, g2, g3, g4, g5⟩ := pp_drop hi hl
  have c1 : ∀ i : Fin 6, ∀ q ∈ prs.take i.val, Nat.Coprime (prs[i.val]'i.isLt) q := by decide
  have ep : prs[i]'hi = p := (List.getElem?_eq_some_iff.mp e1).2
  have c2 := c1 ⟨i, hi⟩
  simp only [ep] at c2
  have cop : Nat.Coprime p (pp (prs.take i) (as.take i) * pp (prs.drop (i + 1)) (as.drop (i + 1))) := Nat.Coprime.mul_right (cop_pp _ c2) g4
  refine ⟨p, a, pp (prs.take i) (as.take i) * pp (prs.drop (i + 1)) (as.drop (i + 1)), e1, e2, g1, g2, ?_, Nat.mul_pos (pp_pos _ (pc_take i pc_prs)) g5, fun h => ?_⟩
  · rw [pp_split i prs as (by rw [hl]; rfl), g3]
    ac_rfl
  · have := cop.eq_one_of_dvd h
    omega
end TL
namespace TL
open PySem PySem.Spec PyProof.Rows L2
theorem repr_X {prog : Program} {w : World} {A : Around} {E' : Value → Shared → Prop} {s : Shared} {K : PySem.W.Frag} {x C f : Addr} {ox : Obj} {od : Option Obj} {Q : Value → Shared → Prop} (hu : A.in1.units < cLine) (X₀ : K.In s.heap) (I : PySem.W.InstAt s.heap x ox C od) (hs : PySem.W.findIn K (.ref C) "__repr__" = some (some (.ref f)))
    (hf : PySem.W.isFn K (.ref f) = true) (h : wpAny (model prog w) A.in1 (call (.ref f) [.ref x]) (fun r s' => ∃ b t, r = Value.str b t ∧ Q r s') E' s) : wpAny (model prog w) A (call (.builtin "repr") [.ref x]) Q E' s := by
  refine Calls.call_function_entry PySem.F.kind_repr PySem.F.plain_repr PySem.F.entry_repr (PySem.F.args_repr1 _) (show wpAny _ _ (Builtin.«repr» _) _ _ s from ?_)
  unfold Builtin.«repr»
  refine wpAny_bind (m := oneArg "repr" _) (wpAny_pure (wpAny_bind (wpAny_cRoomFor hu (wpAny_bind (wpAny_bind (I.type.here ((PySem.W.looks_findIn X₀ hs).here ?_)))))))
  show wpAny _ _ (if (some (Value.ref f)).isNone = true then _ else _) _ _ s
  refine (if_neg (by simp) : (if (some (Value.ref f)).isNone = true then _ else _) = _) ▸ ?_
  refine wpAny_bind (m := callSpecialIfBound? (.ref x) (Str.ofString "__repr__") _) (PySem.W.ifBound_K X₀ I hs hf (wpAny_mono h (fun r s' ⟨b, t, e, hr⟩ => ?_) fun _ _ y => y))
  subst e
  refine wpAny_bind (wpAny_isInstance (typeIs_str _ _ _) isSubtype_str_str (by first | exact wpAny_pure ⟨_, rfl, hr⟩ | (rw [if_pos rfl]; exact wpAny_pure ⟨_, rfl, hr⟩)))
section
variable {X : Cx} {CX : CXT} {k : Nat} {C f : Addr} {fd : FuncData} {ps : List Str} {sp : Sp} {E : XK}
/-! ### str(x), x an instance with its own __str__ -/
def rStrOw (C : Addr) (sp : Sp) (E : XK) : List V → Hp → VK → Prop := fun vs H Q => ∃ a dx fs, vs = [.ref a] ∧ H a = some (.ins C dx fs) ∧ sp [.ref a] H (fun v H' => ∃ b, v = .str b ∧ Q v H') E
theorem call_strOw (at_ : PySem.W.findIn X.K (.ref C) "__str__" = some (some (.ref f))) (fn : PySem.W.isFn X.K (.ref f) = true) (F : FnOk X.prog X.w X.K X.mg X.base CX k f fd ps sp) (hr : Room (k + 2) X.A) (hb : Binds X.K fd ps []) (hx : Passes CX X E) :
    CallR X (.type "str") (rStrOw C sp E) := by
  intro pins s σ H vs us Q I r h
  obtain ⟨a, dx, fs, rfl, ha, q⟩ := h
  obtain rfl := Vals.ref1 r
  obtain ⟨od, J⟩ := inst_at I ha
  have hr2 : Room k X.A.in1.in1 := (show Room (k + 1) X.A.in1 from Room.in1 hr).in1
  refine PySem.W.kso_call (by have := hr2.units; omega) I.kIn J at_ fn (wpAny_mono (run_at2 (us := [.ref a]) (ws := [.ref a]) F hr2 I.env0.in1.in1 hb hx I (.cons rfl .nil) q) (fun w s' z => ?_) fun _ _ x => x)
  obtain ⟨z', H', I', rz, b, rfl, qz⟩ := z
  obtain ⟨t, rfl⟩ := rz
  exact ⟨.str b, H', I', ⟨t, rfl⟩, qz⟩
/-! ### repr(x), x an instance with its own __repr__ -/
theorem call_reprOw (at_ : PySem.W.findIn X.K (.ref C) "__repr__" = some (some (.ref f))) (fn : PySem.W.isFn X.K (.ref f) = true) (F : FnOk X.prog X.w X.K X.mg X.base CX k f fd ps sp) (hr : Room (k + 1) X.A) (hb : Binds X.K fd ps []) (hx : Passes CX X E) :
    CallR X (.builtin "repr") (rStrOw C sp E) := by
  intro pins s σ H vs us Q I r h
  obtain ⟨a, dx, fs, rfl, ha, q⟩ := h
  obtain rfl := Vals.ref1 r
  obtain ⟨od, J⟩ := inst_at I ha
  have hr1 : Room k X.A.in1 := Room.in1 hr
  refine repr_X (by have := hr1.units; omega) I.kIn J at_ fn (wpAny_mono (run_at2 (us := [.ref a]) (ws := [.ref a]) F hr1 I.env0.in1 hb hx I (.cons rfl .nil) q) (fun w s' z => ?_) fun _ _ x => x)
  obtain ⟨z', H', I', rz, b, rfl, qz⟩ := z
  obtain ⟨t, rfl⟩ := rz
  exact ⟨b, t, rfl, .str b, H', I', ⟨t, rfl⟩, qz⟩
/-! ### o.m(k = v, ..), a method called by names alone -/
def tMethK (C : Addr) (m : Str) (sp : Sp) (gV : List V → List V → List V) (E : XK) (ta : TE) (tk : TA) : TE := fun σ H Q => ta σ H fun x H1 => ∃ a dx fs, x = .ref a ∧ H1 a = some (.ins C dx fs) ∧ fs.lookup m = none ∧
  tk σ H1 fun zs H2 => sp (gV [x] zs) H2 Q E
theorem pe_methK {o : Expr} {m : Str} {apos pos : Pos} {kws : List Keyword} {ta : TE} {tk : TA} {ks : List Str} {g : List Value → List Value → List Value} {gV : List V → List V → List V} {pl : Sem Bool} (he : PE X o ta) (c : Cls X.K C) (hm : Meth X.K C m f) (F : FnOk X.prog X.w X.K X.mg X.base CX k f fd ps sp) (hr : Room k X.A)
    (hb : KBinds X.K fd ps ks g gV) (hx : Passes CX X E) (hkw : PK X kws tk) (hall : (backToKw pos (keywordEach kws X.env)).all (·.1.isSome) = true := by rfl) (hks : (backToKw pos (keywordEach kws X.env)).filterMap (·.1) = ks := by rfl)
    (hpl : ((backTo pos (starEach [] X.env)).any (·.1) || (backToKw pos (keywordEach kws X.env)).any (·.1.isNone)) = false := by rfl)
    (ht : eval (.Call (.Attribute o m apos) [] kws pos) X.env = (do
      let ov ← eval o X.env
      standAt apos.atName
      let (f, first) ← holding [ov] (getMethod ov m pl)
      callWith pos f first (backTo pos (starEach [] X.env)) (backToKw pos (keywordEach kws X.env))) := by rfl) : PE X (.Call (.Attribute o m apos) [] kws pos) (tMethK C m sp gV E ta tk) := by
  refine ⟨fun pins s σ H Q I h => PySem.W.methodCall_KW (pl := pl) (thn (he.run pins s σ H _ I h) fun u s1 ⟨x, H1, I1, rx, a, dx, fs, ex, ea, l, q⟩ => ?_) ht⟩
  subst ex
  obtain rfl : u = Value.ref a := rx
  refine getmeth_ok I1 ea c hm l (PySem.W.callWith_KW0 (first := [.ref a]) (h₀ := X.base) I.ok.mod.kin hm.kp hall (thn (hkw.run pos pins s1 σ H1 _ I1 q) fun ws s2 ⟨zs, H2, I2, rz, q2⟩ => ⟨I2.kIn, ?_⟩) hpl)
  rw [hks]
  exact run_fnk (us := [.ref a]) (vs := [.ref a]) F hr hb hx I2 (.cons rfl .nil) rz q2
/-! ### C.m(..), m a staticmethod of C: its record at p, its def at f -/
structure SMet (K : PySem.W.Frag) (C : Addr) (m : Str) (p f : Addr) : Prop where
  at_ : PySem.W.findCls K (.ref C) (.type "type") m = some (.get (.builtin "staticmethod.__get__") (.ref p) .none (.ref C))
  rc : ∃ rest, PySem.W.recIn K p "staticmethod" = some (.ref f :: rest)
  kp : PySem.W.keepIn K (.ref f) = true
theorem getsm_ok {pins : List (Addr × Obj)} {σ : L2.St} {H : Hp} {s : Shared} {A : Around} {E : Value → Shared → Prop} {m : Str} {p : Addr} {pl : Sem Bool} {Q : Value × List Value → Shared → Prop} (I : Inv X pins σ H s) (r : ClX.CRead X.K C (.type "type")) (c : SMet X.K C m p f)
    (h : ∀ s', Inv X pins σ H s' → Q (.ref f, []) s') : wpAny (model X.prog X.w) A (getMethod (.ref C) m pl) Q E s := by
  obtain ⟨rest, hp⟩ := c.rc
  exact PySem.W.method_cls I.kIn r.ga (PySem.W.cls_bind I.kIn r.rd c.at_ (wpAny_call (PySem.W.sm_get (s := { s with toks := s.toks + 1 }) I.kIn hp (PySem.W.handed_on rfl (h _ (I.tok _))))))
def tSm (C : Addr) (sp : Sp) (dvs : List V) (E : XK) (ta : TE) (t : TA) : TE := fun σ H Q => ta σ H fun x H1 => x = .ref C ∧ t σ H1 fun vs H2 => sp (vs ++ dvs) H2 Q E
theorem pe_sm {o e : Expr} {es : List Expr} {m : Str} {p : Addr} {apos pos : Pos} {ta : TE} {t : TA} {dvs : List V} {ds : List Value} {pl : Sem Bool} (he : PE X o ta) (r : ClX.CRead X.K C (.type "type")) (c : SMet X.K C m p f) (F : FnOk X.prog X.w X.K X.mg X.base CX k f fd ps sp) (hr : Room k X.A) (hb : Binds X.K fd ps ds) (hd : Vals dvs ds) (hx : Passes CX X E)
    (ha : PA X (e :: es) t) (hst : starEach (e :: es) X.env = (false, eval e X.env) :: starEach es X.env := by rfl) (hpl : (backTo pos (starEach es X.env)).any (·.1) = false := by rfl)
    (ht : eval (.Call (.Attribute o m apos) (e :: es) [] pos) X.env = (do
      let ov ← eval o X.env
      standAt apos.atName
      let (f, first) ← holding [ov] (getMethod ov m pl)
      callWith pos f first (backTo pos (starEach (e :: es) X.env)) (backToKw pos (keywordEach [] X.env))) := by rfl) : PE X (.Call (.Attribute o m apos) (e :: es) [] pos) (tSm C sp dvs E ta t) := by
  refine ⟨fun pins s σ H Q I h => PySem.W.methodCall_KW (pl := pl) (thn (he.run pins s σ H _ I h) fun u s1 ⟨x, H1, I1, rx, ex, q⟩ => ?_) ht⟩
  subst ex
  obtain rfl : u = Value.ref C := rx
  refine getsm_ok I1 r c fun s2 I2 => PySem.W.callWith_K (first := []) (h₀ := X.base) I.ok.mod.kin c.kp (thn (ha.run pos pins s2 σ H1 _ I2 q) fun us s3 ⟨vs, H2, I3, rv, q2⟩ => ⟨I3.kIn, ?_⟩) hst hpl
  exact run_fn (us := us) (vs := vs) F hr hb hd hx I3 rv q2
def tSmK (C : Addr) (sp : Sp) (gV : List V → List V → List V) (E : XK) (ta : TE) (tk : TA) : TE := fun σ H Q => ta σ H fun x H1 => x = .ref C ∧ tk σ H1 fun zs H2 => sp (gV [] zs) H2 Q E
theorem pe_smK {o : Expr} {m : Str} {p : Addr} {apos pos : Pos} {kws : List Keyword} {ta : TE} {tk : TA} {ks : List Str} {g : List Value → List Value → List Value} {gV : List V → List V → List V} {pl : Sem Bool} (he : PE X o ta) (r : ClX.CRead X.K C (.type "type")) (c : SMet X.K C m p f) (F : FnOk X.prog X.w X.K X.mg X.base CX k f fd ps sp) (hr : Room k X.A)
    (hb : KBinds X.K fd ps ks g gV) (hx : Passes CX X E) (hkw : PK X kws tk) (hall : (backToKw pos (keywordEach kws X.env)).all (·.1.isSome) = true := by rfl) (hks : (backToKw pos (keywordEach kws X.env)).filterMap (·.1) = ks := by rfl)
    (hpl : ((backTo pos (starEach [] X.env)).any (·.1) || (backToKw pos (keywordEach kws X.env)).any (·.1.isNone)) = false := by rfl)
    (ht : eval (.Call (.Attribute o m apos) [] kws pos) X.env = (do
      let ov ← eval o X.env
      standAt apos.atName
      let (f, first) ← holding [ov] (getMethod ov m pl)
      callWith pos f first (backTo pos (starEach [] X.env)) (backToKw pos (keywordEach kws X.env))) := by rfl) : PE X (.Call (.Attribute o m apos) [] kws pos) (tSmK C sp gV E ta tk) := by
  refine ⟨fun pins s σ H Q I h => PySem.W.methodCall_KW (pl := pl) (thn (he.run pins s σ H _ I h) fun u s1 ⟨x, H1, I1, rx, ex, q⟩ => ?_) ht⟩
  subst ex
  obtain rfl : u = Value.ref C := rx
  refine getsm_ok I1 r c fun s2 I2 => PySem.W.callWith_KW0 (first := []) (h₀ := X.base) I.ok.mod.kin c.kp hall (thn (hkw.run pos pins s2 σ H1 _ I2 q) fun ws s3 ⟨zs, H2, I3, rz, q2⟩ => ⟨I3.kIn, ?_⟩) hpl
  rw [hks]
  exact run_fnk (us := []) (vs := []) F hr hb hx I3 .nil rz q2
/-! ### x == y, x an instance with its own __eq__, y something else -/
def rOwN (K : PySem.W.Frag) (C : Addr) (sp : Sp) (E : XK) : R2 := fun x y H Q => ∃ a dx fs t, x = .ref a ∧ H a = some (.ins C dx fs) ∧ TyX K H y (.type t) ∧ PySem.W.subIn K (.type t) (.ref C) = some false ∧ sp [x, y] H Q E
theorem op_owEqN (at_ : PySem.W.findIn X.K (.ref C) "__eq__" = some (some (.ref f))) (fn : PySem.W.isFn X.K (.ref f) = true) (F : FnOk X.prog X.w X.K X.mg X.base CX k f fd ps sp) (hr : Room k X.A) (hb : Binds X.K fd ps []) (hx : Passes CX X E) :
    OpR X (compareOp .Eq) (rOwN X.K C sp E) := by
  intro pins s σ H x y v u Q I rx ry h
  obtain ⟨a, dx, fs, t, rfl, ha, ty, hsub, q⟩ := h
  cases (show v = Value.ref a from rx)
  obtain ⟨od, J⟩ := inst_at I ha
  obtain ⟨P, Z, hP, _⟩ := kit_of I ry ty
  obtain ⟨m, hF⟩ := I.fr
  refine PySem.W.cmp_K (op := .Eq) (tb := .type t) hr.units0 hF I.ok.mod.kin J (Z.ty _ s.heap I.kIn hP) (by simp [PySem.W.notFirst, hsub]) at_ fn ?_
  refine wpAny_mono (run_fn (us := [.ref a, u]) (vs := [.ref a, y]) F hr hb .nil hx I (.cons rfl (.cons ry .nil)) q) (fun w s' z => ?_) fun _ _ x => x
  obtain ⟨z', H', I', rz, qz⟩ := z
  exact cb rz ⟨z', H', I', rz, qz⟩
end
end TL
namespace TL
open PySem L2
/-! ### how keywords bind: one value by place and one by name, or one by name alone -/
def g11 {α : Type} : List α → List α → List α
  | [a], [b] => [a, b]
  | _, _ => []
def g01 {α : Type} : List α → List α → List α
  | [], [a] => [a]
  | _, _ => []
theorem vals_g11 {vs zs : List V} {us ws : List Value} (r : Vals vs us) (q : Vals zs ws) : Vals (g11 vs zs) (g11 us ws) := by
  rcases r with _ | ⟨h1, _ | ⟨_, _⟩⟩ <;> rcases q with _ | ⟨h2, _ | ⟨_, _⟩⟩ <;> first | exact .nil | exact .cons h1 (.cons h2 .nil)
theorem vals_g01 {vs zs : List V} {us ws : List Value} (r : Vals vs us) (q : Vals zs ws) : Vals (g01 vs zs) (g01 us ws) := by
  rcases r with _ | ⟨h1, _ | ⟨_, _⟩⟩ <;> rcases q with _ | ⟨h2, _ | ⟨_, _⟩⟩ <;> first | exact .nil | exact .cons h2 .nil
theorem g11_two {α : Type} {us ws : List α} (h : (g11 us ws).length = 2) : ∃ a b, us = [a] ∧ ws = [b] := by
  match us, ws, h with
  | [a], [b], _ => exact ⟨a, b, rfl, rfl⟩
  | [], _, h => simp [g11] at h
  | _ :: _ :: _, _, h => simp [g11] at h
  | [_], [], h => simp [g11] at h
  | [_], _ :: _ :: _, h => simp [g11] at h
theorem g01_one {α : Type} {us ws : List α} (h : (g01 us ws).length = 1) : ∃ a, us = [] ∧ ws = [a] := by
  match us, ws, h with
  | [], [a], _ => exact ⟨a, rfl, rfl⟩
  | _ :: _, _, h => simp [g01] at h
  | [], [], h => simp [g01] at h
  | [], _ :: _ :: _, h => simp [g01] at h
theorem Fun.kb11 {K : PySem.W.Frag} {x qual : Str} {st : Stmt} {f : Addr} {fd : FuncData} {p1 p2 : Str} (F : L2.Fun K x qual st f fd)
    (h : ∀ (kV doc pm : Value) (an : Option Addr) (cdv ct a b : Value), bindArgs (PySem.W.fnOf x qual (defArgs st) (defBody st) (defScope st) .none kV doc pm an cdv ct) ⟨[a], [(p2, b)]⟩ = pure [(p1, a), (p2, b)]) : KBinds K fd [p1, p2] [p2] g11 g11 := by
  obtain ⟨oc, od, kV, doc, pm, an, cdv, ct, osl, rfl, lk, hcd⟩ := F.ex
  refine ⟨fun s us ws X hl => ?_, vals_g11⟩
  obtain ⟨a, b, rfl, rfl⟩ := g11_two hl
  exact .of_eq (h _ _ _ _ _ _ a b)
theorem Fun.kb01 {K : PySem.W.Frag} {x qual : Str} {st : Stmt} {f : Addr} {fd : FuncData} {p1 : Str} (F : L2.Fun K x qual st f fd)
    (h : ∀ (kV doc pm : Value) (an : Option Addr) (cdv ct a : Value), bindArgs (PySem.W.fnOf x qual (defArgs st) (defBody st) (defScope st) .none kV doc pm an cdv ct) ⟨[], [(p1, a)]⟩ = pure [(p1, a)]) : KBinds K fd [p1] [p1] g01 g01 := by
  obtain ⟨oc, od, kV, doc, pm, an, cdv, ct, osl, rfl, lk, hcd⟩ := F.ex
  refine ⟨fun s us ws X hl => ?_, vals_g01⟩
  obtain ⟨a, rfl, rfl⟩ := g01_one hl
  exact .of_eq (h _ _ _ _ _ _ a)
/-- a def with defaults, called with keywords, all parameters written: g puts them in order -/
theorem FunD.kbinds1 {K : PySem.W.Frag} {x qual : Str} {params : Arguments} {body : List Stmt} {scope : Scope} {dvs : List V} {kws : List (Str × V)} {f : Addr} {fd : FuncData} {ps : List Str} (F : FunD K x qual params body scope dvs kws f fd) (n : Nat) (ks : List Str) (g : {α : Type} → List α → List α → List α) (hd : dvs ≠ [])
    (hrel : ∀ {vs zs : List V} {us ws : List Value}, Vals vs us → Vals zs ws → Vals (g vs zs) (g us ws))
    (h : ∀ (T : Addr) (kV doc pm : Value) (an : Option Addr) (cdv ct : Value) (us its ws : List Value), us.length = n → its.length = dvs.length → ws.length = ks.length →
      ∃ k, bindArgs (PySem.W.fnOf x qual params body scope (.ref T) kV doc pm an cdv ct) ⟨us, ks.zip ws⟩ = seqItems? (.ref T) >>= k ∧ k (some its.toArray) = pure (ps.zip (g us ws))) : KBn K fd ps n ks (fun us ws => g us ws) (fun vs zs => g vs zs) := by
  obtain ⟨oc, od, dV, kV, doc, pm, an, cdv, ct, osl, rfl, lk, hcd, hD, hK⟩ := F.ex
  rcases hD with ⟨e, _⟩ | ⟨_, T, o, its, m, rfl, lT, oT, rT⟩
  · exact absurd e hd
  · refine ⟨fun s us ws X l1 l2 => BindsTo.of_looks fun M => ?_, hrel⟩
    obtain ⟨k, e1, e2⟩ := h T kV doc pm an cdv ct us its ws l1 rT.length.symm l2
    rw [e1]
    exact looks_items X lT oT (.of_pure e2)
/-- the two values by name, the second parameter first -/
def gSwap {α : Type} (us ws : List α) : List α := us ++ ws.reverse
theorem vals_rev {vs : List V} {us : List Value} (r : Vals vs us) : Vals vs.reverse us.reverse := by
  induction r with
  | nil => exact .nil
  | cons h _ ih => rw [List.reverse_cons, List.reverse_cons]; exact ih.append (.cons h .nil)
theorem vals_swap {vs zs : List V} {us ws : List Value} (r : Vals vs us) (q : Vals zs ws) : Vals (gSwap vs zs) (gSwap us ws) := r.append (vals_rev q)
def gApp {α : Type} (us ws : List α) : List α := us ++ ws
theorem vals_app {vs zs : List V} {us ws : List Value} (r : Vals vs us) (q : Vals zs ws) : Vals (gApp vs zs) (gApp us ws) := r.append q
end TL
namespace TL
open PySem L2
/-! ### a def called by names alone -/
section
variable {X : Cx} {CX : CXT} {k : Nat} {x : Str} {f : Addr} {fd : FuncData} {ps ks : List Str} {sp : Sp} {E : XK} {tk : TA} {kws : List Keyword} {p pos : Pos} {g : List Value → List Value → List Value} {gV : List V → List V → List V}
def tCallK0 (sp : Sp) (gV : List V → List V → List V) (E : XK) (tk : TA) : TE := fun σ H Q => tk σ H fun zs H2 => sp (gV [] zs) H2 Q E
theorem pe_callK0 (F : FnOk X.prog X.w X.K X.mg X.base CX k f fd ps sp) (hr : Room k X.A) (hg : Gl X x) (hm : X.mg x = some (.ref f)) (hk : PySem.W.keepIn X.K (.ref f) = true) (hb : KBinds X.K fd ps ks g gV) (hx : Passes CX X E)
    (hkw : PK X kws tk) (hall : (backToKw pos (keywordEach kws X.env)).all (·.1.isSome) = true := by rfl) (hks : (backToKw pos (keywordEach kws X.env)).filterMap (·.1) = ks := by rfl)
    (hdb : (x == ("__debug__" : Str)) = false := by decide)
    (hpl : ((backTo pos (starEach [] X.env)).any (·.1) || (backToKw pos (keywordEach kws X.env)).any (·.1.isNone)) = false := by rfl) :
    PE X (.Call (.Name x p) [] kws pos) (tCallK0 sp gV E tk) := by
  refine ⟨fun pins s σ H Q I h => ?_⟩
  refine wpAny_Call_Name_kw (ld_glob I hg hm ?_ hdb)
  refine PySem.W.callWith_KW0 (first := []) (h₀ := X.base) I.ok.mod.kin hk hall (thn (hkw.run pos pins s σ H _ I h) fun ws s2 ⟨zs, H2, I2, rz, q2⟩ => ⟨I2.kIn, ?_⟩) hpl
  rw [hks]
  exact run_fnk (us := []) (vs := []) F hr hb hx I2 .nil rz q2
end
/-- two values by name, the second parameter first -/
def g02s {α : Type} : List α → List α → List α
  | [], [a, b] => [b, a]
  | _, _ => []
theorem vals_g02s {vs zs : List V} {us ws : List Value} (r : Vals vs us) (q : Vals zs ws) : Vals (g02s vs zs) (g02s us ws) := by
  rcases r with _ | ⟨h1, _⟩
  · rcases q with _ | ⟨h2, _ | ⟨h3, _ | ⟨_, _⟩⟩⟩ <;> first | exact .nil | exact .cons h3 (.cons h2 .nil)
  · exact .nil
theorem g02s_two {α : Type} {us ws : List α} (h : (g02s us ws).length = 2) : ∃ a b, us = [] ∧ ws = [a, b] := by
  match us, ws, h with
  | [], [a, b], _ => exact ⟨a, b, rfl, rfl⟩
  | _ :: _, _, h => simp [g02s] at h
  | [], [], h => simp [g02s] at h
  | [], [_], h => simp [g02s] at h
  | [], _ :: _ :: _ :: _, h => simp [g02s] at h
theorem Fun.kb02s {K : PySem.W.Frag} {x qual : Str} {st : Stmt} {f : Addr} {fd : FuncData} {p1 p2 : Str} (F : L2.Fun K x qual st f fd)
    (h : ∀ (kV doc pm : Value) (an : Option Addr) (cdv ct a b : Value), bindArgs (PySem.W.fnOf x qual (defArgs st) (defBody st) (defScope st) .none kV doc pm an cdv ct) ⟨[], [(p2, b), (p1, a)]⟩ = pure [(p1, a), (p2, b)]) : KBinds K fd [p1, p2] [p2, p1] g02s g02s := by
  obtain ⟨oc, od, kV, doc, pm, an, cdv, ct, osl, rfl, lk, hcd⟩ := F.ex
  refine ⟨fun s us ws X hl => ?_, vals_g02s⟩
  obtain ⟨a, b, rfl, rfl⟩ := g02s_two hl
  exact .of_eq (h _ _ _ _ _ _ b a)
end TL
namespace PySem.W
open PySem PySem.Spec PySem.Calls PyProof.Rows
section
variable {prog : Program} {w : World} {A : Around} {E : Value → Shared → Prop} {s : Shared} {K : Frag} {x C L : Addr} {h₀ : Heap} {m : Str → Option Value} {ox : Obj} {od : Option Obj} {f : Addr} {b tb : Value} {name : Str} {id : String}
theorem ifBound_KB {M : Model} {args : List Value} {Q : Option Value → Shared → Prop} (X : K.In s.heap) (I : InstAt s.heap x ox C od) (hs : findIn K (.ref C) name = some (some (.builtin id))) (hb : ∀ self, bindSpecial (.builtin id) self = pure (.builtin id, [self]))
    (h : wpAny M A (call (.builtin id) (.ref x :: args)) (fun v => Q (some v)) E s) : wpAny M A (callSpecialIfBound? (.ref x) name args) Q E s := by
  simp only [callSpecialIfBound?, bindSpecialIfBound?]
  refine wpAny_holding (wpAny_bind (wpAny_bind (wpAny_bind (I.type.here ((looks_findIn X hs).here ?_)))))
  refine wpAny_bind (wpAny_askSetting (wpAny_ite ?_))
  have fin : wpAny M A (call (.builtin id) ([.ref x] ++ args) >>= fun v => pure (some v)) Q E s := wpAny_bind (wpAny_mono h (fun v s' h' => wpAny_pure h') fun _ _ h' => h')
  split
  · exact wpAny_bind ((Looks.of_pure (hb _)).here (wpAny_pure (by exact fin)))
  · exact wpAny_tryCatch (wpAny_bind ((Looks.of_pure (hb _)).here (wpAny_pure (by exact fin))))
open Builtin in
theorem one_ne {Q : Value → Shared → Prop} (hu : A.in1.units < cLine) (X : K.In s.heap) (I : InstAt s.heap x ox C od) (hm : mroIn K C (.type "object") = some true) (hr : findIn K (.ref C) "__eq__" = some (some (.ref f))) (hf : isFn K (.ref f) = true)
    (h : wpAny (model prog w) A.in1 (call (.ref f) [.ref x, b]) (fun v s' => ∃ c, v = .bool c ∧ Q (.bool (!c)) s') E s) : wpAny (model prog w) A (call (.builtin "object.__ne__") [.ref x, b]) Q E s := by
  refine wpAny_call (codeAny_call_builtin PySem.F.cmp_object.ne.plain PySem.F.cmpEntry_ne (check_slot (i := "object.__ne__") (owner := "object") (n := "__ne__") (by decide +kernel) (by decide +kernel) (I.type.andThen (looks_mroIn X hm)) (PySem.F.cmpArgs_ne _ _) ?_))
  unfold Builtin.«object.__ne__»
  refine wpAny_bind (m := slotArgs "__ne__" 1 _) (wpAny_pure ?_)
  refine wpAny_bind (m := cRoomFor _ _) (wpAny_cRoomFor hu ?_)
  refine wpAny_bind (m := callSpecialIfBound? (.ref x) (Str.ofString "__eq__") _) (ifBound_K X I hr hf (wpAny_mono h (fun r s' hq => ?_) fun _ _ y => y))
  obtain ⟨c, rfl, hq⟩ := hq
  exact wpAny_bind (wpAny_truthy_bool (wpAny_pure hq))
theorem cmp_KNe {Q : Value → Shared → Prop} (hu : A.units < cLine) (hu1 : A.in1.units < cLine) (F : Fr h₀ L s.heap m) (X₀ : K.In h₀) (I : InstAt s.heap x ox C od) (hb : Looks (model prog w) s.heap (typeOf b) tb) (hn : notFirst K C tb = true)
    (hne : findIn K (.ref C) "__ne__" = some (some (.builtin "object.__ne__"))) (hm : mroIn K C (.type "object") = some true) (hs : findIn K (.ref C) "__eq__" = some (some (.ref f))) (hf : isFn K (.ref f) = true)
    (h : wpAny (model prog w) A.in1 (call (.ref f) [.ref x, b]) (fun v s' => ∃ c, v = .bool c ∧ Q (.bool (!c)) s') E s) : wpAny (model prog w) A (richCompare .NotEq (.ref x) b) Q E s := by
  have X := X₀.keeps F.keep
  have one : wpAny (model prog w) A (tryCompare (.ref x) (cmpInfo .NotEq).2.1 b) (fun r s' => ∃ v, r = some v ∧ Q v s') E s := by
    unfold tryCompare
    refine wpAny_bind (ifBound_KB X I hne PySem.F.cmp_object.ne.bind (one_ne hu1 X I hm hs hf (wpAny_mono h (fun v s' hv => ?_) fun _ _ e => e)))
    obtain ⟨c, rfl, hq⟩ := hv
    exact ⟨c, rfl, wpAny_pure ⟨_, rfl, hq⟩⟩
  unfold richCompare
  simp only [oneThing_ref]
  refine wpAny_holding (wpAny_bind (wpAny_cRoomFor hu ?_))
  refine wpAny_bind (I.type.here (wpAny_bind (hb.here ?_)))
  split
  · rename_i q
    have e : subIn K tb (.ref C) = some false := by
      rcases Bool.or_eq_true_iff.mp hn with e | e
      · rw [beq_iff_eq.mp e] at q; simp at q
      · exact beq_iff_eq.mp e
    refine wpAny_bind ((looks_subIn X e).here ?_)
    simp only [Bool.false_eq_true, if_false]
    refine wpAny_bind (wpAny_mono one (fun r s' z => ?_) fun _ _ e => e)
    obtain ⟨v, rfl, hq⟩ := z
    exact wpAny_pure hq
  · refine wpAny_bind (wpAny_pure ?_)
    simp only [Bool.false_eq_true, if_false]
    refine wpAny_bind (wpAny_mono one (fun r s' z => ?_) fun _ _ e => e)
    obtain ⟨v, rfl, hq⟩ := z
    exact wpAny_pure hq
end
end PySem.W
namespace TL
open PySem L2
section
variable {X : Cx} {C f : Addr} {k : Nat} {fd : FuncData} {ps : List Str} {sp : Sp} {CX : CXT} {E : XK}
/-- x != y, both instances of the class at C that has __eq__ alone -/
def rOwNe (C : Addr) (sp : Sp) (E : XK) : R2 := fun x y H Q => ∃ a dx fs b dy gs, x = .ref a ∧ y = .ref b ∧ H a = some (.ins C dx fs) ∧ H b = some (.ins C dy gs) ∧ sp [x, y] H (fun v H' => ∃ c, v = .bl c ∧ Q (.bl (!c)) H') E
theorem op_owNe (at_ : PySem.W.findIn X.K (.ref C) "__eq__" = some (some (.ref f))) (fn : PySem.W.isFn X.K (.ref f) = true) (ne : PySem.W.findIn X.K (.ref C) "__ne__" = some (some (.builtin "object.__ne__"))) (hm : PySem.W.mroIn X.K C (.type "object") = some true)
    (F : FnOk X.prog X.w X.K X.mg X.base CX k f fd ps sp) (hr : Room (k + 1) X.A) (hb : Binds X.K fd ps []) (hx : Passes CX X.nox E) : OpR X (compareOp .NotEq) (rOwNe C sp E) := by
  intro pins s σ H x y v u Q I rx ry h
  obtain ⟨a, dx, fs, b, dy, gs, rfl, rfl, ha, hb', q⟩ := h
  cases (show v = Value.ref a from rx)
  cases (show u = Value.ref b from ry)
  obtain ⟨od, J⟩ := inst_at I ha
  obtain ⟨od', J'⟩ := inst_at I hb'
  obtain ⟨m, hF⟩ := I.fr
  refine PySem.W.cmp_KNe (tb := .ref C) hr.units0 hr.in1.units0 hF I.ok.mod.kin J J'.type (by simp [PySem.W.notFirst]) ne hm at_ fn ?_
  have hl : ([Value.ref a, Value.ref b] ++ []).length = ps.length := by
    rw [← F.len _ _ _ _ q]
    rfl
  refine wpAny_call (codeAny_mono (F.run X.A.in1 X.stack s H ⟨[.ref a, .ref b], []⟩ [.ref a, .ref b] [.ref a, .ref b] _ E hr.in1 I.env0.in1 (hb s [.ref a, .ref b] I.kIn hl) (.cons rfl (.cons rfl .nil)) q) fun r s' hq => ?_)
  cases r with
  | error er => exact False.elim (hx pins σ H s er s' (I.wish _) hq)
  | ok fl =>
    cases fl with
    | ret u =>
      obtain ⟨v, H', I3, rv, c, rfl, q3⟩ := I.after hq
      cases (show u = Value.bool c from rv)
      exact ⟨c, rfl, .bl (!c), H', I3, rfl, q3⟩
    | next => exact False.elim hq
    | brk => exact False.elim hq
    | cont => exact False.elim hq
end
end TL
namespace TL
open PySem L2
/-- two values by name, in order -/
def g02 {α : Type} : List α → List α → List α
  | [], [a, b] => [a, b]
  | _, _ => []
theorem vals_g02 {vs zs : List V} {us ws : List Value} (r : Vals vs us) (q : Vals zs ws) : Vals (g02 vs zs) (g02 us ws) := by
  rcases r with _ | ⟨h1, _⟩
  · rcases q with _ | ⟨h2, _ | ⟨h3, _ | ⟨_, _⟩⟩⟩ <;> first | exact .nil | exact .cons h2 (.cons h3 .nil)
  · exact .nil
theorem g02_two {α : Type} {us ws : List α} (h : (g02 us ws).length = 2) : ∃ a b, us = [] ∧ ws = [a, b] := by
  match us, ws, h with
  | [], [a, b], _ => exact ⟨a, b, rfl, rfl⟩
  | _ :: _, _, h => simp [g02] at h
  | [], [], h => simp [g02] at h
  | [], [_], h => simp [g02] at h
  | [], _ :: _ :: _ :: _, h => simp [g02] at h
theorem Fun.kb02 {K : PySem.W.Frag} {x qual : Str} {st : Stmt} {f : Addr} {fd : FuncData} {p1 p2 : Str} (F : L2.Fun K x qual st f fd)
    (h : ∀ (kV doc pm : Value) (an : Option Addr) (cdv ct a b : Value), bindArgs (PySem.W.fnOf x qual (defArgs st) (defBody st) (defScope st) .none kV doc pm an cdv ct) ⟨[], [(p1, a), (p2, b)]⟩ = pure [(p1, a), (p2, b)]) : KBinds K fd [p1, p2] [p1, p2] g02 g02 := by
  obtain ⟨oc, od, kV, doc, pm, an, cdv, ct, osl, rfl, lk, hcd⟩ := F.ex
  refine ⟨fun s us ws X hl => ?_, vals_g02⟩
  obtain ⟨a, b, rfl, rfl⟩ := g02_two hl
  exact .of_eq (h _ _ _ _ _ _ a b)
/-- three values by name, the third parameter ahead of the second -/
def g03s {α : Type} : List α → List α → List α
  | [], [a, c, b] => [a, b, c]
  | _, _ => []
theorem vals_g03s {vs zs : List V} {us ws : List Value} (r : Vals vs us) (q : Vals zs ws) : Vals (g03s vs zs) (g03s us ws) := by
  rcases r with _ | ⟨h1, _⟩
  · rcases q with _ | ⟨h2, _ | ⟨h3, _ | ⟨h4, _ | ⟨_, _⟩⟩⟩⟩ <;> first | exact .nil | exact .cons h2 (.cons h4 (.cons h3 .nil))
  · exact .nil
theorem g03s_three {α : Type} {us ws : List α} (h : (g03s us ws).length = 3) : ∃ a c b, us = [] ∧ ws = [a, c, b] := by
  match us, ws, h with
  | [], [a, c, b], _ => exact ⟨a, c, b, rfl, rfl⟩
  | _ :: _, _, h => simp [g03s] at h
  | [], [], h => simp [g03s] at h
  | [], [_], h => simp [g03s] at h
  | [], [_, _], h => simp [g03s] at h
  | [], _ :: _ :: _ :: _ :: _, h => simp [g03s] at h
theorem Fun.kb03s {K : PySem.W.Frag} {x qual : Str} {st : Stmt} {f : Addr} {fd : FuncData} {p1 p2 p3 : Str} (F : L2.Fun K x qual st f fd)
    (h : ∀ (kV doc pm : Value) (an : Option Addr) (cdv ct a c b : Value), bindArgs (PySem.W.fnOf x qual (defArgs st) (defBody st) (defScope st) .none kV doc pm an cdv ct) ⟨[], [(p1, a), (p3, c), (p2, b)]⟩ = pure [(p1, a), (p2, b), (p3, c)]) : KBinds K fd [p1, p2, p3] [p1, p3, p2] g03s g03s := by
  obtain ⟨oc, od, kV, doc, pm, an, cdv, ct, osl, rfl, lk, hcd⟩ := F.ex
  refine ⟨fun s us ws X hl => ?_, vals_g03s⟩
  obtain ⟨a, c, b, rfl, rfl⟩ := g03s_three hl
  exact .of_eq (h _ _ _ _ _ _ a c b)
end TL
namespace TL
open PySem PySem.Spec PyProof.Rows L2
/-! ### max and min of a tuple of ints -/
section
variable {prog : Program} {w : World} {A : Around} {E : Value → Shared → Prop} {s : Shared} {l : Addr} {xs : Array (Int × Tok)}
theorem iter_intTuple {Q : Value → Shared → Prop} (hl : s.heap.IsTuple l (intItems xs))
    (h : ∀ s₂ : Shared, s₂ = { s with heap := s.heap.push { cls := .type "tuple_iterator", data := .fields #[.ref l, .int 0 0] } } →
      (s₂.heap.IsTupleIter s.heap.objs.size l 0 ∧ s₂.heap.IsTuple l (intItems xs)) → (∀ b ∈ [s.heap.objs.size, l], b < s₂.heap.objs.size) → l ≠ s.heap.objs.size → Q (.ref s.heap.objs.size) s₂) :
    wpAny (model prog w) A (pyIter (.ref l)) Q E s := by
  have hlt : l < s.heap.objs.size := by obtain ⟨_, e, _⟩ := hl; exact Heap.lt_size e
  refine wpAny_pyIter_tuple hl (h _ rfl ⟨⟨_, Heap.get?_push_size _ rfl, rfl, rfl⟩, hl.push _⟩ (fun b hb => ?_) (Nat.ne_of_lt hlt))
  show b < (s.heap.push _).objs.size
  rw [Heap.size_push]
  rcases List.mem_cons.mp hb with rfl | hb
  · exact Nat.lt_succ_self _
  · rcases List.mem_cons.mp hb with rfl | hb
    · exact Nat.lt_succ_of_lt hlt
    · cases hb
theorem old_keptT {h' : Heap} (hk : ∀ b o, b ∉ [s.heap.objs.size] → (s.heap.push { cls := .type "tuple_iterator", data := .fields #[.ref l, .int 0 0] }).get? b = some o → h'.get? b = some o) :
    ∀ b o, s.heap.get? b = some o → h'.get? b = some o := fun b o e => by
  refine hk b o (fun hm => ?_) (Heap.get?_push_of_some _ e)
  rcases List.mem_cons.mp hm with e1 | hm
  · rw [e1] at e
    exact absurd (Heap.lt_size e) (Nat.lt_irrefl _)
  · cases hm
theorem max_intTuple {Q : Value → Shared → Prop} (hh : A.handled = none) (hl : s.heap.IsTuple l (intItems xs)) (hne : 0 < xs.size)
    (h : ∀ v h' tk, (intItems xs)[argBest (fun i j => decide (numAt xs i > numAt xs j)) (xs.size - 1)]? = some v → (∀ b o, s.heap.get? b = some o → h'.get? b = some o) → Q v { s with heap := h', toks := tk }) :
    wpAny (model prog w) A (call (.builtin "max") [.ref l]) Q E s := by
  refine call_max_walk (iter_intTuple hl fun s₂ e st hfp hlI => ?_)
  subst e
  refine ⟨_, _, _, _, _, _, _, rfl, Walks.tuple (A := A.in1) hh _ l hlI (intItems xs), st, hfp, by simpa [intItems] using hne, CmpOf.ints_gt (numAt xs) (fun _ _ => intItems_at), fun v h' tk hP hk => ?_⟩
  exact h v h' tk (by simpa [intItems] using hP) (old_keptT hk)
theorem min_intTuple {Q : Value → Shared → Prop} (hh : A.handled = none) (hl : s.heap.IsTuple l (intItems xs)) (hne : 0 < xs.size)
    (h : ∀ v h' tk, (intItems xs)[argBest (fun i j => decide (numAt xs i < numAt xs j)) (xs.size - 1)]? = some v → (∀ b o, s.heap.get? b = some o → h'.get? b = some o) → Q v { s with heap := h', toks := tk }) :
    wpAny (model prog w) A (call (.builtin "min") [.ref l]) Q E s := by
  refine call_min_walk (iter_intTuple hl fun s₂ e st hfp hlI => ?_)
  subst e
  refine ⟨_, _, _, _, _, _, _, rfl, Walks.tuple (A := A.in1) hh _ l hlI (intItems xs), st, hfp, by simpa [intItems] using hne, CmpOf.ints_lt (numAt xs) (fun _ _ => intItems_at), fun v h' tk hP hk => ?_⟩
  exact h v h' tk (by simpa [intItems] using hP) (old_keptT hk)
end
section
variable {prog : Program} {w : World} {A : Around} {E : Value → Shared → Prop} {s : Shared} {l : Addr} {its : List Value} {ns : List Int} {Q : Value → Shared → Prop}
theorem max_rawT (hh : A.handled = none) (hl : s.heap.IsTuple l its.toArray) (hi : IntsAre its ns) (hne : 0 < ns.length)
    (h : ∀ h' tk M t', (∀ b o, s.heap.get? b = some o → h'.get? b = some o) → M ∈ ns → (∀ a, a ∈ ns → a ≤ M) → Q (.int M t') { s with heap := h', toks := tk }) : wpAny (model prog w) A (call (.builtin "max") [.ref l]) Q E s := by
  obtain ⟨xs, e⟩ := hi.allInts.items
  have hn : numsOf (intItems xs).toList = ns := by rw [← e]; exact hi.numsOf
  rw [nums_intItems] at hn
  subst hn
  rw [e] at hl
  have hsz : 0 < xs.size := by simpa using hne
  refine max_intTuple hh hl hsz fun v h' tk hv hk => ?_
  obtain ⟨t, rfl⟩ := intItems_at hv
  obtain ⟨h1, h2⟩ := argBest_gt (numAt xs) (xs.size - 1)
  refine h h' tk _ t hk ?_ fun a ha => ?_
  · rw [numAt_eq]; exact PySem.getD_mem (by rw [List.length_map, Array.length_toList]; omega)
  · obtain ⟨j, hj, rfl⟩ := mem_getD ha
    rw [List.length_map, Array.length_toList] at hj
    rw [← numAt_eq]; exact h2 j (by omega)
theorem min_rawT (hh : A.handled = none) (hl : s.heap.IsTuple l its.toArray) (hi : IntsAre its ns) (hne : 0 < ns.length)
    (h : ∀ h' tk M t', (∀ b o, s.heap.get? b = some o → h'.get? b = some o) → M ∈ ns → (∀ a, a ∈ ns → M ≤ a) → Q (.int M t') { s with heap := h', toks := tk }) : wpAny (model prog w) A (call (.builtin "min") [.ref l]) Q E s := by
  obtain ⟨xs, e⟩ := hi.allInts.items
  have hn : numsOf (intItems xs).toList = ns := by rw [← e]; exact hi.numsOf
  rw [nums_intItems] at hn
  subst hn
  rw [e] at hl
  have hsz : 0 < xs.size := by simpa using hne
  refine min_intTuple hh hl hsz fun v h' tk hv hk => ?_
  obtain ⟨t, rfl⟩ := intItems_at hv
  obtain ⟨h1, h2⟩ := argBest_lt (numAt xs) (xs.size - 1)
  refine h h' tk _ t hk ?_ fun a ha => ?_
  · rw [numAt_eq]; exact PySem.getD_mem (by rw [List.length_map, Array.length_toList]; omega)
  · obtain ⟨j, hj, rfl⟩ := mem_getD ha
    rw [List.length_map, Array.length_toList] at hj
    rw [← numAt_eq]; exact h2 j (by omega)
end
section
variable {X : Cx}
/-- max(xs), min(xs) of a list or a tuple of ints -/
def rMaxS (K : PySem.W.Frag) : List V → Hp → VK → Prop := fun vs H Q => ∃ (a : Addr) (ns : List Int), vs = [V.ref a] ∧ Sq K H a (ns.map V.int) ∧ 0 < ns.length ∧ ∀ m, m ∈ ns → (∀ y, y ∈ ns → y ≤ m) → Q (.int m) H
def rMinS (K : PySem.W.Frag) : List V → Hp → VK → Prop := fun vs H Q => ∃ (a : Addr) (ns : List Int), vs = [V.ref a] ∧ Sq K H a (ns.map V.int) ∧ 0 < ns.length ∧ ∀ m, m ∈ ns → (∀ y, y ∈ ns → m ≤ y) → Q (.int m) H
theorem cr_maxS (hc : X.calm = true) : CallR X (.builtin "max") (rMaxS X.K) := by
  intro pins s σ H vs us Q I r h
  obtain ⟨a, ns, rfl, hs, hne, q⟩ := h
  rcases hs with hs | hs
  · exact cr_max hc pins s σ H _ us Q I r ⟨a, ns, rfl, hs, hne, q⟩
  · obtain ⟨its, rv, hl, _⟩ := I.tuple hs
    rw [Vals.ref1 r]
    exact max_rawT (I.ok.hd hc) hl rv.ints hne fun h' tk m t' hk h1 h2 => ⟨.int _, H, I.kept hk, ⟨_, rfl⟩, q m h1 h2⟩
theorem cr_minS (hc : X.calm = true) : CallR X (.builtin "min") (rMinS X.K) := by
  intro pins s σ H vs us Q I r h
  obtain ⟨a, ns, rfl, hs, hne, q⟩ := h
  rcases hs with hs | hs
  · exact cr_min hc pins s σ H _ us Q I r ⟨a, ns, rfl, hs, hne, q⟩
  · obtain ⟨its, rv, hl, _⟩ := I.tuple hs
    rw [Vals.ref1 r]
    exact min_rawT (I.ok.hd hc) hl rv.ints hne fun h' tk m t' hk h1 h2 => ⟨.int _, H, I.kept hk, ⟨_, rfl⟩, q m h1 h2⟩
end
end TL
namespace TL
theorem pp_bound {k : Nat} : ∀ {ps as : List Nat}, (∀ p ∈ ps, 0 < p) → (∀ a ∈ as, a ≤ k) → pp ps as ≤ ps.foldr (· * ·) 1 ^ k
  | [], _, _, _ => by simp [pp]
  | p :: ps, [], h, _ => by
    have : ∀ qs : List Nat, (∀ q ∈ qs, 0 < q) → 0 < qs.foldr (· * ·) 1 := by
      intro qs
      induction qs with
      | nil => intro _; exact Nat.one_pos
      | cons q qs ih => intro hq; exact Nat.mul_pos (hq q (List.mem_cons_self ..)) (ih fun r hr => hq r (List.mem_cons_of_mem _ hr))
    exact Nat.pow_pos (this (p :: ps) h)
  | p :: ps, a :: as, h, ha => by
    have ih := pp_bound (ps := ps) (as := as) (fun q hq => h q (List.mem_cons_of_mem _ hq)) (fun b hb => ha b (List.mem_cons_of_mem _ hb))
    simp only [pp, List.foldr_cons, Nat.mul_pow]
    exact Nat.mul_le_mul (Nat.pow_le_pow_right (h p (List.mem_cons_self ..)) (ha a (List.mem_cons_self ..))) ih
/-- exponents of at most k -/
def Ex (k : Nat) (e : List Int) : Prop := ∀ x ∈ e, x.natAbs ≤ k
theorem ex_up {k : Nat} {e : List Int} (h : Ex k e) : up e ≤ 30030 ^ k := pp_bound (ps := prs) (by decide) fun a ha => by
  obtain ⟨x, hx, rfl⟩ := List.mem_map.mp (show a ∈ e.map Int.toNat from ha)
  have := h x hx
  omega
theorem ex_neg {k : Nat} {e : List Int} (h : Ex k e) : Ex k (negE e) := fun x hx => by
  obtain ⟨y, hy, rfl⟩ := List.mem_map.mp (show x ∈ e.map (- ·) from hx)
  rw [Int.natAbs_neg]
  exact h y hy
theorem ex_dn {k : Nat} {e : List Int} (h : Ex k e) : dn e ≤ 30030 ^ k := by
  rw [← up_neg]
  exact ex_up (ex_neg h)
theorem ex_mul {k : Nat} {e : List Int} {n : Int} {m : Nat} (hn : n.natAbs ≤ m) (h : Ex k e) : Ex (m * k) (mulE n e) := fun x hx => by
  obtain ⟨y, hy, rfl⟩ := List.mem_map.mp (show x ∈ e.map (n * ·) from hx)
  rw [Int.natAbs_mul]
  exact Nat.mul_le_mul hn (h y hy)
theorem big {k : Nat} (h : k ≤ 266) : 30030 ^ k < 2 ^ 4000 := by
  have h1 : 30030 ^ k ≤ (2 ^ 15) ^ k := Nat.pow_le_pow_left (by decide) k
  rw [← Nat.pow_mul] at h1
  exact Nat.lt_of_le_of_lt h1 (Nat.pow_lt_pow_right (by decide) (by omega))
end TL
namespace TL
theorem pp_sum : ∀ {ps as : List Nat}, (∀ p ∈ ps, 0 < p ∧ p ≤ 13) → pp ps as ≤ 13 ^ as.sum
  | [], _, _ => by simp only [pp]; exact Nat.pow_pos (by decide)
  | p :: ps, [], h => by simp [pp]
  | p :: ps, a :: as, h => by
    have ih := pp_sum (ps := ps) (as := as) (fun q hq => h q (List.mem_cons_of_mem _ hq))
    simp only [pp, List.sum_cons, Nat.pow_add]
    exact Nat.mul_le_mul (Nat.pow_le_pow_left (h p (List.mem_cons_self ..)).2 a) ih
theorem set_sum : ∀ (as : List Nat) (j a : Nat), (as.set j a).sum ≤ as.sum + a
  | [], _, _ => by simp
  | x :: as, 0, a => by simp only [List.set_cons_zero, List.sum_cons]; omega
  | x :: as, j + 1, a => by
    have := set_sum as j a
    simp only [List.set_cons_succ, List.sum_cons]
    omega
theorem sum_le {k : Nat} : ∀ {as : List Nat}, (∀ a ∈ as, a ≤ k) → as.sum ≤ as.length * k
  | [], _ => by simp
  | x :: as, h => by
    have ih := sum_le (as := as) fun a ha => h a (List.mem_cons_of_mem _ ha)
    have := h x (List.mem_cons_self ..)
    simp only [List.sum_cons, List.length_cons, Nat.add_mul, Nat.one_mul]
    omega
theorem prs_le : ∀ p ∈ prs, 0 < p ∧ p ≤ 13 := by decide
theorem upE_le {k : Nat} {e : List Int} (h : Ex k e) : ∀ a ∈ upE e, a ≤ k := fun a ha => by
  obtain ⟨x, hx, rfl⟩ := List.mem_map.mp (show a ∈ e.map Int.toNat from ha)
  have := h x hx
  omega
/-- what is known of a drawn ratio -/
def Kd (e : List Int) : Prop := up e < 2 ^ 200 ∧ dn e < 2 ^ 200
theorem up_sum {e : List Int} {m : Nat} (h : (upE e).sum ≤ m) (hm : m ≤ 50) : up e < 2 ^ 200 :=
  Nat.lt_of_le_of_lt (Nat.le_trans (pp_sum (ps := prs) prs_le) (Nat.pow_le_pow_right (by decide) (Nat.le_trans h hm))) (by decide : 13 ^ 50 < 2 ^ 200)
theorem up_ex3 {e : List Int} (h6 : e.length = 6) (h : Ex 3 e) : up e < 2 ^ 200 := up_sum (m := 18) (Nat.le_trans (sum_le (upE_le h)) (by rw [upE, List.length_map, h6]; decide)) (by decide)
theorem kd_ex3 {e : List Int} (h6 : e.length = 6) (h : Ex 3 e) : Kd e := ⟨up_ex3 h6 h, by rw [← up_neg]; exact up_ex3 (by simpa [negE] using h6) (ex_neg h)⟩
theorem up_set40 {e : List Int} {j : Nat} {v : Int} (h6 : e.length = 6) (h : Ex 1 e) (hv : v.natAbs ≤ 40) : up (e.set j v) < 2 ^ 200 := by
  have e1 : upE (e.set j v) = (upE e).set j v.toNat := by simp only [upE, List.map_set]
  refine up_sum (m := 46) ?_ (by decide)
  rw [e1]
  have h1 := set_sum (upE e) j v.toNat
  have h2 := sum_le (upE_le h)
  have h3 : (upE e).length = 6 := by rw [upE, List.length_map, h6]
  rw [h3] at h2
  omega
theorem kd_set40 {e : List Int} {j : Nat} {v : Int} (h6 : e.length = 6) (h : Ex 1 e) (hv : v.natAbs ≤ 40) : Kd (e.set j v) := ⟨up_set40 h6 h hv, by
  rw [← up_neg]
  have e1 : negE (e.set j v) = (negE e).set j (-v) := by simp only [negE, List.map_set]
  rw [e1]
  exact up_set40 (by simpa [negE] using h6) (ex_neg h) (by omega)⟩
theorem pp_ge : ∀ {ps as : List Nat}, (∀ p ∈ ps, 2 ≤ p) → as.length ≤ ps.length → ∀ a ∈ as, 2 ^ a ≤ pp ps as
  | [], [], _, _, _, h => by cases h
  | [], _ :: _, _, h, _, _ => absurd h (by simp)
  | _ :: _, [], _, _, _, h => by cases h
  | p :: ps, b :: as, hp, hl, a, ha => by
    have pos : ∀ (ps as : List Nat), (∀ p ∈ ps, 2 ≤ p) → 0 < pp ps as := by
      intro ps
      induction ps with
      | nil => intro as _; simp [pp]
      | cons q ps ih => intro as h; cases as with
        | nil => simp [pp]
        | cons c as => exact Nat.mul_pos (Nat.pow_pos (Nat.lt_of_lt_of_le (by decide) (h q (List.mem_cons_self ..)))) (ih as fun r hr => h r (List.mem_cons_of_mem _ hr))
    have hp' : ∀ q ∈ ps, 2 ≤ q := fun q hq => hp q (List.mem_cons_of_mem _ hq)
    simp only [pp]
    have p2 := hp p (List.mem_cons_self ..)
    rcases List.mem_cons.mp ha with z | z
    · rw [z]
      exact Nat.le_trans (Nat.pow_le_pow_left p2 b) (Nat.le_mul_of_pos_right _ (pos ps as hp'))
    · exact Nat.le_trans (pp_ge hp' (by simpa using hl) a z) (Nat.le_mul_of_pos_left _ (Nat.pow_pos (by omega)))
theorem ex_of_up {k : Nat} {e : List Int} (h6 : e.length = 6) (hu : up e < 2 ^ k) (hd : dn e < 2 ^ k) : Ex k e := fun x hx => by
  have h1 := pp_ge (ps := prs) (as := upE e) (by decide) (by rw [upE, List.length_map, h6]; decide) x.toNat (List.mem_map.mpr ⟨x, hx, rfl⟩)
  have h2 := pp_ge (ps := prs) (as := dnE e) (by decide) (by rw [dnE, List.length_map, h6]; decide) (-x).toNat (List.mem_map.mpr ⟨x, hx, rfl⟩)
  have g1 : x.toNat < k := (Nat.pow_lt_pow_iff_right (by decide : 1 < 2)).mp (Nat.lt_of_le_of_lt h1 hu)
  have g2 : (-x).toNat < k := (Nat.pow_lt_pow_iff_right (by decide : 1 < 2)).mp (Nat.lt_of_le_of_lt h2 hd)
  omega
/-- the ratio of the numerator alone -/
def posE (e : List Int) : List Int := e.map fun x => ((x.toNat : Nat) : Int)
theorem pos_len (e : List Int) : (posE e).length = e.length := by simp [posE]
theorem up_posE (e : List Int) : up (posE e) = up e := by
  simp only [up, upE, posE, List.map_map]
  congr 1
theorem pp_zero : ∀ (ps as : List Nat), (∀ a ∈ as, a = 0) → pp ps as = 1
  | [], _, _ => by simp [pp]
  | p :: ps, [], _ => by simp [pp]
  | p :: ps, a :: as, h => by
    have := pp_zero ps as fun b hb => h b (List.mem_cons_of_mem _ hb)
    simp only [pp, this, h a (List.mem_cons_self ..), Nat.pow_zero]
theorem dn_posE (e : List Int) : dn (posE e) = 1 := pp_zero _ _ fun a ha => by
  simp only [dnE, posE, List.map_map, List.mem_map] at ha
  obtain ⟨x, _, rfl⟩ := ha
  show (-(x.toNat : Int)).toNat = 0
  omega
theorem kd_pow {e : List Int} {n : Nat} (h : up e < 2 ^ 200) (hn : n ≤ 200) : up e ^ n < 2 ^ 50000 := by
  have h1 : up e ^ n ≤ (2 ^ 200) ^ n := Nat.pow_le_pow_left (Nat.le_of_lt h) n
  rw [← Nat.pow_mul] at h1
  exact Nat.lt_of_le_of_lt h1 (Nat.pow_lt_pow_right (by decide) (by
    have := Nat.mul_le_mul_left 200 hn
    omega))
end TL
namespace TL
/-- the exponents shifted right -/
def shrE (k : Nat) (as : List Nat) : List Nat := as.map (· / 2 ^ k)
def bitE (k : Nat) (as : List Nat) : List Nat := as.map (· / 2 ^ k % 2)
theorem half_step (a k : Nat) : a / 2 ^ k = a / 2 ^ (k + 1) + a / 2 ^ (k + 1) + a / 2 ^ k % 2 := by
  have h : a / 2 ^ (k + 1) = a / 2 ^ k / 2 := by rw [Nat.pow_succ, Nat.div_div_eq_div_mul]
  rw [h]
  omega
theorem pp_step (k : Nat) : ∀ ps as : List Nat, pp ps (shrE k as) = pp ps (shrE (k + 1) as) * pp ps (shrE (k + 1) as) * pp ps (bitE k as)
  | [], _ => by simp [pp, shrE, bitE]
  | _ :: _, [] => by simp [pp, shrE, bitE]
  | p :: ps, a :: as => by
    have ih := pp_step k ps as
    simp only [shrE, bitE, List.map_cons, pp] at ih ⊢
    rw [ih]
    have e : p ^ (a / 2 ^ k) = p ^ (a / 2 ^ (k + 1)) * p ^ (a / 2 ^ (k + 1)) * p ^ (a / 2 ^ k % 2) := by
      rw [← Nat.pow_add, ← Nat.pow_add, ← half_step]
    rw [e]
    simp only [Nat.mul_assoc, Nat.mul_left_comm, Nat.mul_comm]
theorem pp_pos2 : ∀ {ps : List Nat} (as : List Nat), (∀ p ∈ ps, 2 ≤ p) → 0 < pp ps as
  | [], _, _ => by simp [pp]
  | _ :: _, [], _ => by simp [pp]
  | p :: ps, a :: as, h => Nat.mul_pos (Nat.pow_pos (Nat.lt_of_lt_of_le (by decide) (h p (List.mem_cons_self ..)))) (pp_pos2 as fun q hq => h q (List.mem_cons_of_mem _ hq))
theorem pp_mono : ∀ {ps as bs : List Nat}, (∀ p ∈ ps, 2 ≤ p) → as.length = bs.length → (∀ (i a b : Nat), as[i]? = some a → bs[i]? = some b → a ≤ b) → pp ps as ≤ pp ps bs
  | [], _, _, _, _, _ => by simp [pp]
  | _ :: _, [], [], _, _, _ => Nat.le_refl _
  | _ :: _, [], _ :: _, _, h, _ => absurd h (by simp)
  | _ :: _, _ :: _, [], _, h, _ => absurd h (by simp)
  | p :: ps, a :: as, b :: bs, hp, hl, h => by
    have p2 := hp p (List.mem_cons_self ..)
    exact Nat.mul_le_mul (Nat.pow_le_pow_right (by omega) (h 0 a b rfl rfl)) (pp_mono (fun q hq => hp q (List.mem_cons_of_mem _ hq)) (Nat.succ.inj hl) fun i x y hx hy => h (i + 1) x y hx hy)
theorem pp_shr_le {ps as : List Nat} (k : Nat) (hp : ∀ p ∈ ps, 2 ≤ p) : pp ps (shrE k as) ≤ pp ps as := pp_mono hp (by simp [shrE]) fun i a b ha hb => by
  rw [shrE, List.getElem?_map, hb] at ha
  cases ha
  exact Nat.div_le_self _ _
theorem shr_zero (as : List Nat) : shrE 0 as = as := by simp [shrE]
theorem shr_top {as : List Nat} {n : Nat} (h : ∀ a ∈ as, a < 2 ^ n) (ps : List Nat) : pp ps (shrE n as) = 1 := pp_zero _ _ fun a ha => by
  obtain ⟨b, hb, rfl⟩ := List.mem_map.mp (show a ∈ as.map (· / 2 ^ n) from ha)
  exact Nat.div_eq_of_lt (h b hb)
end TL
namespace TL
theorem iteT' {A B : Prop} {c : Bool} (e : c = true) (h : A) : if c = true then A else B := by
  rw [e]
  exact h
theorem iteF' {A B : Prop} {c : Bool} (e : c = false) (h : B) : if c = true then A else B := by
  rw [e]
  exact h
end TL
namespace TL
open PySem PySem.Spec PyProof.Rows L2
/-! ### own errors whose __init__ takes nothing -/
section
variable {X : Cx} {p pos : Pos}
theorem pmk_oex0 {CX : CXT} {x : Str} {C fI : Addr} {k : Nat} {fd : FuncData} {ps : List Str} {sp : Sp} {ds : List Value} {dvs : List V} (T : OexC X.K C) (iC : PySem.W.findIn X.K (.ref C) "__init__" = some (some (.ref fI))) (tI : PySem.W.typeIn X.K (.ref fI) = some (.type "function"))
    (F1 : FnOk X.prog X.w X.K X.mg X.base CX k fI fd ps sp) (hr : Room (k + 1) X.A) (hb : Binds X.K fd ps ds) (hd : Vals dvs ds) (hx : Passes CX X (fun _ _ _ => False)) (hg : Gl X x) (hm : X.mg x = some (.ref C))
    (hdb : (x == ("__debug__" : Str)) = false := by decide) :
    PMk X (.Call (.Name x p) [] [] pos) (tMkO C sp dvs tNil) := by
  intro pins s σ H Q I h
  obtain ⟨nm, q, N, bs, bm, sn, sub, ab, col, dd, k0, k1, k2, k3, k5, hC, hbm⟩ := T.cls
  refine wpAny_Call_Name_kw (ld_glob I hg hm ?_ hdb)
  refine PySem.W.callWith_K0 I.kIn T.kC ?_
  obtain ⟨hz, q1⟩ : ([] : List V).length ≤ 1000 ∧ ∀ a, H a = none → sp (.ref a :: ([] ++ dvs)) (upd H a (exo a C none)) (fun v H2 => v = .non ∧ ∃ (d : Addr) (fs : List (Str × V)), H2 a = some (exo a C (some d)) ∧ H2 d = some (exd d fs) ∧ H d = none ∧ Q (.ref C) (some d) (upd (del H2 a) d (.xd fs))) (fun _ _ _ => False) := h
  obtain ⟨hp, g, dr, tk, os⟩ := s
  have I1 := I
  have hsz : hp.objs.size ≤ hp.objs.size + 1 := Nat.le_succ _
  have hn : H (hp.objs.size + 1) = none := I1.hok.fresh hsz
  have hq := q1 (hp.objs.size + 1) hn
  have kk : ∀ b o, hp.get? b = some o → ((hp.push (PySem.W.kdv_tup [])).push (PySem.HandSPX.excO C hp.objs.size)).get? b = some o := fun b o e => Heap.get?_push_of_some _ (Heap.get?_push_of_some _ e)
  have hget : ((hp.push (PySem.W.kdv_tup [])).push (PySem.HandSPX.excO C hp.objs.size)).get? (hp.objs.size + 1) = some (PySem.HandSPX.excO C hp.objs.size) := by heap_get
  have I2 : Inv X pins σ (upd H (hp.objs.size + 1) (exo (hp.objs.size + 1) C none)) ⟨(hp.push (PySem.W.kdv_tup [])).push (PySem.HandSPX.excO C hp.objs.size), g, dr, tk, os⟩ :=
    I1.laid (t' := tk) (a := hp.objs.size + 1) (o := exo (hp.objs.size + 1) C none) (h' := (hp.push (PySem.W.kdv_tup [])).push (PySem.HandSPX.excO C hp.objs.size)) kk hsz (exo_ok hget)
  have r2 : Vals (V.ref (hp.objs.size + 1) :: dvs) (Value.ref (hp.objs.size + 1) :: ds) := .cons rfl hd
  have hl : ([Value.ref (hp.objs.size + 1)] ++ ds).length = ps.length := by
    exact r2.length.symm.trans (F1.len _ _ _ _ hq)
  show wpAny _ _ (call (.ref C) []) _ _ _
  refine wpAny_call (PySem.HandSPX.call_own F.excBase_ValueError (fun Y => PySem.HandSPX.refsVE_contains Y bm hbm) (I1.kIn _ _ hC) (PySem.W.looks_findIn I1.kIn iC) (fun self => PySem.W.bind_fn I1.kIn self tI) (by show 0 ≤ sizeLine; decide)
    (codeAny_mono (F1.run _ X.stack _ _ ⟨[Value.ref (hp.objs.size + 1)], []⟩ ([Value.ref (hp.objs.size + 1)] ++ ds) _ _ (fun _ _ _ => False) (hr.make C [] []) (I2.env0.make C [] []) (hb _ (Value.ref (hp.objs.size + 1) :: []) I2.kIn hl) r2 hq) fun r s' hq' => ?_))
  cases r with
  | error er => exact hx pins σ _ _ er s' I2 hq'
  | ok fl =>
    cases fl with
    | ret u =>
      obtain ⟨v, H2, os2, bare2, un2, hok2, rv, ev, d, fs, ea, ed, hd1, q2⟩ := hq'
      subst ev
      obtain ⟨h2, g2, d2, t2, os'⟩ := s'
      exact ⟨rv, mk_end (raises_own T.exC T.tyC) I1 hsz kk un2 hok2 os2 bare2 ea ed hd1 q2⟩
    | next => exact False.elim hq'
    | brk => exact False.elim hq'
    | cont => exact False.elim hq'
end
/-! ### isinstance of a caught error that has its own dict -/
end TL
namespace PySem.W
open PySem PySem.Spec PySem.Calls PyProof.Rows
section
variable {prog : Program} {w : World} {A : Around} {E : Value → Shared → Prop} {s : Shared} {K : Frag} {x D : Addr} {ox : Obj} {od : Option Obj}
theorem findObj_dataA {C : Addr} {name : Str} {a g : Value} (hc : (clsIn K C).isSome = true) (ha : findIn K (.ref C) name = some (some a)) (hg : specialIn K a "__get__" = some (some g)) (ht : takesIn K a = some true) : findObj K C od name = some (.bind g a) := by
  cases od with
  | none => exact findObj_dataN hc ha hg ht
  | some o => exact findObj_data hc ha hg ht
theorem kin_classA {Q : Option Value → Shared → Prop} (hga : findIn K (.ref D) "__getattribute__" = some (some (.builtin "BaseException.__getattribute__"))) (hgt : findIn K (.ref D) "__getattr__" = some none) (hsub : subIn K (.ref D) (.type "BaseException") = some true)
    (hdct : hasDictIn K D = true) (ha : findIn K (.ref D) "__class__" = some (some (.builtin "object.__class__")))
    (hn : specialIn K (.builtin "object.__class__") "__get__" = some (some (.builtin "getset_descriptor.__get__"))) (htk : takesIn K (.builtin "object.__class__") = some true) (hm : mroIn K D (.type "object") = some true)
    (X : K.In s.heap) (I : InstAt s.heap x ox D od) (h : Q (some (.ref D)) { s with toks := s.toks + 1 }) : wpAny (model prog w) A (getAttr? (.ref x) "__class__") Q E s := by
  have hf : findObj K D od "__class__" = some (.bind (.builtin "getset_descriptor.__get__") (.builtin "object.__class__")) := findObj_dataA (by obtain ⟨cd, hc, _⟩ := any_some hdct; rw [hc]; rfl) ha hn htk
  obtain ⟨hp, g, d, t, os⟩ := s
  have L0 := I.type (M := model prog w)
  have L1 := looks_findIn (M := model prog w) X hga
  have L2 := looks_findIn (M := model prog w) X hgt
  have L3 := looks_find (M := model prog w) X I hf
  have sub : Looks (model prog w) hp (isInstance (.ref x) (.type "BaseException")) true := L0.andThen (looks_subIn X hsub)
  have hx0 : (false && onTheHeap (Value.builtin "BaseException.__getattribute__")) = false := rfl
  have hx2 : (Value.builtin "BaseException.__getattribute__" == Value.builtin "object.__getattribute__") = false := by decide +kernel
  have hx1 : (onTheHeap (Value.ref D) && Value.builtin "BaseException.__getattribute__" == Value.builtin "object.__getattribute__") = false := by rw [hx2]; rfl
  unfold getAttr? getAttrBy? getAttrBy
  refine wpAny_bind (wpAny_mkText (wpAny_bind (wpAny_attempt (wpAny_holding (wpAny_bind (L0.at (wpAny_bind (L1.at ?_))))))))
  show wpAny _ _ (if (onTheHeap (Value.ref D) && Value.builtin "BaseException.__getattribute__" == Value.builtin "object.__getattribute__") = true then _ else _) _ _ _
  rw [hx1, if_neg Bool.false_ne_true]
  unfold getAttrByItsOwn hookBefore
  refine wpAny_bind ?_
  rw [if_pos (show onTheHeap (Value.ref D) = true from rfl)]
  refine L2.at ?_
  refine wpAny_bind (wpAny_attempt (wpAny_holding ?_))
  unfold callGetattribute
  rw [hx0, if_neg Bool.false_ne_true]
  unfold boundAndCalled
  rw [PySem.F.excAttr_ValueError.ga.bind (.ref x)]
  refine wpAny_bind (wpAny_pure ?_)
  show wpAny _ _ (call (.builtin "BaseException.__getattribute__") [.ref x, .str "__class__" t]) _ _ _
  refine wpAny_call (codeAny_call_builtin PySem.F.excAttr_ValueError.ga.plain PySem.F.entry_bexc_ga ?_)
  refine @check_slot (model prog w) _ _ ⟨hp, g, d, t + 1, os⟩ "BaseException.__getattribute__" "BaseException" "__getattribute__" (.ref x) [.str "__class__" t] [] _ (by decide +kernel) (by decide +kernel) sub (PySem.F.args_bexc_ga (.ref x) (.str "__class__" t)) ?_
  unfold Builtin.«object.__getattribute__»
  refine wpAny_bind (wpAny_of_eq (a := ((Value.ref x : Value), [Value.str "__class__" t])) (by first | rfl | (simp only [slotArgs]; rfl)) ?_)
  refine wpAny_bind (wpAny_pure (wpAny_bind (L0.at (wpAny_bind (L3.at ?_)))))
  show wpAny _ _ (holding [Value.builtin "object.__class__"] (call (.builtin "getset_descriptor.__get__") [.builtin "object.__class__", .ref x, .ref D]) >>= ret) _ _ _
  refine wpAny_bind (wpAny_holding (wpAny_call (class_get (s := ⟨hp, g, d, t + 1, os⟩) (ox := ox) (od := od) X I hm ?_)))
  refine wpAny_pure ?_
  show wpAny _ _ (handedOut (.ref D)) _ _ _
  rw [handedOut_of (v := .ref D) rfl]
  first
    | exact wpAny_pure (wpAny_pure h)
    | exact wpAny_pure h
    | exact wpAny_pure (wpAny_bind (wpAny_pure (wpAny_pure h)))
theorem kitx_excA (hga : findIn K (.ref D) "__getattribute__" = some (some (.builtin "BaseException.__getattribute__"))) (hgt : findIn K (.ref D) "__getattr__" = some none) (hsub : subIn K (.ref D) (.type "BaseException") = some true) (hdct : hasDictIn K D = true) (ha : findIn K (.ref D) "__class__" = some (some (.builtin "object.__class__")))
    (hn : specialIn K (.builtin "object.__class__") "__get__" = some (some (.builtin "getset_descriptor.__get__"))) (htk : takesIn K (.builtin "object.__class__") = some true) (hm : mroIn K D (.type "object") = some true) :
    KitX K (.ref x) (.ref D) (fun h => ∃ od, InstAt h x ox D od) where
  ty := fun _ _ _ ⟨_, I⟩ => I.type
  it := fun _ _ X _ => by
    obtain ⟨cdD, hcD, _⟩ := any_some hdct
    unfold clsIn at hcD
    split at hcD
    · rename_i c' d' cd' sl' ho
      intro A' Q' E' s' k q
      unfold isType loadHead
      exact wpAny_bind (wpAny_loadPart (k _ _ (X _ _ ho)) (wpAny_pure q))
    · cases hcD
  ne := fun h tp dd its n sl X htp => by
    obtain ⟨cdD, hcD, _⟩ := any_some hdct
    refine Bool.eq_false_iff.mpr fun q => ?_
    have e : D = tp := Value.ref.inj (beq_iff_eq.mp q)
    subst e
    unfold clsIn at hcD
    split at hcD
    · rename_i c' d' cd' sl' ho
      have z := (X _ _ ho).symm.trans htp
      cases z
    · cases hcD
  ca := fun X ⟨_, I⟩ k => kin_classA hga hgt hsub hdct ha hn htk hm X I k
end
end PySem.W
namespace TL
open PySem PySem.Spec PyProof.Rows L2
/-- isinstance(e, c), e the error that the suite holds: its class at D, its dict d -/
def rIsA (K : PySem.W.Frag) (cls : Value) (d : Option Addr) (D a : Addr) : List V → Hp → VK → Prop := fun xs H Q => ∃ (c : V) (cv : Value) (b : Bool) (dd : Addr) (fs : List (Str × V)), xs = [.ref a, c] ∧ (∀ u, RelV c u → u = cv) ∧ cls = .ref D ∧ d = some dd ∧ H dd = some (.xd fs) ∧ PySem.W.kitOne K (.ref D) cv = some b ∧ Q (.bl b) H
theorem call_isA {X : Cx} {a D : Addr} {oe : Obj} {cls : Value} {d : Option Addr} {pn : List (Addr × Obj)} (C : ExcC X.K D) (hz : Zc cls d oe) (hf : ∃ vs, oe.data = .fields vs) : CallR (X.suite a ((a, oe) :: pn)) (.builtin "isinstance") (rIsA X.K cls d D a) := by
  intro pins s σ H xs us Q I r h
  obtain ⟨c, cv, b, dd, fs, rfl, hcv, ec, ed, ea, e, q⟩ := h
  subst ec
  subst ed
  cases r with
  | cons rx rr =>
    cases rr with
    | cons rt rr =>
      cases rr
      cases rx
      have ec := hcv _ rt
      subst ec
      obtain ⟨hget, _⟩ := I.pin (a, oe) (List.mem_append.mpr (.inl List.mem_cons_self))
      obtain ⟨vs, hv⟩ := hf
      have J : ∃ od, PySem.W.InstAt s.heap a oe D od := by
        have hx : ObjOk X.prog X.w H s.heap dd (.xd fs) := I.hok dd _ ea
        obtain ⟨mA, hns, hr⟩ := hx
        obtain ⟨od, ho, hl⟩ := lookIn_ns hns
        exact ⟨some od, hget, hz.1, by unfold PySem.W.notCls; rw [hv] <;> rfl, by rw [hz.2]; exact ho⟩
      exact PySem.W.kia_one (PySem.W.kitx_excA C.hg C.hk C.hs C.hd C.ha C.hn C.ht C.hm) I.kIn J e (fun z => nomatch z) fun tk => ⟨.bl b, H, I.kept (t' := tk) fun _ _ z => z, rfl, q⟩
/-! ### xs[a:b] = ys, ys another list -/
/-- the target's reading -/
def gSl (to : TE) (tl th : TO) : TG := fun v σ H Q => to σ H fun x H1 => tl σ H1 fun l H2 => th σ H2 fun u H3 => ∃ (p b : Addr) (xs ys : List V) (i j : Nat), x = .ref p ∧ v = .ref b ∧ l = some (i : Int) ∧ u = some (j : Int) ∧ H3 p = some (.lst xs) ∧ H3 b = some (.lst ys) ∧ p ≠ b ∧ i ≤ j ∧ j ≤ xs.length ∧ xs.length + ys.length ≤ sizeLine ∧
  Q σ (upd H3 p (.lst (xs.take i ++ ys ++ xs.drop j)))
theorem pg_slice {X : Cx} {o : Expr} {lo hi : Option Expr} {to : TE} {tl th : TO} {pos p2 : Pos} (ho : PE X o to) (hl : PO X lo tl) (hu : PO X hi th)
    (ha : ∀ v, assign (.Subscript o (.Slice lo hi none p2) pos) X.env v = (do
      let ov ← holding [v] (eval o X.env)
      let iv ← holding [v, ov] (eval (.Slice lo hi none p2) X.env)
      standAt pos
      holding [v, ov, iv] (setItem ov iv v)
      release [iv, v, ov] []) := by intro _; rfl) : PG X (.Subscript o (.Slice lo hi none p2) pos) (gSl to tl th) := by
  refine ⟨fun pins s σ H v u Q I r h => ?_⟩
  rw [ha]
  refine wpAny_bind (wpAny_holding (thn (ho.run pins s σ H _ I h) fun ov s1 ⟨x, H1, I1, r1, q1⟩ => ?_))
  refine wpAny_bind (wpAny_holding ?_)
  refine wpAny_Slice (thn (hl.run pins s1 σ H1 _ I1 q1) fun vl s2 ⟨l, H2, I2, pl, q2⟩ => thn (hu.run pins s2 σ H2 _ I2 q2) fun vu s3 ⟨uu, H3, I3, pu, q3⟩ => ?_)
  rw [evalPart_none]
  refine wpAny_pure ?_
  have I4 : Inv X pins σ H3 { s3 with heap := s3.heap.push { cls := .type "slice", data := .fields #[vl, vu, .none] } } := I3.kept (t' := s3.toks) fun b ob q => Heap.get?_push_of_some _ q
  refine wpAny_bind (wpAny_standAt (wpAny_bind (wpAny_holding ?_)))
  obtain ⟨p, b, xs, ys, i, j, rfl, rfl, rfl, rfl, hp, hb, hne, hij, hj, hz, q⟩ := q3
  cases r1
  cases r
  cases pl with
  | int _ t1 =>
    cases pu with
    | int _ t2 =>
      refine set_slice I4 hp hb hne (Heap.IsSliceOf.new ..) ⟨t1, rfl⟩ ⟨t2, rfl⟩ (by omega) (by omega) (by omega) hz fun s' I5 => ?_
      exact wpAny_release ⟨σ, _, I5, q⟩
/-! ### an error that tells nothing but its code -/
def spCode (K : PySem.W.Frag) (C : Addr) (code : String) : Sp := fun vs H Q _ => ∃ (a : Addr), vs = [.ref a] ∧ H a = some (exo a C none) ∧ ∀ dx, H dx = none → dx ≠ a → Q .non (upd (upd H dx (exd dx [(Str.ofString "code", .str (Str.ofString code))])) a (exo a C (some dx)))
theorem raise_code {K : PySem.W.Frag} {C : Addr} {code : String} {σ : L2.St} {H : Hp} {Q : XK} (q : ∀ d H', Same H H' → H d = none → H' d = some (.xd [(Str.ofString "code", .str (Str.ofString code))]) → Q (.ref C) (some d) H') : tMkO C (spCode K C code) [] tNil σ H Q := by
  refine ⟨Nat.zero_le _, fun a ha => ⟨a, rfl, upd_same, fun dx hn hne => ⟨rfl, dx, _, upd_same, by rw [upd_ne hne]; exact upd_same, by rw [upd_ne hne] at hn; exact hn, ?_⟩⟩⟩
  rw [upd_ne hne] at hn
  refine q dx _ (fun c o h => ?_) hn upd_same
  have h1 : c ≠ a := ne_of_none h ha
  have h2 : c ≠ dx := ne_of_none h hn
  rw [upd_ne h2, del_ne h1, upd_ne h1, upd_ne h2, upd_ne h1]
  exact h
end TL
namespace PySem
open PyProof.Rows
section
variable {prog : Program} {w : World} {A : Around} {E : Value → Shared → Prop} {s : Shared}
/-! ### list(reversed(range(..))) -/
theorem call_hint_ri {I : Addr} {x left step : Int} {Q : Value → Shared → Prop} (hit : IsRangeIter s.heap I x left step) (h : ∀ u tk, s.toks ≤ tk → Q (.int left u) { s with toks := tk }) : wpAny (model prog w) A (call (.builtin "range_iterator.__length_hint__") [.ref I]) Q E s := by
  have hT : s.TypeIs (.ref I) "range_iterator" := ⟨_, hit, rfl⟩
  refine wpAny_call_entry F.slot_range_iterator_length_hint hT F.entry_range_iterator_length_hint ?_ (F.args_range_iterator_length_hint_1 _)
  unfold Builtin.«range_iterator.__length_hint__»
  refine wpAny_bind (wpAny_of_eq (a := Value.ref I) rfl ?_)
  refine wpAny_bind (wpAny_field hit rfl (x := rawInt left) (by simp) ?_)
  dsimp only [rawInt]
  unfold retInt mkInt
  wp_walk
  exact ⟨_, rfl, h _ _ (by simp)⟩
/-- list.__init__ of a range's iterator -/
theorem wpAny_extend_ri {R : Result → Shared → Prop} {I : Addr} {a c : Int} {n : Nat} (hh : A.handled = none) (hst : IsRangeIter s.heap I a n c) (hn : n ≤ 2 ^ 24) (S : Addr) (res : Value) (c₀ : Nat) (hSI : S ≠ I)
    (hS : s.heap.get? S = some { cls := .type "list", data := .seq #[] c₀ })
    (hR : ∀ h' tk acc' c', (∀ b o, b ≠ S → b ≠ I → s.heap.get? b = some o → h'.get? b = some o) → h'.get? S = some { cls := .type "list", dict := none, data := .seq acc' c', slots := #[] } →
      ItemsOf (fun i v => ∃ t, v = .int (a + i * c) t) acc' n → R (.ok (.ret res)) { s with heap := h', toks := tk }) :
    wpAny (model prog w) A.in1 (Builtin.List.listExtendWith (.ref S) (.ref I) res)
      (fun fin s' => match fin with | .done f => R (.ok f) s' | .again c' => c'.quiet = true ∧ codeAny (model prog w) A c' R s') (fun e s' => R (.error e) s') s := by
  have hSf : S ∉ [I] := fun h => hSI (List.mem_singleton.mp h)
  have hT : s.TypeIs (.ref I) "range_iterator" := ⟨_, hst, rfl⟩
  have st0 : IsRangeIter s.heap I (a + ((0 : Nat) : Int) * c) ((n : Int) - ((0 : Nat) : Int)) c := by simpa using hst
  have W := (Walks.range (prog := prog) (w := w) (A := A.in1) hh I a c n).toS
  have h1 : Builtin.List.listSameRef (.ref S) (.ref I) = false := by simp [Builtin.List.listSameRef, hSI]
  unfold Builtin.List.listExtendWith
  refine wpAny_bind (wpAny_typeOf hT ?_)
  rw [if_neg (by rw [h1]; decide)]
  refine wpAny_bind (wpAny_pyIter_rangeiter hst ?_)
  refine wpAny_bind (wpAny_holding ?_)
  unfold Builtin.List.listLengthHint
  refine wpAny_bind (wpAny_specialOf hT F.nolen_ra ?_)
  show wpAny _ A.in1 (specialOf (Value.ref I) (Str.ofString "__length_hint__") >>= _) _ _ _
  refine wpAny_bind (wpAny_specialOf hT F.hint_ra ?_)
  (generalize hid : ("range_iterator.__length_hint__" : String) = id0; (fail_if_success (clear hid id0)); wp_delta; rw [show splitId id0 = some ("range_iterator", "__length_hint__") from by subst hid; decide +kernel]; subst hid)
  refine wpAny_bind (wpAny_isInstance (b := true) hT (by rw [isSubtype_type]; kernel_rfl) ?_)
  show wpAny _ A.in1 (call (.builtin "range_iterator.__length_hint__") [.ref I] >>= _) _ _ _
  refine wpAny_bind (call_hint_ri hst fun u tk htk => ?_)
  refine wpAny_bind (m := asInt? (.int n u)) (wpAny_pure ?_)
  dsimp only
  have hk : Builtin.List.listTooLong (Int.toNat (n : Int)) = false := by
    unfold Builtin.List.listTooLong
    rw [Int.toNat_natCast]
    exact decide_eq_false (by rw [sizeLine_eq]; omega)
  rw [if_neg (by rw [hk]; decide)]
  refine wpAny_pure ?_
  rw [if_neg (by decide)]
  refine wpAny_pure ⟨plainId_quiet F.plain_extend_loop _, codeAny_extend_loopS W (by rw [sizeLine_eq]; omega) S hSf res n 0 _ #[] c₀ rfl (Nat.zero_le _) st0 hS (ItemsOf.nil _) fun s' acc' c' hm hS' hacc => ?_⟩
  rw [Moved.eq_with hm]
  refine hR s'.heap s'.toks acc' c' (fun b o hb hb2 e => hm.heap b o (fun hmem => ?_) e) hS' hacc
  rcases List.mem_cons.mp hmem with e' | hmem
  · exact hb e'
  · exact hb2 (List.mem_singleton.mp hmem)
theorem call_list_ri {Q : Value → Shared → Prop} {I : Addr} {a c : Int} {n : Nat} (hh : A.handled = none) (hst : IsRangeIter s.heap I a n c) (hn : n ≤ 2 ^ 24)
    (hQ : ∀ h' tk acc' c', (∀ b o, b ≠ I → s.heap.get? b = some o → h'.get? b = some o) →
      h'.get? s.heap.objs.size = some { cls := .type "list", dict := none, data := .seq acc' c', slots := #[] } → ItemsOf (fun i v => ∃ t, v = .int (a + i * c) t) acc' n → Q (.ref s.heap.objs.size) { s with heap := h', toks := tk }) :
    wpAny (model prog w) A (call (.type "list") [.ref I]) Q E s := by
  refine callType_codes (Q₁ := fun obj s₁ => obj = .ref s.heap.objs.size ∧ s₁ = { s with heap := s.heap.push { cls := .type "list", data := .seq #[] } }) F.called_list (F.typeCall_list_1 _) F.entry_list_init
    (code_list_new _ ⟨rfl, rfl⟩) fun obj s₁ h₁ => ?_
  obtain ⟨rfl, rfl⟩ := h₁
  have hS : (s.heap.push { cls := .type "list", data := .seq #[] }).get? s.heap.objs.size = some { cls := .type "list", data := .seq #[] } := Heap.get?_push_size _ rfl
  have hSI : s.heap.objs.size ≠ I := Nat.ne_of_gt (Heap.lt_size hst)
  refine ⟨⟨_, hS, rfl⟩, F.args_list_init_2 _ _, ?_⟩
  show wpAny _ _ (do let old ← Builtin.List.listItems (.ref s.heap.objs.size); Builtin.List.listUpdate (.ref s.heap.objs.size) (fun _ => #[]); letGo old.toList.reverse; Builtin.List.listExtendWith (.ref s.heap.objs.size) (.ref I) .none) _ _ _
  refine wpAny_bind ?_
  unfold Builtin.List.listItems
  refine wpAny_bind (wpAny_seqItems hS rfl (wpAny_pure ?_))
  show wpAny _ _ (updateSeq s.heap.objs.size (fun _ => #[]) >>= fun _ => letGo (#[] : Array Value).toList.reverse >>= fun _ => Builtin.List.listExtendWith (.ref s.heap.objs.size) (.ref I) .none) _ _ _
  refine wpAny_bind (wpAny_updateSeq hS rfl ?_)
  have hS₂ := Heap.get?_update_self (Obj.mapSeq (fun _ => (#[] : Array Value))) hS rfl
  refine wpAny_bind (wpAny_letGo ?_)
  have hst2 : IsRangeIter ((s.heap.push { cls := .type "list", data := .seq #[] }).update s.heap.objs.size (Obj.mapSeq (fun _ => (#[] : Array Value)))) I a n c := (Heap.get?_update_other _ _ hSI).trans (Heap.get?_push_of_some _ hst)
  refine wpAny_extend_ri (prog := prog) (w := w) (A := A.in1) (R := wants (fun r s₂ => r = Value.none ∧ Q (Value.ref s.heap.objs.size) s₂) E) (s := { s with heap := (s.heap.push { cls := .type "list", data := .seq #[] }).update s.heap.objs.size (Obj.mapSeq (fun _ => (#[] : Array Value))) }) hh hst2 hn s.heap.objs.size .none _ hSI hS₂ fun h' tk acc' c' hk hS' hacc => ?_
  refine ⟨rfl, hQ h' tk acc' c' (fun b o hb e => hk b o (Nat.ne_of_lt (Heap.lt_size e)) hb ((Heap.get?_update_other _ _ (Nat.ne_of_gt (Heap.lt_size e))).trans (Heap.get?_push_of_some _ e))) hS' hacc⟩
end
end PySem
namespace PyProof.Rows
open PySem
section
variable {prog : Program} {w : World} {A : Around} {E : Value → Shared → Prop} {s : Shared}
/-! ### sorted of a tuple -/
theorem collect_tup {l : Addr} {vs : List Value} {Q : List Value → Shared → Prop} (hl : s.heap.IsTuple l vs.toArray)
    (h : Q vs { s with heap := (s.heap.push (seqObj "list" #[] 0)).update s.heap.objs.size (Obj.mapSeq (· ++ vs.toArray)) }) (hsz : vs.length ≤ sizeLine) :
    wpAny (model prog w) A (collect (.ref l)) Q E s := by
  obtain ⟨o, ho, hc, n, hd⟩ := id hl
  unfold collect
  refine wpAny_bind (wpAny_runValue (codeAny_builtin entry_proto_collect' ?_))
  show wpAny _ _ (do again (.builtin "list.__iadd__" ⟨[← newList [], .ref l], []⟩)) _ _ s
  refine wpAny_bind (wpAny_newList (wpAny_pure ⟨Code.quiet_builtin _ (by decide +kernel), codeAny_builtin entry_list_iadd' ?_⟩))
  show wpAny _ _ (Builtin.List.listExtendWith (.ref s.heap.objs.size) (.ref l) (.ref s.heap.objs.size)) _ _ { s with heap := s.heap.push (seqObj "list" #[] 0) }
  unfold Builtin.List.listExtendWith
  have ho' : (s.heap.push (seqObj "list" #[] 0)).get? l = some o := Heap.get?_push_of_some _ ho
  refine wpAny_bind (wpAny_typeOf (T := "tuple") ⟨o, ho', hc⟩ ?_)
  have ht : (Value.type "tuple" == Value.type "tuple") = true := by rfl
  rw [if_pos (by rw [ht]; simp)]
  refine wpAny_bind (listItems_at ho' hd ?_)
  refine wpAny_bind (listItems_at (xs := #[]) (n := 0) (Heap.get?_push_size _ rfl) rfl ?_)
  rw [if_neg (by simp)]
  refine wpAny_bind (listUpdate_at (xs := #[]) (n := 0) (Heap.get?_push_size _ rfl) rfl ?_ (Nat.zero_le _) (by show (#[] ++ vs.toArray).size ≤ sizeLine + 1; simp only [Array.size_append, List.size_toArray, List.length_nil]; omega))
  refine wpAny_pure ?_
  show wpAny (model prog w) A (do
      let o ← load s.heap.objs.size
      match o.data with
      | .seq xs _ => pure xs.toList
      | _ => unsupported "internal:collect") Q E { s with heap := (s.heap.push (seqObj "list" #[] 0)).update s.heap.objs.size (Obj.mapSeq (· ++ vs.toArray)) }
  refine wpAny_bind (wpAny_load (get?_update_seq (Heap.get?_push_size _ rfl) _) ?_)
  show wpAny _ _ (pure ((#[] : Array Value) ++ vs.toArray).toList) Q E _
  rw [show ((#[] : Array Value) ++ vs.toArray).toList = vs by simp]
  exact wpAny_pure h
theorem sorted_tup {l : Addr} {vs : List Value} {ns : List Int} {Q : Value → Shared → Prop} (hl : s.heap.IsTuple l vs.toArray) (hI : IntsAre vs ns) (h64 : vs.length < 64)
    (h : ∀ (out : Array Value) (ns' : List Int), IntsAre out.toList ns' → ns'.Perm ns → ns'.Pairwise (· ≤ ·) → Q (.ref (s.heap.objs.size + 1)) { s with heap := sortedAll s.heap vs out }) :
    wpAny (model prog w) A (call (.builtin "sorted") [.ref l]) Q E s := by
  refine Calls.call_function_entry kind_sorted plain_sorted entry_sorted (args_sorted1 _) ?_
  unfold Builtin.«sorted»
  refine wpAny_bind (m := checkCount "sorted" 1 1 _) (wpAny_pure ?_)
  refine wpAny_bind (collect_tup hl ?_ (by rw [sizeLine_eq]; omega))
  refine wpAny_bind (wpAny_newList ?_)
  have hsz : ((s.heap.push (seqObj "list" #[] 0)).update s.heap.objs.size (Obj.mapSeq (· ++ vs.toArray))).objs.size = s.heap.objs.size + 1 := by
    rw [Heap.size_update, size_push']
  have hoL : (((s.heap.push (seqObj "list" #[] 0)).update s.heap.objs.size (Obj.mapSeq (· ++ vs.toArray))).push (seqObj "list" vs.toArray 0)).get? (s.heap.objs.size + 1) = some (seqObj "list" vs.toArray 0) := by
    rw [← hsz]; exact Heap.get?_push_size _ rfl
  show wpAny _ _ _ _ _ { s with heap := ((s.heap.push (seqObj "list" #[] 0)).update s.heap.objs.size (Obj.mapSeq (· ++ vs.toArray))).push (seqObj "list" vs.toArray 0) }
  rw [hsz]
  refine wpAny_bind (wpAny_holding (wpAny_call_entry slot_list_sort ⟨_, hoL, rfl⟩ entry_list_sort (list_sort_tree hoL hI h64 fun out ns' a1 a2 a3 => ⟨_, rfl, ?_⟩) (args_list_sort _)))
  exact wpAny_pure ⟨_, rfl, h out ns' a1 a2 a3⟩
end
end PyProof.Rows
namespace TL
open PySem PySem.Spec PyProof.Rows L2
/-- list(reversed(range(a, b))) -/
def rvV (a b : Int) : List V := (List.range (b - a).toNat).map fun i => V.int (a + (((b - a).toNat : Nat) : Int) - 1 + (i : Nat) * (-1))
def tLstRv (te : L2.St → Hp → (Int → Int → Hp → Prop) → Prop) : TE := fun σ H Q => te σ H fun a b H1 => RgOk a b ∧ ∀ q, H1 q = none → Q (.ref q) (upd H1 q (.lst (rvV a b)))
theorem vals_rv {a c : Int} {n : Nat} {acc : Array Value} (h : ItemsOf (fun i v => ∃ t, v = .int (a + i * c) t) acc n) : Vals ((List.range n).map fun i => V.int (a + (i : Nat) * c)) acc.toList := by
  have e : acc.toList.length = n := by rw [Array.length_toList]; exact h.1
  rw [← e]
  refine vals_of_get acc.toList _ fun j u hj => ?_
  obtain ⟨t, rfl⟩ := h.2 j u (by rw [← hj, Array.getElem?_toList])
  exact ⟨t, rfl⟩
theorem pe_listRv {X : Cx} {e : Expr} {te : L2.St → Hp → (Int → Int → Hp → Prop) → Prop} {p p2 pos pos2 : Pos} (hc : X.calm = true) (hg : Gl X "list") (hm : X.mg "list" = none) (hg2 : Gl X "reversed") (hm2 : X.mg "reversed" = none) (he : PRg X e te)
    (na : starEach [.Call (.Name "reversed" p2) [e] [] pos2] X.env = (false, eval (.Call (.Name "reversed" p2) [e] [] pos2) X.env) :: starEach [] X.env := by rfl) (nb : starEach [e] X.env = (false, eval e X.env) :: starEach [] X.env := by rfl) :
    PE X (.Call (.Name "list" p) [.Call (.Name "reversed" p2) [e] [] pos2] [] pos) (tLstRv te) := by
  refine ⟨fun pins s σ H Q I h => ?_⟩
  refine Call_ (ld_blt I hg hm boot_list (PyProof.Rows.callWith_type1 (args_cons ?_ na) na))
  refine Call_ (ld_blt I hg2 hm2 PyProof.Rows.boot_reversed (PyProof.Rows.callWith_type1 (args_cons (thn (he pins s σ H _ I h) fun x s1 ⟨r, a, b, t, u, v, H1, ex, hr, I1, ok, q⟩ => args_nil ?_) nb) nb rfl))
  subst ex
  obtain ⟨b1, b2, b3, b4, b5⟩ := ok
  have hn : Builtin.Range.rangeSize a b 1 = (((b - a).toNat : Nat) : Int) := rangeSize_nat a b
  refine call_reversed_range hr (smallRev_one b1 b2 b3 b4) (args_nil ?_)
  have hst : IsRangeIter (s1.heap.push (rngRevObj a b 1)) s1.heap.objs.size (a + (((b - a).toNat : Nat) : Int) - 1) (((b - a).toNat : Nat) : Int) (-1) := by
    have e1 : a + (((b - a).toNat : Nat) : Int) - 1 = a + (Builtin.Range.rangeSize a b 1 - 1) * 1 := by rw [hn]; omega
    rw [e1, ← hn]
    exact Heap.get?_push_size _ rfl
  have I2 : Inv X pins σ H1 { s1 with heap := s1.heap.push (rngRevObj a b 1) } := I1.kept (t' := s1.toks) fun b ob q => Heap.get?_push_of_some _ q
  refine call_list_ri (s := { s1 with heap := s1.heap.push (rngRevObj a b 1) }) (n := (b - a).toNat) (I1.ok.hd hc) hst b5 fun h' tk acc c' hk e' hi => ?_
  have hsz : (s1.heap.push (rngRevObj a b 1)).objs.size = s1.heap.objs.size + 1 := by simp [Heap.push]
  refine ⟨.ref (s1.heap.push (rngRevObj a b 1)).objs.size, upd H1 (s1.heap.push (rngRevObj a b 1)).objs.size (.lst (rvV a b)), ?_, rfl, q _ (I1.hok.fresh (by rw [hsz]; exact Nat.le_succ _))⟩
  refine I1.laid (t' := tk) (fun c o z => hk c o (Nat.ne_of_lt (Heap.lt_size z)) (Heap.get?_push_of_some _ z)) (by rw [hsz]; exact Nat.le_succ _) (show ObjOk X.prog X.w _ _ _ (.lst (rvV a b)) from ⟨?_, acc.toList, c', vals_rv hi, ?_⟩)
  · unfold rvV
    rw [List.length_map, List.length_range, sizeLine_eq]
    omega
  · rw [Array.toArray_toList]
    exact e'
/-- sorted(xs), a list or a tuple of ints -/
def rSortQ (K : PySem.W.Frag) : List V → Hp → VK → Prop := fun vs H Q => ∃ (a : Addr) (ns : List Int), vs = [V.ref a] ∧ (SqL K H a (ns.map V.int) ∨ SqT K H a (ns.map V.int)) ∧ ns.length < 64 ∧
  ∀ (ns' : List Int) (p : Addr), ns'.Perm ns → ns'.Pairwise (· ≤ ·) → H p = none → Q (.ref p) (upd H p (.lst (ns'.map V.int)))
theorem cr_sortQ {X : Cx} : CallR X (.builtin "sorted") (rSortQ X.K) := by
  intro pins s σ H vs us Q I r h
  obtain ⟨a, ns, rfl, hs, h64, q⟩ := h
  rcases hs with hs | hs
  · exact cr_sorted pins s σ H _ us Q I r ⟨a, ns, rfl, hs, h64, q⟩
  obtain ⟨its, rv, hl, _⟩ := I.tuple hs
  rw [Vals.ref1 r]
  have hi := rv.ints
  refine PyProof.Rows.sorted_tup hl hi (by rw [hi.length]; exact h64) fun out ns' h1 h2 h3 => ?_
  obtain ⟨ep, he'⟩ := PyProof.Rows.sortedAll_at s.heap its out
  have hlen : (ns'.map V.int).length ≤ sizeLine := by rw [List.length_map, h2.length_eq]; exact small64 h64
  exact ⟨.ref _, upd H (s.heap.objs.size + 1) (.lst (ns'.map V.int)), I.laid (t' := s.toks) (fun _ _ => PyProof.Rows.sortedAll_old) (Nat.le_succ _) ⟨hlen, out.toList, ep, vals_of_ints h1, he'⟩, rfl, q ns' _ h2 h3 (I.hok.fresh (Nat.le_succ _))⟩
end TL
namespace PySem.F
theorem slot_comb_next : Slot "itertools.combinations" "__next__" "itertools.combinations.__next__" :=
  .of (owner := "itertools.combinations") (n := "__next__") (by rw [typeLookup_type, builtinLookup_eq_fast]; kernel_rfl) (by decide +kernel) (by decide +kernel) (by decide +kernel)
    (by first | exact .inl (by decide +kernel) | exact .inr (by decide +kernel)) (by rw [isSubtype_type]; kernel_rfl)
theorem slot_comb_iter : Slot "itertools.combinations" "__iter__" "itertools.combinations.__iter__" :=
  .of (owner := "itertools.combinations") (n := "__iter__") (by rw [typeLookup_type, builtinLookup_eq_fast]; kernel_rfl) (by decide +kernel) (by decide +kernel) (by decide +kernel)
    (by first | exact .inl (by decide +kernel) | exact .inr (by decide +kernel)) (by rw [isSubtype_type]; kernel_rfl)
theorem slot_comb_init : Slot "itertools.combinations" "__init__" "object.__init__" :=
  .of (owner := "object") (n := "__init__") (by rw [typeLookup_type, builtinLookup_eq_fast]; kernel_rfl) (by decide +kernel) (by decide +kernel) (by decide +kernel)
    (by first | exact .inl (by decide +kernel) | exact .inr (by decide +kernel)) (by rw [isSubtype_type]; kernel_rfl)
theorem entry_comb_next : entryFor table "itertools.combinations.__next__" = some Builtin.«itertools.combinations.__next__» := entryFor_of_tree (by kernel_rfl)
theorem entry_comb_new : entryFor table "itertools.combinations.__new__" = some Builtin.«itertools.combinations.__new__» := entryFor_of_tree (by kernel_rfl)
theorem owner_comb : Manifest.owners.lookup (String.ofList "itertools.combinations".toList.reverse.reverse) = some Manifest.sig_itertools_combinations := by kernel_rfl
theorem args_comb_next_1 (a : Value) : argsOk "itertools.combinations.__next__" ⟨[a], []⟩ := by
  unfold argsOk; rw [signature?_of (id := "itertools.combinations.__next__") (n := "__next__".toList.reverse) (o := "itertools.combinations".toList.reverse) (by kernel_rfl) owner_comb]; kernel_rfl
theorem entry_comb_iter : entryFor table "itertools.combinations.__iter__" = some Builtin.«dict_keyiterator.__iter__» :=
  entryFor_alias (id' := "dict_keyiterator.__iter__") (by kernel_rfl) rfl (by decide +kernel) (by kernel_rfl)
theorem args_comb_iter_1 (a : Value) : argsOk "itertools.combinations.__iter__" ⟨[a], []⟩ := by
  unfold argsOk; rw [signature?_of (id := "itertools.combinations.__iter__") (n := "__iter__".toList.reverse) (o := "itertools.combinations".toList.reverse) (by kernel_rfl) owner_comb]; kernel_rfl
theorem mro_comb : mroOf (.type "itertools.combinations") = pure [.type "itertools.combinations", .type "object"] := by rw [mroOf_type]; kernel_rfl
theorem lookup_comb_new : typeLookup (.type "itertools.combinations") "__new__" = pure (some (.builtin "itertools.combinations.__new__")) := by rw [typeLookup_type, builtinLookup_eq_fast]; kernel_rfl
theorem called_comb : TypeCalled "itertools.combinations" "itertools.combinations.__new__" "object.__init__" :=
  ⟨by decide +kernel, by decide +kernel, ⟨_, _, mro_comb⟩, madeBy_type mro_comb lookup_comb_new (by decide +kernel), by decide +kernel, by rw [isSubtype_type]; kernel_rfl, slot_comb_init⟩
theorem typeCall_comb_2 (a b : Value) : checkTypeCall "itertools.combinations" ⟨[a, b], []⟩ = pure () := by kernel_rfl
theorem newCall_comb_2 (a b : Value) : checkBuiltinCall "itertools.combinations.__new__" ⟨[.type "itertools.combinations", a, b], []⟩ = pure () := by kernel_rfl
theorem sub_comb : isSubtype (.type "itertools.combinations") (.type "itertools.combinations") = pure true := by rw [isSubtype_type]; kernel_rfl
end PySem.F
namespace TL
open PySem PySem.Spec PyProof.Rows L2 PySem.W
/-! ### itertools.combinations over a tuple of things -/
def vsC (p : Addr) (st : Int) (res : Value) (is : List Nat) : Array Value := ([.ref p, rawInt st, res] ++ is.map fun (i : Nat) => rawInt (i : Int)).toArray
abbrev IsComb (h : Heap) (e p : Addr) (st : Int) (res : Value) (is : List Nat) : Prop :=
  h.get? e = some { cls := .type "itertools.combinations", dict := none, data := .fields (vsC p st res is), slots := #[] }
theorem vsC_1 {p : Addr} {st k : Int} {res : Value} {is : List Nat} : (vsC p st res is).setIfInBounds 1 (rawInt k) = vsC p k res is := by
  unfold vsC
  rw [List.setIfInBounds_toArray]
  rfl
theorem vsC_2 {p : Addr} {st : Int} {res v : Value} {is : List Nat} : (vsC p st res is).setIfInBounds 2 v = vsC p st v is := by
  unfold vsC
  rw [List.setIfInBounds_toArray]
  rfl
theorem vsC_z {p : Addr} {st : Int} {res : Value} {is : List Nat} : (vsC p st res is).size = is.length + 3 := by
  unfold vsC
  simp
theorem numsC (is : List Nat) : (is.map fun (i : Nat) => rawInt (i : Int)).map (fun (v : Value) => match v with | .int n _ => n.toNat | _ => 0) = is := by
  rw [List.map_map]
  induction is with
  | nil => rfl
  | cons x xs ih => rw [List.map_cons, ih]; rfl
section
variable {prog : Program} {w : World} {A : Around} {E : Value → Shared → Prop} {s : Shared}
theorem wp_nums {e p : Addr} {st : Int} {res : Value} {is : List Nat} {Q : List Nat → Shared → Prop} (hI : IsComb s.heap e p st res is) (h : Q is s) : wpAny (model prog w) A (Builtin.Itertools.itNumbersFrom (.ref e) 3) Q E s := by
  unfold Builtin.Itertools.itNumbersFrom
  refine wpAny_bind (wpAny_load hI ?_)
  refine wpAny_pure ?_
  have e1 : (vsC p st res is).toList.drop 3 = is.map fun (i : Nat) => rawInt (i : Int) := rfl
  show Q (((vsC p st res is).toList.drop 3).map _) s
  rw [e1]
  exact Eq.mpr (congrArg (fun l => Q l s) (numsC is)) h
theorem wp_itint {e p : Addr} {st : Int} {res : Value} {is : List Nat} {Q : Int → Shared → Prop} (hI : IsComb s.heap e p st res is) (h : Q st s) : wpAny (model prog w) A (Builtin.Itertools.itIntField (.ref e) 1) Q E s := by
  unfold Builtin.Itertools.itIntField
  exact wpAny_bind (wpAny_field hI rfl (x := rawInt st) rfl (wpAny_pure h))
theorem wp_pool {p : Addr} {its : Array Value} {Q : Array Value → Shared → Prop} (hp : s.heap.IsTuple p its) (h : Q its s) : wpAny (model prog w) A (Builtin.Itertools.itPoolItems (.ref p)) Q E s := by
  obtain ⟨o, ho, _, n, hd⟩ := hp
  unfold Builtin.Itertools.itPoolItems
  exact wpAny_bind (wpAny_seqItems ho hd (wpAny_pure h))
def pickC (its : Array Value) (is : List Nat) : List Value := is.map fun i => its.getD i .none
theorem tup_keep {e p : Addr} {h h1 : Heap} {its : Array Value} {st : Int} {res : Value} {is : List Nat} (hp : h.IsTuple p its) (hI : IsComb h e p st res is) (sb : Heap.SameBut e h h1) : h1.IsTuple p its := by
  obtain ⟨o, ho, hc, hd⟩ := hp
  refine ⟨o, (sb.2 p fun z => ?_).trans ho, hc, hd⟩
  subst z
  obtain rfl : o = _ := Option.some.inj (ho.symm.trans hI)
  exact absurd (Value.type.inj hc) (by decide)
/-- the found tuple is remembered and handed out -/
theorem comb_tail {e p : Addr} {res : Value} {is : List Nat} {v : Value} {Q : Value → Shared → Prop} (hI : IsComb s.heap e p 1 res is)
    (hQ : ∀ h', IsComb h' e p 1 v is → Heap.SameBut e s.heap h' → Q v { s with heap := h' }) :
    wpAny (model prog w) A (field (.ref e) 2 >>= fun before => setField (.ref e) 2 v >>= fun _ => letGo [before] [v] >>= fun _ => ret v) (fun fin s' => ∃ v, fin = .done (.ret v) ∧ Q v s') E s := by
  refine wpAny_bind (wpAny_field hI rfl (x := res) rfl ?_)
  refine wpAny_bind (wpAny_setField_rec hI (by rw [vsC_z]; omega) fun h2 hI2 sb2 => ?_)
  rw [vsC_2] at hI2
  exact wpAny_bind (wpAny_letGo (wpAny_pure ⟨_, rfl, hQ h2 hI2 sb2⟩))
theorem comb_next0 {e p : Addr} {res : Value} {is : List Nat} {its : Array Value} {Q : Value → Shared → Prop} (hI : IsComb s.heap e p 0 res is) (hp : s.heap.IsTuple p its) (hz : is.length ≤ 1000)
    (hQ : ∀ h', IsComb h' e p 1 (.ref s.heap.objs.size) is → h'.get? s.heap.objs.size = some { cls := .type "tuple", data := .seq (pickC its is).toArray } →
      (∀ b o, b ≠ e → s.heap.get? b = some o → h'.get? b = some o) → Q (.ref s.heap.objs.size) { s with heap := h' }) :
    wpAny (model prog w) A (Builtin.«itertools.combinations.__next__» ⟨[.ref e], []⟩) (fun fin s' => ∃ v, fin = .done (.ret v) ∧ Q v s') E s := by
  obtain ⟨hp', g, d, tk, os⟩ := s
  have le : e < hp'.objs.size := Heap.lt_size hI
  show wpAny _ _ (field (.ref e) 0 >>= _) _ _ _
  refine wpAny_bind (wpAny_field hI rfl (x := .ref p) rfl ?_)
  refine wpAny_bind (wp_nums hI ?_)
  refine wpAny_bind (wp_itint hI ?_)
  show wpAny _ _ (setField (.ref e) 1 (rawInt 1) >>= _) _ _ _
  refine wpAny_bind (wpAny_setField_rec hI (by rw [vsC_z]; omega) fun h1 hI1 sb1 => ?_)
  rw [vsC_1] at hI1
  replace sb1 : Heap.SameBut e hp' h1 := sb1
  have hp1 : h1.IsTuple p its := tup_keep hp hI sb1
  refine wpAny_bind (wpAny_bind (wp_pool hp1 (wpAny_newTuple ?_ (by rw [List.length_map]; exact Nat.le_trans hz (by decide)))))
  have hz1 : h1.objs.size = hp'.objs.size := sb1.1
  have hI2 : IsComb (h1.push { cls := .type "tuple", data := .seq (pickC its is).toArray }) e p 1 res is := Heap.get?_push_of_some _ hI1
  refine comb_tail (s := ⟨h1.push { cls := .type "tuple", data := .seq (pickC its is).toArray }, g, d, tk, os⟩) hI2 fun h3 hI3 sb3 => ?_
  show Q (.ref h1.objs.size) ⟨h3, g, d, tk, os⟩
  rw [hz1]
  replace hI3 : IsComb h3 e p 1 (.ref h1.objs.size) is := hI3
  rw [hz1] at hI3
  refine hQ h3 hI3 ?_ ?_
  · have := Heap.get?_push_size h1 (o := { cls := .type "tuple", data := .seq (pickC its is).toArray }) rfl
    rw [hz1] at this
    exact (sb3.2 _ (Nat.ne_of_gt le)).trans this
  · exact fun b o hb ho => (sb3.2 b hb).trans (Heap.get?_push_of_some _ ((sb1.2 b hb).trans ho))
/-- the next choice of places, in order -/
def nxc (n : Nat) (is : List Nat) : Option (List Nat) :=
  match ((List.range is.length).reverse).find? (fun i => is.getD i 0 != i + n - is.length) with
  | none => none
  | some i => some (is.take i ++ ((List.range (is.length - i)).map fun k => is.getD i 0 + 1 + k))
theorem nxc_len {n : Nat} {is js : List Nat} (h : nxc n is = some js) : js.length = is.length := by
  unfold nxc at h
  split at h
  · cases h
  · rename_i i hi
    cases h
    have := List.mem_of_find?_eq_some hi
    rw [List.mem_reverse, List.mem_range] at this
    simp
    omega
theorem vsC_set {p : Addr} {st : Int} {res : Value} {is js : List Nat} : (vsC p st res is).extract 0 3 ++ (js.map fun (n : Nat) => rawInt (n : Int)).toArray = vsC p st res js := by
  unfold vsC
  apply Array.ext'
  simp
theorem comb_next1 {e p : Addr} {res : Value} {is js : List Nat} {its : Array Value} {Q : Value → Shared → Prop} (hI : IsComb s.heap e p 1 res is) (hp : s.heap.IsTuple p its) (hz : is.length ≤ 1000) (hn : nxc its.size is = some js)
    (hQ : ∀ h', IsComb h' e p 1 (.ref s.heap.objs.size) js → h'.get? s.heap.objs.size = some { cls := .type "tuple", data := .seq (pickC its js).toArray } →
      (∀ b o, b ≠ e → s.heap.get? b = some o → h'.get? b = some o) → Q (.ref s.heap.objs.size) { s with heap := h' }) :
    wpAny (model prog w) A (Builtin.«itertools.combinations.__next__» ⟨[.ref e], []⟩) (fun fin s' => ∃ v, fin = .done (.ret v) ∧ Q v s') E s := by
  obtain ⟨hp', g, d, tk, os⟩ := s
  have le : e < hp'.objs.size := Heap.lt_size hI
  have hlj := nxc_len hn
  show wpAny _ _ (field (.ref e) 0 >>= _) _ _ _
  refine wpAny_bind (wpAny_field hI rfl (x := .ref p) rfl ?_)
  refine wpAny_bind (wp_nums hI ?_)
  refine wpAny_bind (wp_itint hI ?_)
  show wpAny _ _ (Builtin.Itertools.itPoolItems (.ref p) >>= _) _ _ _
  refine wpAny_bind (wp_pool hp ?_)
  split
  · rename_i nx heq
    obtain rfl : nx = js := Option.some.inj (heq.symm.trans hn)
    unfold Builtin.Itertools.itSetNumbersFrom
    refine wpAny_bind (wpAny_updateFields hI rfl ?_ (by rw [vsC_set, vsC_z]; exact Nat.le_trans (Nat.add_le_add_right (Nat.le_trans (Nat.le_of_eq hlj) hz) 3) (by decide)))
    have hI1 : (hp'.update e (Obj.mapFields fun fs => fs.extract 0 3 ++ (nx.map fun (n : Nat) => rawInt (n : Int)).toArray)).get? e = some { cls := .type "itertools.combinations", dict := none, data := .fields (vsC p 1 res nx), slots := #[] } := by
      have := Heap.get?_update_self (Obj.mapFields fun fs => fs.extract 0 3 ++ (nx.map fun (n : Nat) => rawInt (n : Int)).toArray) hI (by rfl)
      refine this.trans (congrArg some ?_)
      show ({ cls := _, dict := _, data := .fields _, slots := _ } : Obj) = _
      dsimp only
      rw [vsC_set]
    have sb1 : Heap.SameBut e hp' (hp'.update e (Obj.mapFields fun fs => fs.extract 0 3 ++ (nx.map fun (n : Nat) => rawInt (n : Int)).toArray)) := Heap.SameBut.update ..
    generalize hp'.update e (Obj.mapFields fun fs => fs.extract 0 3 ++ (nx.map fun (n : Nat) => rawInt (n : Int)).toArray) = h1 at *
    have hp1 : h1.IsTuple p its := tup_keep hp hI sb1
    show wpAny _ _ (_ >>= _) _ _ ⟨h1, g, d, tk, os⟩
    refine wpAny_bind (wpAny_bind (wp_pool hp1 (wpAny_newTuple ?_ (by rw [List.length_map, hlj]; exact Nat.le_trans hz (by decide)))))
    have hz1 : h1.objs.size = hp'.objs.size := sb1.1
    have hI2 : IsComb (h1.push { cls := .type "tuple", data := .seq (pickC its nx).toArray }) e p 1 res nx := Heap.get?_push_of_some _ hI1
    refine comb_tail (s := ⟨h1.push { cls := .type "tuple", data := .seq (pickC its nx).toArray }, g, d, tk, os⟩) hI2 fun h3 hI3 sb3 => ?_
    show Q (.ref h1.objs.size) ⟨h3, g, d, tk, os⟩
    rw [hz1]
    replace hI3 : IsComb h3 e p 1 (.ref h1.objs.size) nx := hI3
    rw [hz1] at hI3
    refine hQ h3 hI3 ?_ ?_
    · have := Heap.get?_push_size h1 (o := { cls := .type "tuple", data := .seq (pickC its nx).toArray }) rfl
      rw [hz1] at this
      exact (sb3.2 _ (Nat.ne_of_gt le)).trans this
    · exact fun b o hb ho => (sb3.2 b hb).trans (Heap.get?_push_of_some _ ((sb1.2 b hb).trans ho))
  · rename_i heq
    exact absurd (heq.symm.trans hn) (by simp)
theorem it_stop {α : Type} {Q : α → Shared → Prop} (hh : A.handled = none) (hE : ∀ h' e, (∀ b o, s.heap.get? b = some o → h'.get? b = some o) → (∃ o, h'.get? e = some o ∧ o.cls = .type "StopIteration") → E (.ref e) { s with heap := h' }) :
    wpAny (model prog w) A (Builtin.Itertools.itStop : Sem α) Q E s := by
  unfold Builtin.Itertools.itStop
  show wpAny _ _ (newExc (.type "StopIteration") [] >>= _) _ _ _
  refine wpAny_bind ?_
  simp only [newExc, newTuple]
  refine wpAny_bind (wpAny_newObj_type ?_ (by size_fits))
  refine wpAny_bind (m := firstArgMember _ _) (wpAny_of_eq (a := Value.none) (by first | rfl | (simp only [firstArgMember]; rfl)) ?_)
  refine wpAny_newObj_type ?_ (by size_fits)
  simp only [raiseNew]
  refine wpAny_bind (wpAny_handled ?_)
  first | rw [show A.in1.handled = none from hh] | rw [hh]
  refine wpAny_bind (wpAny_pure (wpAny_throw ?_))
  exact hE _ _ (fun b o ho => Heap.get?_push_of_some _ (Heap.get?_push_of_some _ ho)) ⟨_, Heap.get?_push_size _ rfl, rfl⟩
theorem comb_end1 {e p : Addr} {res : Value} {is : List Nat} {its : Array Value} {Q : PySem.Fin → Shared → Prop} (hh : A.handled = none) (hI : IsComb s.heap e p 1 res is) (hp : s.heap.IsTuple p its) (hn : nxc its.size is = none)
    (hE : ∀ h' x, (∀ b o, b ≠ e → s.heap.get? b = some o → h'.get? b = some o) → (∃ o, h'.get? x = some o ∧ o.cls = .type "StopIteration") → E (.ref x) { s with heap := h' }) :
    wpAny (model prog w) A (Builtin.«itertools.combinations.__next__» ⟨[.ref e], []⟩) Q E s := by
  obtain ⟨hp', g, d, tk, os⟩ := s
  show wpAny _ _ (field (.ref e) 0 >>= _) _ _ _
  refine wpAny_bind (wpAny_field hI rfl (x := .ref p) rfl ?_)
  refine wpAny_bind (wp_nums hI ?_)
  refine wpAny_bind (wp_itint hI ?_)
  show wpAny _ _ (Builtin.Itertools.itPoolItems (.ref p) >>= _) _ _ _
  refine wpAny_bind (wp_pool hp ?_)
  split
  · rename_i nx heq
    exact absurd (heq.symm.trans hn) (by simp)
  · refine wpAny_bind (wpAny_setField_rec hI (by rw [vsC_z]; omega) fun h1 hI1 sb1 => ?_)
    exact it_stop hh fun h' x k hx => hE h' x (fun b o hb ho => k b o ((sb1.2 b hb).trans ho)) hx
theorem comb_end2 {e p : Addr} {res : Value} {is : List Nat} {Q : PySem.Fin → Shared → Prop} (hh : A.handled = none) (hI : IsComb s.heap e p 2 res is)
    (hE : ∀ h' x, (∀ b o, s.heap.get? b = some o → h'.get? b = some o) → (∃ o, h'.get? x = some o ∧ o.cls = .type "StopIteration") → E (.ref x) { s with heap := h' }) :
    wpAny (model prog w) A (Builtin.«itertools.combinations.__next__» ⟨[.ref e], []⟩) Q E s := by
  obtain ⟨hp', g, d, tk, os⟩ := s
  show wpAny _ _ (field (.ref e) 0 >>= _) _ _ _
  refine wpAny_bind (wpAny_field hI rfl (x := .ref p) rfl ?_)
  refine wpAny_bind (wp_nums hI ?_)
  refine wpAny_bind (wp_itint hI ?_)
  exact wpAny_bind (wpAny_rule (it_stop hh fun h' x k hx => hE h' x k hx))
theorem comb_iter {e p : Addr} {st : Int} {res : Value} {is : List Nat} {Q : Value → Shared → Prop} (hI : IsComb s.heap e p st res is) (h : Q (.ref e) s) : wpAny (model prog w) A (pyIter (.ref e)) Q E s := by
  have hT : s.TypeIs (.ref e) "itertools.combinations" := ⟨_, hI, rfl⟩
  refine wpAny_pyIter_slot hT F.slot_comb_iter (wpAny_call_entry F.slot_comb_iter hT F.entry_comb_iter ?_ (F.args_comb_iter_1 _))
  show wpAny _ _ (ret (.ref e)) _ _ s
  exact wpAny_pure ⟨_, rfl, "itertools.combinations", _, hT, F.slot_comb_next.lookup, h⟩
/-- the state of an iterator of choices, made anew: nothing left if more are asked than there are -/
def st0 (n r : Nat) : Int := if r > n then 2 else 0
theorem comb_new {r : Addr} {a b : Int} {t u v : Tok} {n : Nat} {m : Nat} {tm : Tok} {Q : Value → Shared → Prop} (hh : A.handled = none) (hr : IsRange s.heap r a b 1 t u v) (hsmall : Builtin.Range.small a b 1 = true) (hn : Builtin.Range.rangeSize a b 1 = n) (hlen : n ≤ 1000) (hm : m ≤ 1000)
    (hQ : ∀ (h1 h' : Heap) (tk : Nat) (acc : Array Value), (∀ b o, s.heap.get? b = some o → h1.get? b = some o) → (∀ b o, h1.get? b = some o → h'.get? b = some o) → ItemsOf (fun i v => ∃ t, v = .int (a + i * 1) t) acc n → h'.IsTuple h1.objs.size acc → IsComb h' (h1.objs.size + 1) h1.objs.size (st0 n m) .none (List.range m) → Q (.ref (h1.objs.size + 1)) { s with heap := h', toks := tk }) :
    wpAny (model prog w) A (Builtin.«itertools.combinations.__new__» ⟨[.type "itertools.combinations", .ref r, .int m tm], []⟩) (fun fin s' => ∃ v, fin = .done (.ret v) ∧ Q v s') E s := by
  obtain ⟨hp', g, d, tk, os⟩ := s
  have hs : isSubtype (.type "itertools.combinations") (.type ("itertools." ++ "combinations")) = pure true := by
    rw [show "itertools." ++ "combinations" = "itertools.combinations" from by decide]
    exact F.sub_comb
  have hb : Builtin.Itertools.itBindNamed "combinations" ["iterable", "r"] 2 2 [.ref r, .int m tm] [] = pure [some (.ref r), some (.int m tm)] := by kernel_rfl
  have m1 : ¬ ((m : Int) < -(2 ^ 63 : Int) || (m : Int) ≥ 2 ^ 63) = true := by
    have h1 : (2 : Int) ^ 63 = 9223372036854775808 := by decide
    rw [h1, Bool.or_eq_true, decide_eq_true_iff, decide_eq_true_iff]
    omega
  have m2 : ¬ (m : Int) < 0 := by omega
  have m3 : Builtin.Itertools.itTooMany (m : Int) = false := by
    have : (2 : Int) ^ 20 = 1048576 := by decide
    show decide ((m : Int) > 2 ^ 20) = false
    rw [this]
    exact decide_eq_false (by omega)
  have hd : typeHasDict (.type "itertools.combinations") = false := by decide +kernel
  have c1 : ∀ {A : Around} {E : Value → Shared → Prop} {Q : Value × List Value → Shared → Prop} {s : Shared}, Q (.type "itertools.combinations", [.ref r, .int m tm]) s → wpAny (model prog w) A (Builtin.Itertools.itClassAndRest "combinations" ⟨[.type "itertools.combinations", .ref r, .int m tm], []⟩) Q E s := fun {A E Q s} h => by
    obtain ⟨hp', g, d, tk, os⟩ := s
    wp_walk
    exact h
  refine wpAny_bind (wpAny_bind (c1 ?_))
  refine wpAny_bind (wpAny_of_eq hb ?_)
  have c2 : ∀ {A : Around} {E : Value → Shared → Prop} {Q : Int → Shared → Prop} {s : Shared}, Q (m : Int) s → wpAny (model prog w) A (Builtin.Itertools.itSsizeArg (.int m tm)) Q E s := fun {A E Q s} h => by
    obtain ⟨hp', g, d, tk, os⟩ := s
    unfold Builtin.Itertools.itSsizeArg
    wp_walk
    rw [if_neg m1]
    exact wpAny_pure h
  refine wpAny_bind (c2 ?_)
  refine wpAny_bind (collect_range hh hr hsmall hn (Nat.le_trans hlen (by decide)) fun h1 tk1 acc k1 hacc => ?_)
  rw [if_neg m2]
  show wpAny _ _ (if Builtin.Itertools.itTooMany ((m : Int)) = true then _ else _) _ _ _
  rw [if_neg (by rw [m3]; decide)]
  refine wpAny_bind (wpAny_newTuple ?_ (by rw [Array.length_toList, hacc.1]; exact Nat.le_trans hlen (by decide)))
  refine wpAny_pure ?_
  dsimp only
  unfold Builtin.Itertools.itNewRecord
  refine wpAny_bind ?_
  rw [if_pos (by rw [hd]; rfl)]
  have ez : acc.toList.length = n := by rw [Array.length_toList, hacc.1]
  rw [ez, Int.toNat_natCast]
  have hz : (h1.push { cls := .type "tuple", data := .seq acc.toList.toArray }).objs.size = h1.objs.size + 1 := Heap.size_push ..
  have hT := Heap.get?_push_size h1 (o := { cls := .type "tuple", data := .seq acc.toList.toArray }) rfl
  refine wpAny_newObj_type ?_ ?_
  · refine wpAny_pure ⟨_, rfl, ?_⟩
    have hC := Heap.get?_push_size (h1.push { cls := .type "tuple", data := .seq acc.toList.toArray }) (o := { cls := .type "itertools.combinations", data := .fields (vsC h1.objs.size (st0 n m) .none (List.range m)) }) rfl
    show Q (.ref (h1.push { cls := .type "tuple", data := .seq acc.toList.toArray }).objs.size) ⟨(h1.push { cls := .type "tuple", data := .seq acc.toList.toArray }).push { cls := .type "itertools.combinations", data := .fields (vsC h1.objs.size (st0 n m) .none (List.range m)) }, g, d, tk1, os⟩
    rw [hz] at hC ⊢
    exact hQ h1 _ tk1 acc k1 (fun b o ho => Heap.get?_push_of_some _ (Heap.get?_push_of_some _ ho)) hacc ⟨_, Heap.get?_push_of_some _ hT, rfl, 0, by simp⟩ hC
  · show (vsC h1.objs.size (st0 n m) .none (List.range m)).size ≤ sizeLine + 2
    rw [vsC_z, List.length_range]
    exact Nat.le_trans (by omega : m + 3 ≤ 1003) (by decide)
end
end TL
namespace TL
open PySem PySem.Spec PyProof.Rows L2 PySem.W
theorem comb_call {prog : Program} {w : World} {A : Around} {E Q : Value → Shared → Prop} {s : Shared} {r : Addr} {b : Int} {t u v : Tok} {n m : Nat} {tm : Tok} (hh : A.handled = none) (hr : IsRange s.heap r 0 b 1 t u v) (hsmall : Builtin.Range.small 0 b 1 = true) (hn : Builtin.Range.rangeSize 0 b 1 = n) (hlen : n ≤ 1000) (hm : m ≤ 1000)
    (hQ : ∀ (h1 h' : Heap) (tk : Nat) (acc : Array Value), (∀ b o, s.heap.get? b = some o → h1.get? b = some o) → (∀ b o, h1.get? b = some o → h'.get? b = some o) → ItemsOf (fun i v => ∃ t, v = .int (0 + i * 1) t) acc n → h'.IsTuple h1.objs.size acc → IsComb h' (h1.objs.size + 1) h1.objs.size (st0 n m) .none (List.range m) → Q (.ref (h1.objs.size + 1)) { s with heap := h', toks := tk }) :
    wpAny (model prog w) A (call (.type "itertools.combinations") [.ref r, .int m tm]) Q E s := by
  refine callType_new F.called_comb (by decide) (F.typeCall_comb_2 _ _) (F.newCall_comb_2 _ _) (fun obj => F.args_object_init_3 obj _ _) F.entry_comb_new
    (Meets.of_wp (S := fun A R s => A.handled = none ∧ IsRange s.heap r 0 b 1 t u v ∧ ∀ (h1 h' : Heap) (tk : Nat) (acc : Array Value), (∀ b o, s.heap.get? b = some o → h1.get? b = some o) → (∀ b o, h1.get? b = some o → h'.get? b = some o) → ItemsOf (fun i v => ∃ t, v = .int (0 + i * 1) t) acc n → h'.IsTuple h1.objs.size acc → IsComb h' (h1.objs.size + 1) h1.objs.size (st0 n m) .none (List.range m) → R (.ok (.ret (.ref (h1.objs.size + 1)))) { s with heap := h', toks := tk })
      fun prog w A R s h => comb_new (A := A.in1) h.1 h.2.1 hsmall hn hlen hm fun h1 h' tk acc a1 a2 a3 a4 a5 => h.2.2 h1 h' tk acc a1 a2 a3 a4 a5) ⟨hh, hr, fun h1 h' tk acc a1 a2 a3 a4 a5 => ⟨⟨_, a5, rfl⟩, hQ h1 h' tk acc a1 a2 a3 a4 a5⟩⟩
/-- the choices of r among n, one after the other -/
def chs (n r : Nat) : Nat → Option (List Nat)
  | 0 => if r > n then none else some (List.range r)
  | i + 1 => (chs n r i).bind (nxc n)
def natsV (js : List Nat) : List V := js.map fun j => V.int ((j : Nat) : Int)
def ItC (n r : Nat) : It :=
  ⟨fun i H => (chs n r i).isSome = true, fun i H v H' => ∃ T js, v = .ref T ∧ H T = none ∧ H' = upd H T (.tup (natsV js)) ∧ chs n r i = some js, fun i H => chs n r i = none⟩
theorem chs_le {n r : Nat} : ∀ {i : Nat} {js : List Nat}, chs n r i = some js → r ≤ n ∧ js.length = r
  | 0, js, h => by
    unfold chs at h
    split at h
    · cases h
    · cases h
      exact ⟨by omega, List.length_range⟩
  | i + 1, js, h => by
    obtain ⟨is, h1, h2⟩ := Option.bind_eq_some_iff.mp h
    have := chs_le h1
    exact ⟨this.1, (nxc_len h2).trans this.2⟩
theorem nxc_bd {n : Nat} {is js : List Nat} (hr : is.length ≤ n) (hb : ∀ k v, is[k]? = some v → v ≤ k + n - is.length) (h : nxc n is = some js) : ∀ k v, js[k]? = some v → v ≤ k + n - js.length := by
  have hl := nxc_len h
  unfold nxc at h
  split at h
  · cases h
  · rename_i i hi
    cases h
    have hm := List.mem_of_find?_eq_some hi
    rw [List.mem_reverse, List.mem_range] at hm
    have hp := List.find?_some hi
    have hv : is[i]? = some (is.getD i 0) := by rw [List.getD_eq_getElem?_getD, List.getElem?_eq_getElem hm]; rfl
    have hx := hb i _ hv
    have hne : is.getD i 0 ≠ i + n - is.length := by simpa using hp
    intro k v hk
    rw [hl]
    rcases Nat.lt_or_ge k i with z | z
    · rw [List.getElem?_append_left (by rw [List.length_take]; omega), List.getElem?_take, if_pos z] at hk
      exact hb k v hk
    · rw [List.getElem?_append_right (by rw [List.length_take]; omega), List.length_take, Nat.min_eq_left (by omega), List.getElem?_map] at hk
      obtain ⟨t, ht, rfl⟩ := Option.map_eq_some_iff.mp hk
      obtain ⟨t1, t2⟩ := List.getElem?_eq_some_iff.mp ht
      rw [List.getElem_range] at t2
      rw [List.length_range] at t1
      omega
theorem chs_bd {n r : Nat} : ∀ {i : Nat} {js : List Nat}, chs n r i = some js → ∀ k v, js[k]? = some v → v ≤ k + n - js.length
  | 0, js, h => by
    have := chs_le h
    unfold chs at h
    split at h
    · cases h
    · cases h
      intro k v hk
      obtain ⟨h1, h2⟩ := List.getElem?_eq_some_iff.mp hk
      rw [List.getElem_range] at h2
      rw [List.length_range] at h1 ⊢
      omega
  | i + 1, js, h => by
    obtain ⟨is, h1, h2⟩ := Option.bind_eq_some_iff.mp h
    have := chs_le h1
    exact nxc_bd (by omega) (chs_bd h1) h2
theorem chs_lt {n r i : Nat} {js : List Nat} (h : chs n r i = some js) : ∀ j ∈ js, j < n := fun j hj => by
  obtain ⟨k, hk⟩ := List.mem_iff_getElem?.mp hj
  have h1 := chs_bd h k j hk
  have h2 := (List.getElem?_eq_some_iff.mp hk).1
  have := chs_le h
  omega
/-- where the iterator stands behind i turns -/
def CAt (n r : Nat) (h : Heap) (e p : Addr) (i : Nat) : Prop :=
  (i = 0 ∧ ∃ res, IsComb h e p (st0 n r) res (List.range r)) ∨ ∃ k is res, i = k + 1 ∧ chs n r k = some is ∧ IsComb h e p 1 res is
theorem CAt.obj {n r i : Nat} {h : Heap} {e p : Addr} (c : CAt n r h e p i) : ∃ st res is, IsComb h e p st res is := by
  rcases c with ⟨_, res, h⟩ | ⟨k, is, res, _, _, h⟩
  · exact ⟨_, _, _, h⟩
  · exact ⟨_, _, _, h⟩
theorem CAt.keep {n r i : Nat} {h h' : Heap} {e p : Addr} (c : CAt n r h e p i) (k : ∀ o, h.get? e = some o → h'.get? e = some o) : CAt n r h' e p i := by
  rcases c with ⟨a, res, h⟩ | ⟨j, is, res, a, b, h⟩
  · exact .inl ⟨a, res, k _ h⟩
  · exact .inr ⟨j, is, res, a, b, k _ h⟩
theorem pick_items {n : Nat} {acc : Array Value} (h : ItemsOf (fun i v => ∃ t, v = .int (0 + i * 1) t) acc n) : ∀ {js : List Nat}, (∀ j ∈ js, j < n) → Vals (natsV js) (pickC acc js)
  | [], _ => .nil
  | j :: js, hj => by
    refine .cons ?_ (pick_items h fun x hx => hj x (List.mem_cons_of_mem _ hx))
    have h1 : j < acc.size := by rw [h.1]; exact hj j (List.mem_cons_self ..)
    obtain ⟨t, ht⟩ := h.2 j acc[j] (Array.getElem?_eq_getElem h1)
    refine ⟨t, ?_⟩
    show acc.getD j .none = _
    rw [Array.getD_eq_getD_getElem?, Array.getElem?_eq_getElem h1]
    show acc[j] = _
    rw [ht]
    simp
theorem turn_comb {P : Program} {w : World} {K : PySem.W.Frag} {tg : Expr} {n r : Nat} {acc : Array Value} (hacc : ItemsOf (fun i v => ∃ t, v = .int (0 + i * 1) t) acc n) (hr : r ≤ 1000) (e p : Addr) (ne : p ≠ e) :
    Turn P w K tg (ItC n r) [e, p] e (fun i h => CAt n r h e p i ∧ h.IsTuple p acc) where
  mem := List.mem_cons_self ..
  obj := fun i h st b hb => by
    simp only [List.mem_cons, List.not_mem_nil, or_false] at hb
    rcases hb with rfl | rfl
    · obtain ⟨_, _, _, h⟩ := st.1.obj
      exact ⟨_, h, fun v q => nomatch q⟩
    · obtain ⟨o, ho, _, m, hd⟩ := st.2
      refine ⟨o, ho, fun v q => ?_⟩
      rw [hd] at q
      cases q
  keep := fun i h h' st k => ⟨st.1.keep fun o q => k e (by simp) o q, by
    obtain ⟨o, ho, hc, hd⟩ := st.2
    exact ⟨o, k p (by simp) o ho, hc, hd⟩⟩
  item := by
    intro X hP hw hK hc i pins s σ H E I hf st hg
    subst hP hw hK
    obtain ⟨hC, hT⟩ := st
    obtain ⟨js, hj⟩ : ∃ js, chs n r i = some js := Option.isSome_iff_exists.mp hg
    have hjl := chs_le hj
    have hz : acc.size = n := hacc.1
    have fin : ∀ (h' : Heap), IsComb h' e p 1 (.ref s.heap.objs.size) js → h'.get? s.heap.objs.size = some { cls := .type "tuple", data := .seq (pickC acc js).toArray } → (∀ b o, b ≠ e → s.heap.get? b = some o → h'.get? b = some o) →
        ∃ u, some (Value.ref s.heap.objs.size) = some u ∧ wpAny (model X.prog X.w) X.A (letOwnedTupleGo tg (.ref e) u) (fun _ s2 => ∃ x H', Inv X pins σ H' s2 ∧ RelV x u ∧ (ItC n r).yld i H x H' ∧ (CAt n r s2.heap e p (i + 1) ∧ s2.heap.IsTuple p acc) ∧ ∀ b ∈ [e, p], H' b = none) E { s with heap := h' } := fun h' c1 c2 c3 => by
      refine ⟨_, rfl, go_of (s := { s with heap := h' }) (n := "itertools.combinations") c1 rfl rfl (by decide) ?_⟩
      have hn : H s.heap.objs.size = none := I.hok.fresh (Nat.le_refl _)
      have new : ObjOk X.prog X.w (upd H s.heap.objs.size (.tup (natsV js))) h' s.heap.objs.size (.tup (natsV js)) :=
        ⟨by unfold natsV; rw [List.length_map, hjl.2]; exact Nat.le_trans hr (by decide), pickC acc js, pick_items hacc (chs_lt hj), ⟨_, c2, rfl, _, rfl⟩⟩
      have I1 : Inv X pins σ (upd H s.heap.objs.size (.tup (natsV js))) { s with heap := h', toks := s.toks } :=
        I.turnedNew (ch := [e]) (fun b ob hb q => c3 b ob (fun c => hb (by simp [c])) q) (fun b hb => hf b (by
          have : b = e := by simpa using hb
          simp [this])) (Nat.le_refl _) new
      refine ⟨.ref s.heap.objs.size, _, I1, rfl, ⟨_, js, rfl, hn, rfl, hj⟩, ⟨.inr ⟨i, js, _, rfl, hj, c1⟩, ?_⟩, fun b hb => ?_⟩
      · obtain ⟨o, ho, hcc, hd⟩ := hT
        exact ⟨o, c3 p o ne ho, hcc, hd⟩
      · have lb : b < s.heap.objs.size := by
          simp only [List.mem_cons, List.not_mem_nil, or_false] at hb
          rcases hb with rfl | rfl
          · obtain ⟨_, _, _, h⟩ := hC.obj
            exact Heap.lt_size h
          · obtain ⟨o, ho, _⟩ := hT
            exact Heap.lt_size ho
        rw [upd_ne (Nat.ne_of_lt lb)]
        exact (hf b hb).1
    obtain ⟨_, _, _, hobj⟩ := hC.obj
    have hTy : s.TypeIs (.ref e) "itertools.combinations" := ⟨_, hobj, rfl⟩
    unfold pyNext
    refine wpAny_bind (wpAny_attempt (wpAny_callSpecial?_slot (name := Str.ofString "__next__") hTy F.slot_comb_next
      (wpAny_call_entry F.slot_comb_next hTy F.entry_comb_next ?_ (F.args_comb_next_1 _))))
    rcases hC with ⟨rfl, res, h0⟩ | ⟨k, is, res, rfl, hk, h1⟩
    · have e0 : js = List.range r := by
        unfold chs at hj
        split at hj
        · cases hj
        · exact (Option.some.inj hj).symm
      subst e0
      have es : st0 n r = 0 := by
        unfold st0
        rw [if_neg (by omega)]
      rw [es] at h0
      exact comb_next0 h0 hT (by rw [List.length_range]; exact hr) fun h' c1 c2 c3 => wpAny_pure (fin h' c1 c2 c3)
    · have hn : nxc acc.size is = some js := by
        rw [hz]
        have : (chs n r k).bind (nxc n) = some js := hj
        rw [hk] at this
        exact this
      exact comb_next1 h1 hT (by rw [(chs_le hk).2]; exact hr) hn fun h' c1 c2 c3 => wpAny_pure (fin h' c1 c2 c3)
  done := by
    intro X hP hw hK hc i pins s σ H E I hf st hg
    subst hP hw hK
    obtain ⟨hC, hT⟩ := st
    have hz : acc.size = n := hacc.1
    obtain ⟨f0, f1, f2, f3, f4, f5⟩ := hf e (by simp)
    have hd1 : X.A.in1.handled = none := I.ok.hd hc
    obtain ⟨_, _, _, hobj⟩ := hC.obj
    have hTy : s.TypeIs (.ref e) "itertools.combinations" := ⟨_, hobj, rfl⟩
    have fin : ∀ (h' : Heap) (x : Addr), (∀ b o, b ≠ e → s.heap.get? b = some o → h'.get? b = some o) → (∃ o, h'.get? x = some o ∧ o.cls = .type "StopIteration") → Inv X pins σ H { s with heap := h', toks := s.toks } := fun h' x c3 _ => I.turned (fun b o hb q => c3 b o hb q) f0 f1 f3 f4 f5
    unfold pyNext
    refine wpAny_bind (wpAny_attempt (wpAny_callSpecial?_slot (name := Str.ofString "__next__") hTy F.slot_comb_next
      (wpAny_call_entry F.slot_comb_next hTy F.entry_comb_next ?_ (F.args_comb_next_1 _))))
    rcases hC with ⟨rfl, res, h0⟩ | ⟨k, is, res, rfl, hk, h1⟩
    · have es : st0 n r = 2 := by
        have hg' : chs n r 0 = none := hg
        unfold chs at hg'
        unfold st0
        split at hg'
        · rename_i z
          rw [if_pos z]
        · cases hg'
      rw [es] at h0
      refine comb_end2 hd1 h0 fun h' x c3 hx => ?_
      refine wpAny_bind (wpAny_isInstance (T := "StopIteration") (b := true) hx isSubtype_stop ?_)
      exact wpAny_pure ⟨rfl, fin h' x (fun b o _ q => c3 b o q) hx⟩
    · have hn : nxc acc.size is = none := by
        rw [hz]
        have : (chs n r k).bind (nxc n) = none := hg
        rw [hk] at this
        exact this
      refine comb_end1 hd1 h1 hT hn fun h' x c3 hx => ?_
      refine wpAny_bind (wpAny_isInstance (T := "StopIteration") (b := true) hx isSubtype_stop ?_)
      exact wpAny_pure ⟨rfl, fin h' x c3 hx⟩
  self := fun A i s Q E st h => by
    obtain ⟨_, _, _, hobj⟩ := st.1.obj
    exact comb_iter hobj h
/-- range(n), kept as a value -/
theorem cr_range1 {X : Cx} : CallR X (.type "range") (fun vs H Q => ∃ j, vs = [V.int j] ∧ ∀ p, H p = none → Q (.ref p) (upd H p (.rng 0 j))) := by
  intro pins s σ H xs us Q I rs h
  obtain ⟨j, rfl, q⟩ := h
  cases rs with
  | cons r1 rs =>
    cases rs
    obtain ⟨t, rfl⟩ := r1
    refine call_range_1 ⟨.ref s.heap.objs.size, upd H s.heap.objs.size (.rng 0 j), I.laid (t' := s.toks + 1 + 1) (fun b o e => Heap.get?_push_of_some _ e) (Nat.le_refl _) ?_, rfl, q _ (I.hok.fresh (Nat.le_refl _))⟩
    exact ⟨_, _, _, IsRange.new _ _ _ _ _ _ _⟩
def iComb (ta : TA) : TI := fun σ H R => ta σ H fun vs H1 => ∃ (r : Addr) (n m : Nat), vs = [.ref r, .int m] ∧ H1 r = some (.rng 0 n) ∧ n ≤ 1000 ∧ m ≤ 1000 ∧ R (ItC n m) H1
theorem pi_comb {X : Cx} {tg e1 e2 : Expr} {x : Str} {ta : TA} {p pos : Pos} (hc : X.calm = true) (hg : Gl X x) (hm : X.mg x = some (.type "itertools.combinations")) (ha : PA X [e1, e2] ta) (hs : starEach [e1, e2] X.env = (false, eval e1 X.env) :: starEach [e2] X.env := by rfl)
    (hpl : (backTo pos (starEach [e2] X.env)).any (·.1) = false := by rfl) (hdb : (x == ("__debug__" : Str)) = false := by decide) :
    PI X tg (.Call (.Name x p) [e1, e2] [] pos) (iComb ta) := by
  refine ⟨fun pins s σ H R I h => Call_ (ld_glob I hg hm (PyProof.Rows.callWith_type1 (thn (ha.run pos pins s σ H _ I h) fun us s1 ⟨vs, H1, I1, r1, q1⟩ => ?_) hs hpl) hdb)⟩
  obtain ⟨r, n, m, rfl, hr, hn, hm', q⟩ := q1
  cases r1 with
  | cons r0 rr =>
    cases rr with
    | cons r2 rr =>
      cases rr
      cases r0
      obtain ⟨t, rfl⟩ := r2
      obtain ⟨t0, u0, v0, hR⟩ : ∃ t u v, IsRange s1.heap r 0 n 1 t u v := I1.hok r _ hr
      have hsm : Builtin.Range.small 0 (n : Int) 1 = true := small_one (by decide) (by decide) (by omega) (by omega)
      have hsz : Builtin.Range.rangeSize 0 (n : Int) 1 = n := by
        rw [rangeSize_one]
        split
        · exact Int.sub_zero _
        · show (0 : Int) = (n : Int)
          omega
      refine comb_call (I1.ok.hd hc) hR hsm hsz hn hm' fun h1 h' tk acc k1 k2 hacc hT hC => comb_iter hC ?_
      have kk : ∀ b o, s1.heap.get? b = some o → h'.get? b = some o := fun b o e => k2 b o (k1 b o e)
      have I2 : L2.Inv X pins σ H1 { s1 with heap := h1, toks := tk } := I1.kept k1
      have lb : ∀ b ∈ [h1.objs.size + 1, h1.objs.size], h1.objs.size ≤ b := fun b hb => by
        simp only [List.mem_cons, List.not_mem_nil, or_false] at hb
        rcases hb with rfl | rfl <;> omega
      exact ⟨h1.objs.size + 1, [h1.objs.size + 1, h1.objs.size], _, _, H1, rfl, I1.kept kk, turn_comb hacc hm' (h1.objs.size + 1) h1.objs.size (Nat.ne_of_lt (Nat.lt_succ_self _)), ⟨.inl ⟨rfl, _, hC⟩, hT⟩, fun b hb => I2.fpOk (lb b hb) (I2.hok.fresh (lb b hb)), q⟩
/-- the choices, told as a list -/
theorem walk_comb {n r : Nat} {L : List (List Nat)} (h : ∀ i, chs n r i = L[i]?) : Walk (ItC n r) L.length (fun _ => True) (fun i H x H' => ∃ T js, x = .ref T ∧ H T = none ∧ H' = upd H T (.tup (natsV js)) ∧ L[i]? = some js) := by
  refine ⟨fun i H hi _ => ?_, fun H _ => ?_, fun i x H H' hi _ y => ?_⟩
  · show (chs n r i).isSome = true
    rw [h, List.getElem?_eq_getElem hi]
    rfl
  · show chs n r L.length = none
    rw [h, List.getElem?_eq_none (Nat.le_refl _)]
  · obtain ⟨T, js, a, b, c, d⟩ := y
    exact ⟨T, js, a, b, c, by rw [← h]; exact d⟩
theorem chs_none {n r i j : Nat} (h : chs n r i = none) (hj : i ≤ j) : chs n r j = none := by
  induction hj with
  | refl => exact h
  | step _ ih =>
    show (chs n r _).bind (nxc n) = none
    rw [ih]
    rfl
/-- the list of choices, found by reckoning -/
theorem chs_of {n r : Nat} {L : List (List Nat)} (h1 : ∀ i < L.length + 1, chs n r i = L[i]?) : ∀ i, chs n r i = L[i]? := fun i => by
  rcases Nat.lt_or_ge i (L.length + 1) with z | z
  · exact h1 i z
  · rw [List.getElem?_eq_none (by omega)]
    exact chs_none ((h1 L.length (by omega)).trans (List.getElem?_eq_none (Nat.le_refl _))) (by omega)
end TL
namespace TL
example : ∀ i, chs 6 2 i = [[0, 1], [0, 2], [0, 3], [0, 4], [0, 5], [1, 2], [1, 3], [1, 4], [1, 5], [2, 3], [2, 4], [2, 5], [3, 4], [3, 5], [4, 5]][i]? := chs_of (by decide +kernel)
end TL
namespace TL
open PySem PySem.Spec PyProof.Rows L2
/-! ### // by any number: where the division goes by a module of its own -/
/-- what the written part tells of the places that such a division looks at -/
structure Sees (K : PySem.W.Frag) (mg : Str → Option Value) : Prop where
  st : ∃ oc mc, K.lookup cStatics = some oc ∧ (∀ h : Heap, h.get? cStatics = some oc → h.Ns cStatics mc) ∧ mc "sys.audit-hooks" = none ∧ mc "sys.dict" = none
  md : ∃ om mm, K.lookup sysModules = some om ∧ (∀ h : Heap, h.get? sysModules = some om → h.Ns sysModules mm) ∧ mm "_pylong" = none
  mn : ∃ bm ob, mg "__builtins__" = some (.ref bm) ∧ K.lookup bm = some ob ∧ ob.cls = .type "module" ∧ ob.dict = some builtinsNs
theorem Sees.on {K : PySem.W.Frag} {mg : Str → Option Value} {X : Cx} {pins : List (Addr × Obj)} {σ : L2.St} {H : Hp} {s : Shared} (S : Sees X.K X.mg) (I : Inv X pins σ H s) : s.heap.NoSeer := by
  obtain ⟨oc, mc, a1, a2, a3, a4⟩ := S.st
  obtain ⟨om, mm, b1, b2, b3⟩ := S.md
  obtain ⟨bm, ob, c1, c2, c3, c4⟩ := S.mn
  obtain ⟨mb, d1, d2⟩ := I.mod.blt
  exact ⟨⟨mc, a2 _ (I.kIn _ _ a1), a3, a4⟩, ⟨mm, b2 _ (I.kIn _ _ b1), b3⟩, ⟨mb, d1.keeps I.bk, d2⟩, ⟨X.mg, bm, ob, I.mod.glob.keeps I.bk, c1, I.kIn _ _ c2, c3, c4⟩⟩
theorem roomB {k : Nat} {A : Around} (r : Room k A) (h : 32 ≤ k) : A.depth + Builtin.pylongFrames < recursionLimit := by
  have := r.dp
  show A.depth + 100 < _
  omega
def CNz (_ j : Int) : Prop := j ≠ 0
theorem op_fdivB {X : Cx} {l : List Env} (S : Sees X.K X.mg) (ht : X.prog.given.tree = none) (hd : X.A.depth + Builtin.pylongFrames < recursionLimit) (hs : X.stack = X.env :: l) (hg : X.env.scope.isGenerator = false) (hc : X.env.scope.isCoroutine = false) :
    OpR X (binaryOp .FloorDiv) (rI CNz fun i j => .int (i.fdiv j)) := by
  intro pins s σ H x y v u Q I rx ry h
  obtain ⟨i, j, rfl, rfl, hz, q⟩ := h
  obtain ⟨t, rfl⟩ := rx
  obtain ⟨t', rfl⟩ := ry
  have hN := S.on (K := X.K) (mg := X.mg) I
  have hsee : SeerAt (model X.prog X.w) X.A s.heap := SeerAt.of hN ht (I.ok.frames.trans (congrArg some hs)) hg hc I.ok.blt I.ok.glob
  exact floordiv_int hz ⟨.int (i.fdiv j), H, I.tok _, ⟨_, rfl⟩, q⟩ (.inr (PylongRoom.of I.nolimit hd hsee))
/-! ### the written part, and three objects more -/
section
variable {K L : PySem.W.Frag}
theorem lk_app {a : Addr} {o : Obj} (h : K.lookup a = some o) : (K ++ L).lookup a = some o := by
  rw [List.lookup_append, h]
  rfl
theorem lk_more {a : Addr} {o : Obj} {h : Heap} (X : K.In h) (X2 : L.lookup a = some o) (ho : h.get? a = some o) : (K ++ L).lookup a = some o := by
  rw [List.lookup_append]
  cases e : K.lookup a with
  | none => exact X2
  | some o' =>
    have := X a o' e
    rw [ho] at this
    exact this.symm
theorem in_app {h : Heap} (X : K.In h) (Y : L.In h) : PySem.W.Frag.In (K ++ L) h := fun a o e => by
  rw [List.lookup_append] at e
  cases q : K.lookup a with
  | none =>
    rw [q] at e
    exact Y a o e
  | some o' =>
    rw [q] at e
    cases e
    exact X a _ q
theorem ns_app {a : Addr} {x : Str} {r : Option Value} (h : PySem.W.nsIn K a x = some r) : PySem.W.nsIn (K ++ L) a x = some r := by
  unfold PySem.W.nsIn at h ⊢
  cases q : K.lookup a with
  | none =>
    rw [q] at h
    cases h
  | some o =>
    rw [lk_app q]
    rw [q] at h
    exact h
theorem code_app {cd : Value} {x : Str} (h : PySem.W.codeIn K cd x = true) : PySem.W.codeIn (K ++ L) cd x = true := by
  unfold PySem.W.codeIn at h ⊢
  cases cd with
  | ref a =>
    dsimp only at h ⊢
    cases q : K.lookup a with
    | none =>
      rw [q] at h
      cases h
    | some o =>
      rw [lk_app q]
      rw [q] at h
      exact h
  | _ => exact h
end
/-- a def is kept -/
theorem keep_app {K L : PySem.W.Frag} {f : Addr} (h : PySem.W.keepIn K (.ref f) = true) (hl : ∃ oc od fd sl, K.lookup f = some ⟨oc, od, .func fd, sl⟩) : PySem.W.keepIn (K ++ L) (.ref f) = true := by
  obtain ⟨oc, od, fd, sl, q⟩ := hl
  unfold PySem.W.keepIn
  dsimp only
  rw [lk_app q]
/-- the law's end: the written part grows by the three objects -/
theorem walkS {l : PySem.W.OpenLaw} {n k : Nat} {q : Program} {loose : List Str} {XP : (Str → Option Value) → Heap → Prop} {YP : World → Heap → Prop} {d : DefRec} {K : Params → PySem.W.Frag} {sp : PySem.W.Frag → Sp} {x : Str}
    (hn : l.most = some n) (hn2 : n ≤ sizeLine) (hdf : d.params.defaults = []) (hr : Room k callerA) (hq : importsNone q = true)
    (hY : ∀ (w : World) (h : Heap), YP w h → (K w.params).In h)
    (F : ∀ (w : World) (mg : Str → Option Value) (fa : Addr) (h : Heap) (L : PySem.W.Frag), PySem.W.Frag.In (K w.params ++ L) h → h.Ns mainGlobals mg → mg d.name = some (.ref fa) → Sees (K w.params ++ L) mg →
      ∃ fd : FuncData, (∀ (s : Shared) (u : Value), BindsTo s fd ⟨[u], []⟩ [(x, u)]) ∧
        ∀ base : Heap, PySem.W.Frag.In (K w.params ++ L) base → base.Ns mainGlobals mg → FnOk l.prog w (K w.params ++ L) mg base CX0 k fa fd [x] (sp (K w.params ++ L)))
    (hsp : ∀ (K : PySem.W.Frag) (H : Hp) (a : Addr) (ns : List Int), ns.length ≤ n → Only H → SqL K H a (ns.map V.int) → sp K [.ref a] H (fun v _ => v = .bl true) fun _ _ _ => False) :
    PySem.W.WalkO q loose XP YP l.row.toRowW d [] (fun f vs => PySem.call f vs) := by
  refine Att.attach_call hn hdf fun w s₀ s₁ mg mb fa o pm cd doc a vs ns G Y ho hd hcd hmg hobj hints hlen hg => ?_
  have KX := hY w _ Y
  have NS := G.T.seer hq
  obtain ⟨mc, ⟨oc, es1, ep1, c1, c2, c3, c4⟩, c5, c6⟩ := NS.statics
  obtain ⟨mm, ⟨om, es2, ep2, m1, m2, m3, m4⟩, m5⟩ := NS.mods
  obtain ⟨bm, ob, b1, b2, b3, b4, b5, b6⟩ := G.T.bmain
  have hL : PySem.W.Frag.In [(cStatics, oc), (sysModules, om), (bm, ob)] s₁.heap := fun a' o' e => by
    rw [List.lookup_cons] at e
    split at e
    · rename_i z
      cases e
      rw [eq_of_beq z]
      exact c1
    · rw [List.lookup_cons] at e
      split at e
      · rename_i z
        cases e
        rw [eq_of_beq z]
        exact m1
      · rw [List.lookup_cons] at e
        split at e
        · rename_i z
          cases e
          rw [eq_of_beq z]
          exact b3
        · cases e
  have look : ∀ {a' : Addr} {o' : Obj}, (a', o') ∈ [(cStatics, oc), (sysModules, om), (bm, ob)] → s₁.heap.get? a' = some o' → (K w.params ++ [(cStatics, oc), (sysModules, om), (bm, ob)]).lookup a' = some o' := fun {a' o'} hm ho' => by
    refine lk_more KX ?_ ho'
    cases e : [(cStatics, oc), (sysModules, om), (bm, ob)].lookup a' with
    | some o2 =>
      have := hL a' o2 e
      rw [ho'] at this
      exact this.symm
    | none =>
      have := List.lookup_eq_none_iff.mp e _ hm
      simp at this
  have S : Sees (K w.params ++ [(cStatics, oc), (sysModules, om), (bm, ob)]) mg := ⟨⟨oc, mc, look (by simp) c1, fun h e => ⟨oc, es1, ep1, e, c2, c3, c4⟩, c5, c6⟩, ⟨om, mm, look (by simp) m1, fun h e => ⟨om, es2, ep2, e, m2, m3, m4⟩, m5⟩, ⟨bm, ob, b1, look (by simp) b3, b4, b5⟩⟩
  have KX2 := in_app KX hL
  obtain ⟨fd, hb, hF⟩ := F w mg fa _ _ KX2 G.T.g hmg S
  exact law_call (CX := CX0) KX2 G.T.g G.T.b G.T.builtins G.T.nolimit hg hobj hints (Nat.le_trans hlen hn2) hr hF hb (fun H hO hS => hsp _ H a ns hlen hO hS) fun H e s' z => z
end TL
namespace TL
open PySem L2

def top (i : Nat) : Stmt := PySem.Challenge.pw_turnsleft_k05_matrices_reckoned.main.body.getD i (.Pass ⟨0, 0, 0, 0⟩)
abbrev s__filled_from : Stmt := top 3
abbrev N__filled_from : List Str := ["rows", "first", "column", "at"]
theorem sc__filled_from : FnScope N__filled_from ["rows", "first", "column"] (defScope s__filled_from) := ⟨rfl, rfl, rfl, by decide +kernel, rfl, by decide +kernel, by decide +kernel⟩
abbrev s__cleared : Stmt := top 4
abbrev N__cleared : List Str := ["matrix", "rows", "width", "rank", "sign", "last", "column", "found", "head", "at", "item", "row", "own", "top"]
theorem sc__cleared : FnScope N__cleared ["matrix"] (defScope s__cleared) := ⟨rfl, rfl, rfl, by decide +kernel, rfl, by decide +kernel, by decide +kernel⟩
abbrev s_determinant : Stmt := top 5
abbrev N_determinant : List Str := ["matrix", "rank", "value"]
theorem sc_determinant : FnScope N_determinant ["matrix"] (defScope s_determinant) := ⟨rfl, rfl, rfl, by decide +kernel, rfl, by decide +kernel, by decide +kernel⟩
abbrev s_rank_of : Stmt := top 6
abbrev N_rank_of : List Str := ["matrix", "rank", "_"]
theorem sc_rank_of : FnScope N_rank_of ["matrix"] (defScope s_rank_of) := ⟨rfl, rfl, rfl, by decide +kernel, rfl, by decide +kernel, by decide +kernel⟩
abbrev s_common_minor : Stmt := top 7
abbrev N_common_minor : List Str := ["matrix", "width", "shared", "columns", "row", "column"]
theorem sc_common_minor : FnScope N_common_minor ["matrix"] (defScope s_common_minor) := ⟨rfl, rfl, rfl, by decide +kernel, rfl, by decide +kernel, by decide +kernel⟩
abbrev s_l_bag : Stmt := top 9
abbrev N_l_bag : List Str := ["_law_script", "_law_seed", "_law_cell"]
theorem sc_l_bag : FnScope N_l_bag ["_law_script"] (defScope s_l_bag) := ⟨rfl, rfl, rfl, by decide +kernel, rfl, by decide +kernel, by decide +kernel⟩
abbrev s_l_draw : Stmt := top 10
abbrev N_l_draw : List Str := ["_law_bag_here", "_law_sides", "_law_cell", "_law_digit", "_law_seed"]
theorem sc_l_draw : FnScope N_l_draw ["_law_bag_here", "_law_sides"] (defScope s_l_draw) := ⟨rfl, rfl, rfl, by decide +kernel, rfl, by decide +kernel, by decide +kernel⟩
abbrev s_l_of : Stmt := top 11
abbrev N_l_of : List Str := ["_law_bag_here", "_law_things"]
theorem sc_l_of : FnScope N_l_of ["_law_bag_here", "_law_things"] (defScope s_l_of) := ⟨rfl, rfl, rfl, by decide +kernel, rfl, by decide +kernel, by decide +kernel⟩
abbrev s_l_mixed : Stmt := top 12
abbrev N_l_mixed : List Str := ["_law_bag_here", "_law_things", "_law_rest", "_law_found", "_law_turn"]
theorem sc_l_mixed : FnScope N_l_mixed ["_law_bag_here", "_law_things"] (defScope s_l_mixed) := ⟨rfl, rfl, rfl, by decide +kernel, rfl, by decide +kernel, by decide +kernel⟩
abbrev s_l_same : Stmt := top 13
abbrev N_l_same : List Str := ["_law_found", "_law_due", "_law_x", "_law_y"]
theorem sc_l_same : FnScope N_l_same ["_law_found", "_law_due"] (defScope s_l_same) := ⟨rfl, rfl, rfl, by decide +kernel, rfl, by decide +kernel, by decide +kernel⟩
abbrev s_l_gcd : Stmt := top 14
abbrev N_l_gcd : List Str := ["_law_x", "_law_y"]
theorem sc_l_gcd : FnScope N_l_gcd ["_law_x", "_law_y"] (defScope s_l_gcd) := ⟨rfl, rfl, rfl, by decide +kernel, rfl, by decide +kernel, by decide +kernel⟩
abbrev s_l_minors : Stmt := top 15
abbrev N_l_minors : List Str := ["_law_lot_here", "_law_wide", "_law_found", "_law_strip", "_law_more", "_law_mask", "_law_sign", "_law_j", "_law_bit"]
theorem sc_l_minors : FnScope N_l_minors ["_law_lot_here", "_law_wide"] (defScope s_l_minors) := ⟨rfl, rfl, rfl, by decide +kernel, rfl, by decide +kernel, by decide +kernel⟩
abbrev s_l_determinant : Stmt := top 16
abbrev N_l_determinant : List Str := ["_law_lot_here"]
theorem sc_l_determinant : FnScope N_l_determinant ["_law_lot_here"] (defScope s_l_determinant) := ⟨rfl, rfl, rfl, by decide +kernel, rfl, by decide +kernel, by decide +kernel⟩
abbrev s_l_rank : Stmt := top 17
abbrev N_l_rank : List Str := ["_law_lot_here", "_law_rest", "_law_found", "_law_j", "_law_i", "_law_n", "_law_strip", "_law_x", "_law_y"]
theorem sc_l_rank : FnScope N_l_rank ["_law_lot_here"] (defScope s_l_rank) := ⟨rfl, rfl, rfl, by decide +kernel, rfl, by decide +kernel, by decide +kernel⟩
abbrev s_l_content : Stmt := top 18
abbrev N_l_content : List Str := ["_law_numbers", "_law_found", "_law_n"]
theorem sc_l_content : FnScope N_l_content ["_law_numbers"] (defScope s_l_content) := ⟨rfl, rfl, rfl, by decide +kernel, rfl, by decide +kernel, by decide +kernel⟩
abbrev s_l_lot : Stmt := top 19
abbrev N_l_lot : List Str := ["_law_bag_here", "_law_high", "_law_wide", "_law_size", "_law_thin", "_law_found", "_law_j", "_law_kind", "_law_a", "_law_b", "_law_n", "_law_m", "_law_x", "_law_y", "_law_turn"]
theorem sc_l_lot : FnScope N_l_lot ["_law_bag_here", "_law_high", "_law_wide"] (defScope s_l_lot) := ⟨rfl, rfl, rfl, by decide +kernel, rfl, by decide +kernel, by decide +kernel⟩
abbrev s_l_taken : Stmt := top 20
abbrev N_l_taken : List Str := ["_law_bag_here", "_law_lot_here", "_law_kind", "_law_strip"]
theorem sc_l_taken : FnScope N_l_taken ["_law_bag_here", "_law_lot_here"] (defScope s_l_taken) := ⟨rfl, rfl, rfl, by decide +kernel, rfl, by decide +kernel, by decide +kernel⟩
abbrev s_l_common : Stmt := top 21
abbrev N_l_common : List Str := ["_law_lot_here", "_law_wide", "_law_found", "_law_mask"]
theorem sc_l_common : FnScope N_l_common ["_law_lot_here", "_law_wide"] (defScope s_l_common) := ⟨rfl, rfl, rfl, by decide +kernel, rfl, by decide +kernel, by decide +kernel⟩
abbrev s_l_square_so : Stmt := top 22
abbrev N_l_square_so : List Str := ["_law_bag_here", "_law_high", "_law_lot_here", "_law_due", "_law_given", "_law_kept", "_law_i", "_law_j", "_law_other_way", "_law_across", "_law_strip", "_law_n"]
theorem sc_l_square_so : FnScope N_l_square_so ["_law_bag_here", "_law_high"] (defScope s_l_square_so) := ⟨rfl, rfl, rfl, by decide +kernel, rfl, by decide +kernel, by decide +kernel⟩
abbrev s_l_wide_so : Stmt := top 23
abbrev N_l_wide_so : List Str := ["_law_bag_here", "_law_high", "_law_wide", "_law_lot_here", "_law_kept", "_law_due", "_law_given", "_law_spot", "_law_j", "_law_strip"]
theorem sc_l_wide_so : FnScope N_l_wide_so ["_law_bag_here"] (defScope s_l_wide_so) := ⟨rfl, rfl, rfl, by decide +kernel, rfl, by decide +kernel, by decide +kernel⟩
abbrev s_law : Stmt := top 24
abbrev N_law : List Str := ["_law_script", "_law_bag_here", "_law_turn", "_law_high"]
theorem sc_law : FnScope N_law ["_law_script"] (defScope s_law) := ⟨rfl, rfl, rfl, by decide +kernel, rfl, by decide +kernel, by decide +kernel⟩
structure InsOk (K : PySem.W.Frag) (C : Addr) : Prop where
  ca : PySem.W.findIn K (.ref C) "__class__" = some (some (.builtin "object.__class__"))
  cn : PySem.W.specialIn K (.builtin "object.__class__") "__get__" = some (some (.builtin "getset_descriptor.__get__"))
  ct : PySem.W.takesIn K (.builtin "object.__class__") = some true
  cm : PySem.W.mroIn K C (.type "object") = some true
  me : PySem.W.kitOne K (.ref C) (.ref C) = some true
def PR : List (Nat × Nat) := [(0, 1), (0, 2), (0, 3), (0, 4), (0, 5), (1, 2), (1, 3), (1, 4), (1, 5), (2, 3), (2, 4), (2, 5), (3, 4), (3, 5), (4, 5)]
set_option maxHeartbeats 0 in
structure Tx (K : PySem.W.Frag) (mg : Str → Option Value) : Type where
  z_len : mg "len" = none
  z_abs : mg "abs" = none
  z_int : mg "int" = none
  z_isinstance : mg "isinstance" = none
  z_list : mg "list" = none
  z_tuple : mg "tuple" = none
  z_bool : mg "bool" = none
  z_str : mg "str" = none
  z_all : mg "all" = none
  z_zip : mg "zip" = none
  z_range : mg "range" = none
  m_gcd : mg "gcd" = some (.builtin "math.gcd")
  m_combinations : mg "combinations" = some (.type "itertools.combinations")
  f__filled_from : Addr
  d__filled_from : FuncData
  F__filled_from : Fun K "_filled_from" "_filled_from" s__filled_from f__filled_from d__filled_from
  b__filled_from : Binds K d__filled_from ["rows", "first", "column"] []
  m__filled_from : mg "_filled_from" = some (.ref f__filled_from)
  f__cleared : Addr
  d__cleared : FuncData
  F__cleared : Fun K "_cleared" "_cleared" s__cleared f__cleared d__cleared
  b__cleared : Binds K d__cleared ["matrix"] []
  m__cleared : mg "_cleared" = some (.ref f__cleared)
  f_determinant : Addr
  d_determinant : FuncData
  F_determinant : Fun K "determinant" "determinant" s_determinant f_determinant d_determinant
  b_determinant : Binds K d_determinant ["matrix"] []
  m_determinant : mg "determinant" = some (.ref f_determinant)
  f_rank_of : Addr
  d_rank_of : FuncData
  F_rank_of : Fun K "rank_of" "rank_of" s_rank_of f_rank_of d_rank_of
  b_rank_of : Binds K d_rank_of ["matrix"] []
  m_rank_of : mg "rank_of" = some (.ref f_rank_of)
  f_common_minor : Addr
  d_common_minor : FuncData
  F_common_minor : Fun K "common_minor" "common_minor" s_common_minor f_common_minor d_common_minor
  b_common_minor : Binds K d_common_minor ["matrix"] []
  m_common_minor : mg "common_minor" = some (.ref f_common_minor)
  f_l_bag : Addr
  d_l_bag : FuncData
  F_l_bag : Fun K "_law_bag" "_law_bag" s_l_bag f_l_bag d_l_bag
  b_l_bag : Binds K d_l_bag ["_law_script"] []
  m_l_bag : mg "_law_bag" = some (.ref f_l_bag)
  f_l_draw : Addr
  d_l_draw : FuncData
  F_l_draw : Fun K "_law_draw" "_law_draw" s_l_draw f_l_draw d_l_draw
  b_l_draw : Binds K d_l_draw ["_law_bag_here", "_law_sides"] []
  m_l_draw : mg "_law_draw" = some (.ref f_l_draw)
  f_l_of : Addr
  d_l_of : FuncData
  F_l_of : Fun K "_law_of" "_law_of" s_l_of f_l_of d_l_of
  b_l_of : Binds K d_l_of ["_law_bag_here", "_law_things"] []
  m_l_of : mg "_law_of" = some (.ref f_l_of)
  f_l_mixed : Addr
  d_l_mixed : FuncData
  F_l_mixed : Fun K "_law_mixed" "_law_mixed" s_l_mixed f_l_mixed d_l_mixed
  b_l_mixed : Binds K d_l_mixed ["_law_bag_here", "_law_things"] []
  m_l_mixed : mg "_law_mixed" = some (.ref f_l_mixed)
  f_l_same : Addr
  d_l_same : FuncData
  F_l_same : Fun K "_law_same" "_law_same" s_l_same f_l_same d_l_same
  b_l_same : Binds K d_l_same ["_law_found", "_law_due"] []
  m_l_same : mg "_law_same" = some (.ref f_l_same)
  f_l_gcd : Addr
  d_l_gcd : FuncData
  F_l_gcd : Fun K "_law_gcd" "_law_gcd" s_l_gcd f_l_gcd d_l_gcd
  b_l_gcd : Binds K d_l_gcd ["_law_x", "_law_y"] []
  m_l_gcd : mg "_law_gcd" = some (.ref f_l_gcd)
  f_l_minors : Addr
  d_l_minors : FuncData
  F_l_minors : Fun K "_law_minors" "_law_minors" s_l_minors f_l_minors d_l_minors
  b_l_minors : Binds K d_l_minors ["_law_lot_here", "_law_wide"] []
  m_l_minors : mg "_law_minors" = some (.ref f_l_minors)
  f_l_determinant : Addr
  d_l_determinant : FuncData
  F_l_determinant : Fun K "_law_determinant" "_law_determinant" s_l_determinant f_l_determinant d_l_determinant
  b_l_determinant : Binds K d_l_determinant ["_law_lot_here"] []
  m_l_determinant : mg "_law_determinant" = some (.ref f_l_determinant)
  f_l_rank : Addr
  d_l_rank : FuncData
  F_l_rank : Fun K "_law_rank" "_law_rank" s_l_rank f_l_rank d_l_rank
  b_l_rank : Binds K d_l_rank ["_law_lot_here"] []
  m_l_rank : mg "_law_rank" = some (.ref f_l_rank)
  f_l_content : Addr
  d_l_content : FuncData
  F_l_content : Fun K "_law_content" "_law_content" s_l_content f_l_content d_l_content
  b_l_content : Binds K d_l_content ["_law_numbers"] []
  m_l_content : mg "_law_content" = some (.ref f_l_content)
  f_l_lot : Addr
  d_l_lot : FuncData
  F_l_lot : Fun K "_law_lot" "_law_lot" s_l_lot f_l_lot d_l_lot
  b_l_lot : Binds K d_l_lot ["_law_bag_here", "_law_high", "_law_wide"] []
  m_l_lot : mg "_law_lot" = some (.ref f_l_lot)
  f_l_taken : Addr
  d_l_taken : FuncData
  F_l_taken : Fun K "_law_taken" "_law_taken" s_l_taken f_l_taken d_l_taken
  b_l_taken : Binds K d_l_taken ["_law_bag_here", "_law_lot_here"] []
  m_l_taken : mg "_law_taken" = some (.ref f_l_taken)
  f_l_common : Addr
  d_l_common : FuncData
  F_l_common : Fun K "_law_common" "_law_common" s_l_common f_l_common d_l_common
  b_l_common : Binds K d_l_common ["_law_lot_here", "_law_wide"] []
  m_l_common : mg "_law_common" = some (.ref f_l_common)
  f_l_square_so : Addr
  d_l_square_so : FuncData
  F_l_square_so : Fun K "_law_square_so" "_law_square_so" s_l_square_so f_l_square_so d_l_square_so
  b_l_square_so : Binds K d_l_square_so ["_law_bag_here", "_law_high"] []
  m_l_square_so : mg "_law_square_so" = some (.ref f_l_square_so)
  f_l_wide_so : Addr
  d_l_wide_so : FuncData
  F_l_wide_so : Fun K "_law_wide_so" "_law_wide_so" s_l_wide_so f_l_wide_so d_l_wide_so
  b_l_wide_so : Binds K d_l_wide_so ["_law_bag_here"] []
  m_l_wide_so : mg "_law_wide_so" = some (.ref f_l_wide_so)
  f_law : Addr
  d_law : FuncData
  F_law : Fun K "law" "law" s_law f_law d_law
  b_law : Binds K d_law ["_law_script"] []
  m_law : mg "law" = some (.ref f_law)
  sees : Sees K mg
  kb_determinant : KBinds K d_determinant ["matrix"] ["matrix"] g01 g01
  kb_rank_of : KBinds K d_rank_of ["matrix"] ["matrix"] g01 g01
  kb_common_minor : KBinds K d_common_minor ["matrix"] ["matrix"] g01 g01
/-! ### steps of a reading -/
local macro_rules | `(tactic| walk_at "hp") => `(tactic| first | assumption | exact upd_same | (refine (upd_ne (by first | assumption | (exact Ne.symm (by assumption)))).trans ?_; walk_at "hp"))
local macro_rules | `(tactic| walk_at "ok") => `(tactic| first | (exact Or.inr ⟨by decide, by decide⟩) | (exact ⟨by decide, by decide⟩) | (exact ⟨by decide, by decide, by decide⟩) | (show _ ≠ _; omega) | (show _ ≠ _; decide) | (exact Or.inl ⟨by omega, by omega⟩) | decide)
local macro_rules | `(tactic| walk_at "sq") => `(tactic| first | assumption | exact SqL.of (by walk_at "hp") | exact SqT.of (by walk_at "hp"))
local macro_rules | `(tactic| walk_at "ty") => `(tactic| first | refine ⟨_, _, Value.type "int", Value.type "list", false, rfl, ClsV.ty _, TyX.base (TyOf.int _), kt_int_list, ?_⟩ | refine ⟨_, _, Value.type "bool", Value.type "list", false, rfl, ClsV.ty _, TyX.base (TyOf.bl _), kt_bool_list, ?_⟩ | refine ⟨_, _, Value.type "str", Value.type "list", false, rfl, ClsV.ty _, TyX.base (TyOf.str _), kt_str_list, ?_⟩ | refine ⟨_, _, Value.type "NoneType", Value.type "list", false, rfl, ClsV.ty _, TyX.base TyOf.non, kt_NoneType_list, ?_⟩ | refine ⟨_, _, Value.type "list", Value.type "list", true, rfl, ClsV.ty _, tyx_L (by walk_at "sq"), kt_list_list, ?_⟩ | refine ⟨_, _, Value.type "tuple", Value.type "list", false, rfl, ClsV.ty _, tyx_T (by walk_at "sq"), kt_tuple_list, ?_⟩ | refine ⟨_, _, Value.type "int", Value.type "tuple", false, rfl, ClsV.ty _, TyX.base (TyOf.int _), kt_int_tuple, ?_⟩ | refine ⟨_, _, Value.type "bool", Value.type "tuple", false, rfl, ClsV.ty _, TyX.base (TyOf.bl _), kt_bool_tuple, ?_⟩ | refine ⟨_, _, Value.type "str", Value.type "tuple", false, rfl, ClsV.ty _, TyX.base (TyOf.str _), kt_str_tuple, ?_⟩ | refine ⟨_, _, Value.type "NoneType", Value.type "tuple", false, rfl, ClsV.ty _, TyX.base TyOf.non, kt_NoneType_tuple, ?_⟩ | refine ⟨_, _, Value.type "list", Value.type "tuple", false, rfl, ClsV.ty _, tyx_L (by walk_at "sq"), kt_list_tuple, ?_⟩ | refine ⟨_, _, Value.type "tuple", Value.type "tuple", true, rfl, ClsV.ty _, tyx_T (by walk_at "sq"), kt_tuple_tuple, ?_⟩ | refine ⟨_, _, Value.type "int", Value.type "bool", false, rfl, ClsV.ty _, TyX.base (TyOf.int _), kt_int_bool, ?_⟩ | refine ⟨_, _, Value.type "bool", Value.type "bool", true, rfl, ClsV.ty _, TyX.base (TyOf.bl _), kt_bool_bool, ?_⟩ | refine ⟨_, _, Value.type "str", Value.type "bool", false, rfl, ClsV.ty _, TyX.base (TyOf.str _), kt_str_bool, ?_⟩ | refine ⟨_, _, Value.type "NoneType", Value.type "bool", false, rfl, ClsV.ty _, TyX.base TyOf.non, kt_NoneType_bool, ?_⟩ | refine ⟨_, _, Value.type "list", Value.type "bool", false, rfl, ClsV.ty _, tyx_L (by walk_at "sq"), kt_list_bool, ?_⟩ | refine ⟨_, _, Value.type "tuple", Value.type "bool", false, rfl, ClsV.ty _, tyx_T (by walk_at "sq"), kt_tuple_bool, ?_⟩ | refine ⟨_, _, Value.type "int", Value.type "int", true, rfl, ClsV.ty _, TyX.base (TyOf.int _), kt_int_int, ?_⟩ | refine ⟨_, _, Value.type "bool", Value.type "int", true, rfl, ClsV.ty _, TyX.base (TyOf.bl _), kt_bool_int, ?_⟩ | refine ⟨_, _, Value.type "str", Value.type "int", false, rfl, ClsV.ty _, TyX.base (TyOf.str _), kt_str_int, ?_⟩ | refine ⟨_, _, Value.type "NoneType", Value.type "int", false, rfl, ClsV.ty _, TyX.base TyOf.non, kt_NoneType_int, ?_⟩ | refine ⟨_, _, Value.type "list", Value.type "int", false, rfl, ClsV.ty _, tyx_L (by walk_at "sq"), kt_list_int, ?_⟩ | refine ⟨_, _, Value.type "tuple", Value.type "int", false, rfl, ClsV.ty _, tyx_T (by walk_at "sq"), kt_tuple_int, ?_⟩ | refine ⟨_, _, Value.type "int", Value.type "str", false, rfl, ClsV.ty _, TyX.base (TyOf.int _), kt_int_str, ?_⟩ | refine ⟨_, _, Value.type "bool", Value.type "str", false, rfl, ClsV.ty _, TyX.base (TyOf.bl _), kt_bool_str, ?_⟩ | refine ⟨_, _, Value.type "str", Value.type "str", true, rfl, ClsV.ty _, TyX.base (TyOf.str _), kt_str_str, ?_⟩ | refine ⟨_, _, Value.type "NoneType", Value.type "str", false, rfl, ClsV.ty _, TyX.base TyOf.non, kt_NoneType_str, ?_⟩ | refine ⟨_, _, Value.type "list", Value.type "str", false, rfl, ClsV.ty _, tyx_L (by walk_at "sq"), kt_list_str, ?_⟩ | refine ⟨_, _, Value.type "tuple", Value.type "str", false, rfl, ClsV.ty _, tyx_T (by walk_at "sq"), kt_tuple_str, ?_⟩)
local macro_rules | `(tactic| walk_at "go1") => `(tactic| first
  | (refine ⟨_, rfl, ?_⟩)
  | (refine ⟨_, _, rfl, rfl, ?_⟩)
  | (refine ⟨_, _, _, _, rfl, rfl, SqL.of (by walk_at "hp"), rfl, ?_⟩)
  | (refine Or.inl ⟨_, rfl, ?_⟩)
  | (refine ⟨rfl, ?_⟩)
  | (refine ⟨_, _, rfl, .inl (SqL.of (by walk_at "hp")), ?_⟩)
  | (refine ⟨_, _, rfl, Or.inl (by assumption), ?_⟩)
  | (refine ⟨_, _, rfl, Or.inr (by assumption), ?_⟩)
  | (refine ⟨(by walk_at "ok"), ?_⟩)
  | (refine ⟨_, _, _, _, rfl, rfl, (by walk_at "hp"), rfl, ?_⟩))
local macro_rules | `(tactic| walk_at "go") => `(tactic| repeat (walk_at "go1"))
local macro_rules | `(tactic| walk_at "gt") => `(tactic| repeat (first | walk_at "go1" | walk_at "ty"))

/-! ### the law's own helpers -/
section
variable {P : Program} {w : World} {K : PySem.W.Frag} {mg : Str → Option Value} {base : Heap}
def spDraw : Sp := fun vs H Q _ => ∃ (B : Bg) (n : Int), vs = [.ref B.b, .int n] ∧ 0 < n ∧ n.natAbs < 2 ^ 200 ∧ Bag B H ∧ ∀ (d : Int) (H' : Hp), 0 ≤ d → d < n → Bag B H' → Kb B.b H H' → Q (.int d) H'
theorem ok_draw (T : Tx K mg) : FnOk P w K mg base CX0 1 T.f_l_draw T.d_l_draw ["_law_bag_here", "_law_sides"] spDraw := by
  refine T.F_l_draw.ok sc_l_draw (fun vs H Q E h => ?_) (fun cdv A outer s H vs Q E hr h => ?_)
  · obtain ⟨g, n, rfl, _⟩ := h
    rfl
  obtain ⟨⟨g, L, ns⟩, n, rfl, hn, hn2, ⟨⟨i, r, z, c, hg, hi, hrr, hz, hz2⟩, hL, hne⟩, q⟩ := h
  dsimp only at hg hL hne q
  have nd := sc_l_draw.nd
  refine ⟨_, (pss_cut (ps_if (PW.pt (pw_and (pt_cmpR op_eq (pe_ix (show IxR _ (rIxL K) from ix_list) (pv 0) pe_int (fun _ _ => rfl)) pe_int (nomark _)) (pw_and1 (pt_cmpR op_lt (pe_ix (show IxR _ (rIxL K) from ix_list) (pv 0) pe_int (fun _ _ => rfl)) (pe_callB (show CallR _ _ (rLenSq K) from call_len_seq) (by rfl) T.z_len (by decide +kernel) (pa_cons (pe_ix (show IxR _ (rIxL K) from ix_list) (pv 0) pe_int (fun _ _ => rfl)) pa_nil)) (nomark _))))) (pss_cons (ps_set (i := 2) nd rfl (Or.inl rfl) (pe_callB call_abs (by rfl) T.z_abs (by decide +kernel) (pa_cons (pe_callTy call_int1 (by rfl) T.z_int (by decide +kernel) (pa_cons (pe_ix (show IxR _ (rIxL K) from ix_list) (pe_ix (show IxR _ (rIxL K) from ix_list) (pv 0) pe_int (fun _ _ => rfl)) (pe_ix (show IxR _ (rIxL K) from ix_list) (pv 0) pe_int (fun _ _ => rfl)) (fun _ _ => rfl)) pa_nil)) pa_nil)))
    (pss_cons (ps_asg (pe_op op_add (pe_ix (show IxR _ (rIxL K) from ix_list) (pv 0) pe_int (fun _ _ => rfl)) pe_int) (pg_sub (pv 0) pe_int set_list))
    (pss_one (ps_if (pt_cmpR op_ge (pv 2) (pe_op op_pow pe_int pe_int) (nomark _)) (pss_one (ps_asg (pv 2) (pg_sub (pv 0) pe_int set_list))) (pss_one (ps_asg (pe_op op_modN (pe_callTy call_int1 (by rfl) T.z_int (by decide +kernel) (pa_cons (pe_op op_add (pe_op op_add (pe_op op_mul (pe_ix (show IxR _ (rIxL K) from ix_list) (pv 0) pe_int (fun _ _ => rfl)) pe_int) (pe_op op_mul (pe_op op_modN (pv 2) pe_int) pe_int)) pe_int) pa_nil)) pe_int) (pg_sub (pv 0) pe_int set_list))))))) pss_nil)
    (pss_cons (ps_if (pt_cmpR op_gt (pe_ix (show IxR _ (rIxL K) from ix_list) (pv 0) pe_int (fun _ _ => rfl)) pe_int (nomark _)) (pss_cons (ps_set (i := 3) nd rfl (Or.inl rfl) (pe_op op_modN (pe_callTy call_int1 (by rfl) T.z_int (by decide +kernel) (pa_cons (pe_ix (show IxR _ (rIxL K) from ix_list) (pv 0) pe_int (fun _ _ => rfl)) pa_nil)) (pv 1)))
    (pss_cons (ps_asg (pe_op op_fdivW (pe_ix (show IxR _ (rIxL K) from ix_list) (pv 0) pe_int (fun _ _ => rfl)) (pv 1)) (pg_sub (pv 0) pe_int set_list))
    (pss_one (ps_ret (pv 3))))) pss_nil)
    (pss_cons (ps_asg (pe_op op_add (pe_ix (show IxR _ (rIxL K) from ix_list) (pv 0) pe_int (fun _ _ => rfl)) pe_int) (pg_sub (pv 0) pe_int set_list))
    (pss_cons (ps_set (i := 4) nd rfl (Or.inl rfl) (pe_callTy call_int1 (by rfl) T.z_int (by decide +kernel) (pa_cons (pe_ix (show IxR _ (rIxL K) from ix_list) (pv 0) pe_int (fun _ _ => rfl)) pa_nil)))
    (pss_cons (ps_asg (pe_op op_modN (pe_callTy call_int1 (by rfl) T.z_int (by decide +kernel) (pa_cons (pe_op op_add (pe_op op_add (pe_op op_add (pe_op op_mul (pe_op op_mul (pv 4) (pv 4)) pe_int) (pe_op op_mul (pv 4) pe_int)) (pe_op op_mul (pe_ix (show IxR _ (rIxL K) from ix_list) (pv 0) pe_int (fun _ _ => rfl)) pe_int)) pe_int) pa_nil)) pe_int) (pg_sub (pv 0) pe_int set_list))
    (pss_one (ps_ret (pe_op op_modN (pe_callTy call_int1 (by rfl) T.z_int (by decide +kernel) (pa_cons (pe_op op_add (pe_op op_fdivN (pe_ix (show IxR _ (rIxL K) from ix_list) (pv 0) pe_int (fun _ _ => rfl)) pe_int) (pe_op op_mul (pe_op op_modN (pe_callTy call_int1 (by rfl) T.z_int (by decide +kernel) (pa_cons (pe_ix (show IxR _ (rIxL K) from ix_list) (pv 0) pe_int (fun _ _ => rfl)) pa_nil)) pe_int) pe_int)) pa_nil)) (pv 1))))))))), ?_⟩
  refine ⟨fun σ' H' => (∃ a : Option V, σ' = [some (.ref g), some (.int n), a, none, none]) ∧ Bag ⟨g, L, ns⟩ H' ∧ Kb g H H', ?_, ?_⟩
  · walk_at "go"
    refine ite2 (fun c1 => ?_) (fun c1 => ?_)
    · walk_at "go"
      refine ite2 (fun c2 => ?_) (fun c2 => ?_)
      · have c2' : i < (((ns.map V.int).length : Nat) : Int) := of_decide_eq_true c2
        rw [List.length_map] at c2'
        have hk : i.toNat < ns.length := by omega
        walk_at "go"
        refine ⟨L, ns.map V.int, i, V.int ns[i.toNat], rfl, rfl, SqL.of hL, at_of (j := i.toNat) (by omega) (by rw [List.getElem?_map, List.getElem?_eq_getElem hk]; rfl), ?_⟩
        walk_at "go"
        have c3 : 0 ≤ (if ns[i.toNat] < 0 then -ns[i.toNat] else ns[i.toNat]) := by split <;> omega
        refine ite2 (fun _ => ?_) (fun _ => ?_)
        · walk_at "go"
          exact ⟨⟨_, rfl⟩, ⟨⟨i + 1, _, z, c, upd_same, by omega, c3, hz, hz2⟩, by rw [upd_ne hne, upd_ne hne]; exact hL, hne⟩, Kb.at.trans Kb.at⟩
        · walk_at "go"
          have m1 := fm (i := z * 69621 + (if ns[i.toNat] < 0 then -ns[i.toNat] else ns[i.toNat]).fmod 1000003 * 907 + 29) (j := 2147483629) (by decide)
          exact ⟨⟨_, rfl⟩, ⟨⟨i + 1, r, _, c, upd_same, by omega, hrr, m1.1, by omega⟩, by rw [upd_ne hne, upd_ne hne]; exact hL, hne⟩, Kb.at.trans Kb.at⟩
      · exact ⟨⟨_, rfl⟩, ⟨⟨i, r, z, c, hg, hi, hrr, hz, hz2⟩, hL, hne⟩, Kb.refl _ _⟩
    · walk_at "go"
      exact ⟨⟨_, rfl⟩, ⟨⟨i, r, z, c, hg, hi, hrr, hz, hz2⟩, hL, hne⟩, Kb.refl _ _⟩
  · clear hg hL hne hi hrr hz hz2
    rintro σ' H' ⟨⟨a, rfl⟩, ⟨⟨i, r, z, c, hg, hi, hrr, hz, hz2⟩, hL, hne⟩, kb⟩
    dsimp only at hg hL hne
    walk_at "go"
    refine ite2 (fun c1 => ?_) (fun c1 => ?_)
    · have m1 := fm (i := r) (j := n) hn
      walk_at "go"
      refine ⟨wide_div hn hn2 (by decide) (by decide), ?_⟩
      walk_at "go"
      exact q _ _ m1.1 m1.2 ⟨⟨i, _, z, c, upd_same, hi, Int.ediv_nonneg hrr (by omega), hz, hz2⟩, by rw [upd_ne hne]; exact hL, hne⟩ (kb.trans Kb.at)
    · walk_at "go"
      have m1 := fm (i := z * z * 19 + z * 50021 + (c + 1) * 7877 + 40009) (j := 2147483587) (by decide)
      have m2 := fm (i := ((z * z * 19 + z * 50021 + (c + 1) * 7877 + 40009).fmod 2147483587).fdiv 89 + ((z * z * 19 + z * 50021 + (c + 1) * 7877 + 40009).fmod 2147483587).fmod 9973 * 53) (j := n) hn
      exact q _ _ m2.1 m2.2 ⟨⟨i, r, _, _, upd_same, hi, hrr, m1.1, by omega⟩, by rw [upd_ne hne, upd_ne hne]; exact hL, hne⟩ ((kb.trans Kb.at).trans Kb.at)
/-- the law's bag of a script -/
def spBag (K : PySem.W.Frag) : Sp := fun vs H Q _ => ∃ (a : Addr) (ns : List Int), vs = [.ref a] ∧ SqL K H a (ns.map V.int) ∧ ns.length ≤ 63 ∧ ∀ (B : Bg) (H' : Hp), Same H H' → Bag B H' → H B.b = none → Q (.ref B.b) H'
theorem cut63 {xs : List V} (h : xs.length ≤ 63) : cutV xs none (some 63) = xs := by
  unfold cutV
  have e1 : HT.sIx xs.length 0 none = 0 := rfl
  have e2 : HT.sIx xs.length xs.length (some 63) = xs.length := by
    unfold HT.sIx
    simp
    omega
  rw [e1, e2]
  simp
theorem ok_bag (T : Tx K mg) : FnOk P w K mg base CX0 1 T.f_l_bag T.d_l_bag ["_law_script"] (spBag K) := by
  refine T.F_l_bag.ok sc_l_bag (fun vs H Q E h => ?_) (fun cdv A outer s H vs Q E hr h => ?_)
  · obtain ⟨a, ns, rfl, _⟩ := h
    rfl
  obtain ⟨a, ns, rfl, hS, h63, q⟩ := h
  have nd := sc_l_bag.nd
  have hc : cutV (ns.map V.int) none (some 63) = ns.map V.int := cut63 (by rw [List.length_map]; exact h63)
  refine ⟨_, (pss_cons (ps_set (i := 1) nd rfl (Or.inl rfl) pe_int)
    (pss_cons (ps_for PassesOwn.never rfl (show PI _ _ _ (iList K _) from pi_list (pe_slice (show SlR _ (rSlL K) from sl_list) (pv 0) po_none (po_some pe_int))) (pg_name (i := 2) nd rfl (Or.inl rfl)) (pss_one (ps_set (i := 1) nd rfl (Or.inl rfl) (pe_op op_modN (pe_callTy call_int1 (by rfl) T.z_int (by decide +kernel) (pa_cons (pe_op op_add (pe_op op_add (pe_op op_mul (pv 1) pe_int) (pe_op op_mul (pe_op op_modN (pe_callTy call_int1 (by rfl) T.z_int (by decide +kernel) (pa_cons (pv 2) pa_nil)) pe_int) pe_int)) pe_int) pa_nil)) pe_int))))
    (pss_one (ps_ret (pe_lst (pa_cons (pe_callTy (show CallR _ _ (rListOf K) from call_list_of) (by rfl) T.z_list (by decide +kernel) (pa_cons (pe_slice (show SlR _ (rSlL K) from sl_list) (pv 0) po_none (po_some pe_int)) pa_nil)) (pa_cons pe_int (pa_cons pe_int (pa_cons (pv 1) (pa_cons pe_int pa_nil)))))))))), ?_⟩
  refine ⟨_, rfl, _, rfl, a, _, rfl, hS, fun p hp => ?_⟩
  rw [hc]
  refine ⟨p, rfl, ⟨_, SqL.of upd_same⟩, for_list (K := K) (a := p) (xs := ns.map V.int) (fun i σ' H' => (∃ (z : Int) (v : Option V), σ' = [some (.ref a), some (.int z), v] ∧ 0 ≤ z ∧ z < 2147483648) ∧ H' = upd H p (.lst (ns.map V.int)))
    ⟨⟨7919, none, rfl, by decide, by decide⟩, rfl⟩ (fun i σ' H' _ h => by rw [h.2]; exact SqL.of upd_same) ?_ ?_⟩
  · rintro i y σ' H' hi ⟨⟨z, v, rfl, h1, h2⟩, rfl⟩
    obtain ⟨k, rfl⟩ : ∃ k, y = V.int k := by
      rw [List.getElem?_map] at hi
      cases e : ns[i]? with
      | none => rw [e] at hi; cases hi
      | some k => rw [e] at hi; exact ⟨k, (Option.some.inj hi).symm⟩
    walk_at "go"
    have m1 := fm (i := z * 48271 + k.fmod 1000003 * 401 + 13) (j := 2147483647) (by decide)
    exact ⟨⟨_, _, rfl, m1.1, by omega⟩, rfl⟩
  · rintro σ' H' ⟨⟨z, v, rfl, h1, h2⟩, rfl⟩
    have s1 : Same H (upd H p (.lst (ns.map V.int))) := Same.new hp
    refine ⟨_, rfl, _, rfl, a, _, rfl, s1.seq hS, fun p2 hp2 => ?_⟩
    rw [hc]
    have s2 := s1.trans (Same.new (o := .lst (ns.map V.int)) hp2)
    refine ⟨_, _, rfl, .inl (SqL.of upd_same), fun p3 hp3 => ?_⟩
    have s3 := s2.trans (Same.new (o := .lst (ns.map V.int)) hp3)
    walk_at "go"
    refine ⟨(by show 5 ≤ sizeLine; decide), fun p4 hp4 => ?_⟩
    have n4 : p3 ≠ p4 := ne_of_none upd_same hp4
    exact q ⟨p4, p3, ns⟩ _ (s3.trans (Same.new hp4)) ⟨⟨0, 0, z, 0, upd_same, by decide, by decide, h1, h2⟩, by rw [upd_ne n4]; exact upd_same, n4⟩ (s3.free hp4)
/-- one of some things -/
def spOf (K : PySem.W.Frag) : Sp := fun vs H Q _ => ∃ (B : Bg) (a : Addr) (xs : List V), vs = [.ref B.b, .ref a] ∧ SqL K H a xs ∧ a ≠ B.b ∧ 0 < xs.length ∧ xs.length ≤ 1000 ∧ Bag B H ∧ ∀ (i : Nat) (v : V) (H' : Hp), xs[i]? = some v → Bag B H' → Kb B.b H H' → Q v H'
theorem Kb.seq {g : Addr} {H H' : Hp} {a : Addr} {xs : List V} (e : Kb g H H') (n : a ≠ g) (h : SqL K H a xs) : SqL K H' a xs := by
  rcases h with (h | ⟨o, h⟩) | h
  · exact .inl (.inl (e _ _ h n))
  · exact .inl (.inr ⟨o, e _ _ h n⟩)
  · exact .inr h
theorem ok_of (T : Tx K mg) : FnOk P w K mg base CX0 2 T.f_l_of T.d_l_of ["_law_bag_here", "_law_things"] (spOf K) := by
  have G_l_draw := ok_draw (P := P) (w := w) (base := base) T
  refine T.F_l_of.ok sc_l_of (fun vs H Q E h => ?_) (fun cdv A outer s H vs Q E hr h => ?_)
  · obtain ⟨B, a, xs, rfl, _⟩ := h
    rfl
  obtain ⟨B, a, xs, rfl, hS, hne, h0, h1, hB, q⟩ := h
  have nd := sc_l_of.nd
  refine ⟨_, (pss_one (ps_ret (pe_ix (show IxR _ (rIxL K) from ix_list) (pv 1) (pe_call G_l_draw (hr.mono (by decide)) (by rfl) T.m_l_draw T.F_l_draw.kp T.b_l_draw .nil pass0 (pa_cons (pv 0) (pa_cons (pe_callB (show CallR _ _ (rLenSq K) from call_len_seq) (by rfl) T.z_len (by decide +kernel) (pa_cons (pv 1) pa_nil)) pa_nil))) (fun _ _ => rfl)))), ?_⟩
  refine ⟨_, rfl, _, rfl, _, rfl, _, _, rfl, .inl hS, B, _, rfl, by omega, Nat.lt_of_le_of_lt (by omega : ((xs.length : Int)).natAbs ≤ 1000) (by decide), hB, fun d H' d0 d1 hB' kb => ?_⟩
  have hk : d.toNat < xs.length := by omega
  refine ⟨_, _, _, xs[d.toNat], rfl, rfl, kb.seq hne hS, at_of (j := d.toNat) (by omega) (List.getElem?_eq_getElem hk), ?_⟩
  exact q d.toNat _ H' (List.getElem?_eq_getElem hk) hB' kb
/-! ### equal data -/
inductive DEq (K : PySem.W.Frag) (H : Hp) : Nat → V → V → Prop where
  | non {n : Nat} : DEq K H n .non .non
  | bl {n : Nat} (b : Bool) : DEq K H n (.bl b) (.bl b)
  | int {n : Nat} (i : Int) : DEq K H n (.int i) (.int i)
  | str {n : Nat} (x : Str) : DEq K H n (.str x) (.str x)
  | lst {n : Nat} {a b : Addr} {xs ys : List V} (h1 : SqL K H a xs) (h2 : SqL K H b ys) (hlen : xs.length ≤ 100000) (hl : xs.length = ys.length) (h : ∀ (i : Nat) (x y : V), xs[i]? = some x → ys[i]? = some y → DEq K H n x y) : DEq K H (n + 1) (.ref a) (.ref b)
  | tup {n : Nat} {a b : Addr} {xs ys : List V} (h1 : SqT K H a xs) (h2 : SqT K H b ys) (hlen : xs.length ≤ 100000) (hl : xs.length = ys.length) (h : ∀ (i : Nat) (x y : V), xs[i]? = some x → ys[i]? = some y → DEq K H n x y) : DEq K H (n + 1) (.ref a) (.ref b)
theorem DEq.same {n : Nat} {H H' : Hp} {x y : V} (h : DEq K H n x y) (s : Same H H') : DEq K H' n x y := by
  induction h with
  | non => exact .non
  | bl b => exact .bl b
  | int i => exact .int i
  | str x => exact .str x
  | lst h1 h2 hlen hl _ ih => exact .lst (s.seq h1) (s.seq h2) hlen hl ih
  | tup h1 h2 hlen hl _ ih => exact .tup (seqT s h1) (seqT s h2) hlen hl ih
end

end TL
namespace TL
open PySem PySem.Spec PyProof.Rows L2 PySem.W
/-! ### enumerate over a tuple -/
set_option maxHeartbeats 1000000 in
theorem enumT_new (t : Addr) (its : Array Value) : Meets (Builtin.«enumerate.__new__» ⟨[.type "enumerate", .ref t], []⟩) (fun _ R s => s.heap.IsTuple t its ∧
    R (.ok (.ret (.ref (s.heap.objs.size + 1)))) { s with heap := (s.heap.push { cls := .type "tuple_iterator", data := .fields #[.ref t, .int 0 0] }).push { cls := .type "enumerate", data := .fields #[.none, .bool false, .ref s.heap.objs.size, rawInt 0, .none, .none] } }) :=
  .of_wp fun prog w A R s h => by
    obtain ⟨h0, g, d, tk, os⟩ := s
    obtain ⟨hT, h⟩ := h
    have hz : (h0.push { cls := .type "tuple_iterator", data := .fields #[.ref t, .int 0 0] }).objs.size = h0.objs.size + 1 := Heap.size_push ..
    rw [← hz] at h
    have se := sub_enumerate
    have go : ∀ {A2 : Around} {E2 Q2 : Value → Shared → Prop}, Q2 (.ref h0.objs.size) ⟨h0.push { cls := .type "tuple_iterator", data := .fields #[.ref t, .int 0 0] }, g, d, tk, os⟩ → wpAny (model prog w) A2 (pyIter (.ref t)) Q2 E2 ⟨h0, g, d, tk, os⟩ :=
      fun k => wpAny_pyIter_tuple hT k
    wp_walk using go
    refine wpAny_stack_any fun _ => wpAny_pure ?_
    split
    · rename_i c _ _ _ _ _
      rcases hb : (c == Value.type "enumerate") <;> wp_walk using go <;> exact ⟨_, rfl, h⟩
    · wp_walk using go
      exact ⟨_, rfl, h⟩
theorem enumT_call {prog : Program} {w : World} {A : Around} {E Q : Value → Shared → Prop} {s : Shared} {t : Addr} {its : Array Value} (hT : s.heap.IsTuple t its)
    (k : ∀ h', IsEnum h' (s.heap.objs.size + 1) s.heap.objs.size 0 .none → h'.IsTupleIter s.heap.objs.size t 0 → (∀ b o, s.heap.get? b = some o → h'.get? b = some o) → Q (.ref (s.heap.objs.size + 1)) { s with heap := h' }) :
    wpAny (model prog w) A (call (.type "enumerate") [.ref t]) Q E s := by
  have hz : (s.heap.push { cls := .type "tuple_iterator", data := .fields #[.ref t, .int 0 0] }).objs.size = s.heap.objs.size + 1 := Heap.size_push ..
  have he := Heap.get?_push_size (s.heap.push { cls := .type "tuple_iterator", data := .fields #[.ref t, .int 0 0] }) (o := { cls := .type "enumerate", data := .fields #[.none, .bool false, .ref s.heap.objs.size, rawInt 0, .none, .none] }) rfl
  rw [hz] at he
  refine callType_new F.called_enumerate (by decide) (F.typeCall_enumerate_1 _) (F.newCall_enumerate_1 _) (fun o => F.args_object_init_2 o _) F.entry_enumerate_new (enumT_new t its) ⟨hT, ?_⟩
  exact ⟨⟨_, he, rfl⟩, k _ he ⟨_, Heap.get?_push_of_some _ (Heap.get?_push_size _ rfl), rfl, rfl⟩ fun b o z => Heap.get?_push_of_some _ (Heap.get?_push_of_some _ z)⟩
def IteT (K : PySem.W.Frag) (a : Addr) : It :=
  ⟨fun i H => ∃ xs x, SqT K H a xs ∧ xs[i]? = some x, fun i H v H' => ∃ T x, v = .ref T ∧ H T = none ∧ H' = upd H T (.tup [.int (i : Nat), x]) ∧ ∀ xs, SqT K H a xs → xs[i]? = some x, fun i H => ∃ xs, SqT K H a xs ∧ xs.length ≤ i⟩
theorem cls_ne {h : Heap} {a b : Addr} {S T : String} (p : ∃ o, h.get? a = some o ∧ o.cls = .type S) (q : ∃ o, h.get? b = some o ∧ o.cls = .type T) (n : S ≠ T) : a ≠ b := by
  rintro rfl
  obtain ⟨o, e1, e2⟩ := p
  obtain ⟨o', e3, e4⟩ := q
  rw [e1] at e3
  cases e3
  rw [e2] at e4
  cases e4
  exact n rfl
theorem turn_enumT {P : Program} {w : World} {K : PySem.W.Frag} {elts : List Expr} {kk : Nat} {tp : Pos} (a e it : Addr) :
    Turn P w K (.Tuple elts kk tp) (IteT K a) [e, it] e (fun i h => (∃ z, IsEnum h e it ((i : Nat) : Int) z) ∧ h.IsTupleIter it a i ∧ e ≠ it) where
  mem := List.mem_cons_self ..
  obj := fun i h st b hb => by
    obtain ⟨⟨z, he⟩, ⟨o, ho, _, hd⟩, _⟩ := st
    simp only [List.mem_cons, List.not_mem_nil, or_false] at hb
    rcases hb with rfl | rfl
    · exact ⟨_, he, fun v q => nomatch q⟩
    · refine ⟨o, ho, fun v q => ?_⟩
      rw [hd] at q
      cases q
  keep := fun i h h' st k => let ⟨⟨z, he⟩, hi, n⟩ := st; ⟨⟨z, k e (by simp) _ he⟩, hi.at fun o q => k it (by simp) o q, n⟩
  item := by
    intro X hP hw hK hc i pins s σ H E I hf st hg
    subst hP hw hK
    obtain ⟨⟨z, he⟩, hi, n⟩ := st
    obtain ⟨xs, x, hq, hx⟩ := hg
    obtain ⟨its, rv, p, hz⟩ := I.tuple hq
    obtain ⟨u, hu, ru⟩ := rv.get hx
    have hT : s.heap.IsTuple a its.toArray := p
    have cT : ∃ o, s.heap.get? a = some o ∧ o.cls = .type "tuple" := let ⟨o, e1, e2, _⟩ := hT; ⟨o, e1, e2⟩
    have cI : ∃ o, s.heap.get? it = some o ∧ o.cls = .type "tuple_iterator" := let ⟨o, e1, e2, _⟩ := hi; ⟨o, e1, e2⟩
    have ai : a ≠ it := cls_ne cT cI (by decide)
    have ea : e ≠ a := Ne.symm (cls_ne cT ⟨_, he, rfl⟩ (by decide))
    have le : e < s.heap.objs.size := Heap.lt_size he
    have li : it < s.heap.objs.size := let ⟨_, q, _⟩ := cI; Heap.lt_size q
    have hd1 : X.A.in1.handled = none := I.ok.hd hc
    refine wpAny_pyNext_enum_itemD (Draws.tuple hd1 it a ai its.toArray) he ⟨hi, hT⟩ (by
      have := (List.getElem?_eq_some_iff.mp hu).1
      simpa using this) n (by simp [n, ea]) fun y h' tk hy ho hst hT2 hsz hk => ?_
    obtain rfl : u = y := by
      have hy' : its[i]? = some y := by simpa using hy
      rw [hu] at hy'
      exact Option.some.inj hy'
    refine ⟨_, rfl, wpAny_letOwnedTupleGo_enum (s := { s with heap := h', toks := tk + 1 }) ho fun h2 he2 sb => ?_⟩
    have hT3 : h2.get? s.heap.objs.size = some { cls := .type "tuple", data := .seq #[.int i tk, u] } := (sb.2 _ (Nat.ne_of_gt le)).trans hT2
    have new : ObjOk X.prog X.w (upd H s.heap.objs.size (.tup [.int (i : Nat), x])) h2 s.heap.objs.size (.tup [.int (i : Nat), x]) :=
      ⟨(show 2 ≤ sizeLine by decide), [.int i tk, u], .cons ⟨_, rfl⟩ (.cons ru .nil), ⟨_, hT3, rfl, _, rfl⟩⟩
    have I1 : Inv X pins σ (upd H s.heap.objs.size (.tup [.int (i : Nat), x])) { s with heap := h2, toks := tk + 1 } :=
      I.turnedNew (ch := [e, it]) (fun b ob hb q => (sb.2 b fun c => hb (by simp [c])).trans (hk b ob (fun c => hb (by simp [c])) (fun c => hb (by simp [c])) q)) hf (Nat.le_refl _) new
    refine ⟨.ref s.heap.objs.size, _, I1, rfl, ⟨_, x, rfl, I.hok.fresh (Nat.le_refl _), rfl, fun ys hy => ?_⟩, ⟨⟨u, ?_⟩, hst.1.at fun o q => (sb.2 it (Ne.symm n)).trans q, n⟩, fun b hb => ?_⟩
    · rw [I.tuple_inj hy hq]
      exact hx
    · rw [show ((i + 1 : Nat) : Int) = (i : Int) + 1 by omega]
      exact he2
    · have lb : b < s.heap.objs.size := by
        simp only [List.mem_cons, List.not_mem_nil, or_false] at hb
        rcases hb with rfl | rfl <;> assumption
      rw [upd_ne (Nat.ne_of_lt lb)]
      exact (hf b hb).1
  done := by
    intro X hP hw hK hc i pins s σ H E I hf st hg
    subst hP hw hK
    obtain ⟨⟨z, he⟩, hi, n⟩ := st
    obtain ⟨xs, hq, hx⟩ := hg
    obtain ⟨its, rv, p, hz⟩ := I.tuple hq
    have hT : s.heap.IsTuple a its.toArray := p
    have cT : ∃ o, s.heap.get? a = some o ∧ o.cls = .type "tuple" := let ⟨o, e1, e2, _⟩ := hT; ⟨o, e1, e2⟩
    have cI : ∃ o, s.heap.get? it = some o ∧ o.cls = .type "tuple_iterator" := let ⟨o, e1, e2, _⟩ := hi; ⟨o, e1, e2⟩
    have ai : a ≠ it := cls_ne cT cI (by decide)
    obtain ⟨f0, f1, f2, f3, f4, f5⟩ := hf it (by simp)
    have hl := rv.length
    have hd1 : X.A.in1.handled = none := I.ok.hd hc
    have D0 : Draws X.prog X.w X.A.in1 it [it, a] i (fun _ _ => True) (fun j h => j = i ∧ h.IsTupleIter it a i ∧ h.IsTuple a its.toArray) := {
      live := fun _ _ st => let ⟨o, ho, _⟩ := st.2.1; ⟨o, ho⟩
      frame := fun _ _ _ st k => ⟨st.1, st.2.1.at fun o e => k it (by simp) o e, st.2.2.at fun o e => k a (by simp) o e⟩
      item := fun j s1 Q1 E1 hj st _ => absurd st.1 (Nat.ne_of_lt hj)
      done := fun s1 Q1 E1 st hE => wpAny_nextOf_tuple_end hd1 st.2.1 st.2.2 (by simp; omega) hE }
    exact wpAny_pyNext_enum_endD D0 he ⟨rfl, hi, hT⟩ fun h' eb => ⟨rfl, I.turned (t' := s.toks) (fun b o hb e => eb b o hb e) f0 f1 f3 f4 f5⟩
  self := fun A i s Q E st h => let ⟨⟨_, he⟩, _⟩ := st; wpAny_pyIter_enum he h
def iEnumT (K : PySem.W.Frag) (ta : TA) : TI := fun σ H R => ta σ H fun vs H1 => ∃ a, vs = [.ref a] ∧ (∃ xs, SqT K H1 a xs) ∧ R (IteT K a) H1
theorem pi_enumT {X : Cx} {e : Expr} {ta : TA} {p pos tp : Pos} {elts : List Expr} {kk : Nat} (hg : Gl X "enumerate") (hm : X.mg "enumerate" = none) (ha : PA X [e] ta) (hs : starEach [e] X.env = [(false, eval e X.env)] := by rfl) :
    PI X (.Tuple elts kk tp) (.Call (.Name "enumerate" p) [e] [] pos) (iEnumT X.K ta) := by
  refine ⟨fun pins s σ H R I h => Call_ (ld_blt I hg hm boot_enumerate (PyProof.Rows.callWith_type1 (thn (ha.run pos pins s σ H _ I h) fun us s1 ⟨vs, H1, I1, r1, q1⟩ => ?_) hs rfl))⟩
  obtain ⟨a, ex, ⟨xs, hq⟩, q⟩ := q1
  subst ex
  cases r1 with
  | cons r rr =>
    cases rr
    cases r
    obtain ⟨its, rv, pT, hz⟩ := I1.tuple hq
    refine enumT_call (show s1.heap.IsTuple a its.toArray from pT) fun h' he hi hk => wpAny_pyIter_enum he ?_
    refine ⟨s1.heap.objs.size + 1, [s1.heap.objs.size + 1, s1.heap.objs.size], _, _, H1, rfl, I1.kept (t' := s1.toks) hk, turn_enumT a (s1.heap.objs.size + 1) s1.heap.objs.size, ⟨⟨.none, he⟩, hi, Nat.succ_ne_self _⟩, fun b hb => ?_, q⟩
    have lb : s1.heap.objs.size ≤ b := by
      simp only [List.mem_cons, List.not_mem_nil, or_false] at hb
      rcases hb with z | z
      · exact z ▸ Nat.le_succ _
      · exact z ▸ Nat.le_refl _
    exact I1.fpOk lb (I1.hok.fresh lb)
theorem walk_enumT {K : PySem.W.Frag} {a : Addr} {xs : List V} : Walk (IteT K a) xs.length (fun H => SqT K H a xs) (YPair (fun i => some (.int (i : Nat))) (fun i => xs[i]?)) := by
  refine ⟨fun i _ hi q => ⟨xs, xs[i], q, by simp [hi]⟩, fun _ q => ⟨xs, q, Nat.le_refl _⟩, fun i H v H' _ q y => ?_⟩
  obtain ⟨T, x, e1, e2, e3, e4⟩ := y
  exact ⟨T, .int (i : Nat), x, e1, e2, e3, rfl, e4 xs q⟩
end TL
namespace TL
/-! ### the clearing of a matrix, as the program does it -/
def ffrom (M : List (List Int)) (c : Nat) : Nat → Nat → Option Nat
  | _, 0 => none
  | i, n + 1 => if (M.getD i []).getD c 0 ≠ 0 then some i else ffrom M c (i + 1) n
def swapR (M : List (List Int)) (i j : Nat) : List (List Int) := (M.set i (M.getD j [])).set j (M.getD i [])
def redRow (last : Int) (head : List Int) (c : Nat) (row : List Int) : List Int :=
  List.zipWith (fun own top => (head.getD c 0 * own - row.getD c 0 * top).fdiv last) row head
/-- the rows from r + 1 up to k are reduced -/
def redTo (last : Int) (head : List Int) (c r k : Nat) (M : List (List Int)) : List (List Int) :=
  M.mapIdx fun i row => if r < i ∧ i < k then redRow last head c row else row
abbrev CSt := List (List Int) × Nat × Int × Int
def pivM (M : List (List Int)) (r f : Nat) : List (List Int) := if f = r then M else swapR M r f
def stepC (c : Nat) (s : CSt) : CSt :=
  match ffrom s.1 c s.2.1 (s.1.length - s.2.1) with
  | none => s
  | some f =>
    let M1 := pivM s.1 s.2.1 f
    let head := M1.getD s.2.1 []
    (redTo s.2.2.2 head c s.2.1 M1.length M1, s.2.1 + 1, if f = s.2.1 then s.2.2.1 else - s.2.2.1, head.getD c 0)
def clrN (M : List (List Int)) : Nat → CSt
  | 0 => (M, 0, 1, 1)
  | c + 1 => stepC c (clrN M c)
def widthOf (M : List (List Int)) : Nat := (M.getD 0 []).length
def clrRank (M : List (List Int)) : Nat := (clrN M (widthOf M)).2.1
def clrDet (M : List (List Int)) : Int := (clrN M (widthOf M)).2.2.1 * (clrN M (widthOf M)).2.2.2
/-! ### sizes -/
def Ent (b : Nat) (M : List (List Int)) : Prop := ∀ row ∈ M, ∀ x ∈ row, x.natAbs < 2 ^ b
def RowsW (w : Nat) (M : List (List Int)) : Prop := ∀ row ∈ M, row.length = w
def bk (E : Nat) : Nat → Nat
  | 0 => E
  | k + 1 => 2 * bk E k + 1
theorem fdiv_le (a d : Int) (hd : d ≠ 0) : (a.fdiv d).natAbs ≤ a.natAbs := by
  have h := Int.mul_fdiv_add_fmod a d
  have hq : ∀ q r : Int, d * q + r = a → (0 < d → 0 ≤ r ∧ r < d) → (d < 0 → d < r ∧ r ≤ 0) → q.natAbs ≤ a.natAbs := by
    intro q r e p1 p2
    rcases Int.lt_or_gt_of_ne hd with c | c
    · obtain ⟨r1, r2⟩ := p2 c
      rcases Int.lt_trichotomy q 0 with z | z | z
      · have : (-d) * (-q) ≥ 1 * (-q) := Int.mul_le_mul_of_nonneg_right (by omega) (by omega)
        rw [Int.neg_mul_neg] at this
        have h2 : d * q = d * (q + 1) - d := by rw [Int.mul_add]; omega
        have h3 : 0 ≤ d * (q + 1) := Int.mul_nonneg_of_nonpos_of_nonpos (by omega) (by omega)
        have h4 : (-d) * (-(q + 1)) ≥ 1 * (-(q + 1)) := Int.mul_le_mul_of_nonneg_right (by omega) (by omega)
        rw [Int.neg_mul_neg] at h4
        omega
      · omega
      · have : (-d) * q ≥ 1 * q := Int.mul_le_mul_of_nonneg_right (by omega) (by omega)
        rw [Int.neg_mul] at this
        omega
    · obtain ⟨r1, r2⟩ := p1 c
      rcases Int.lt_trichotomy q 0 with z | z | z
      · have h2 : d * q = d * (q + 1) - d := by rw [Int.mul_add]; omega
        have h4 : d * (-(q + 1)) ≥ 1 * (-(q + 1)) := Int.mul_le_mul_of_nonneg_right (by omega) (by omega)
        rw [Int.mul_neg] at h4
        omega
      · omega
      · have : d * q ≥ 1 * q := Int.mul_le_mul_of_nonneg_right (by omega) (by omega)
        omega
  exact hq _ _ h (fun c => ⟨Int.fmod_nonneg_of_pos a c, Int.fmod_lt_of_pos a c⟩) fun c => by
    have h1 := Int.fmod_nonneg_of_pos (-a) (b := -d) (by omega)
    have h2 := Int.fmod_lt_of_pos (-a) (b := -d) (by omega)
    have h3 : (-a).fmod (-d) = - a.fmod d := Int.neg_fmod_neg ..
    omega
theorem len_swap (M : List (List Int)) (i j : Nat) : (swapR M i j).length = M.length := by simp [swapR]
theorem len_piv (M : List (List Int)) (r f : Nat) : (pivM M r f).length = M.length := by
  unfold pivM
  split
  · rfl
  · exact len_swap ..
theorem len_red (l : Int) (h : List Int) (c r k : Nat) (M : List (List Int)) : (redTo l h c r k M).length = M.length := by simp [redTo]
theorem red_at (l : Int) (h : List Int) (c r k : Nat) (M : List (List Int)) (i : Nat) : (redTo l h c r k M)[i]? = M[i]?.map fun row => if r < i ∧ i < k then redRow l h c row else row := by
  unfold redTo
  rw [List.getElem?_mapIdx]
theorem red_start (l : Int) (h : List Int) (c r : Nat) (M : List (List Int)) : redTo l h c r (r + 1) M = M := by
  apply List.ext_getElem?
  intro i
  rw [red_at]
  have : ¬ (r < i ∧ i < r + 1) := by omega
  simp only [if_neg this]
  cases M[i]? <;> rfl
theorem red_step {l : Int} {h : List Int} {c r k : Nat} {M : List (List Int)} {row : List Int} (hr : r < k) (hk : M[k]? = some row) : redTo l h c r (k + 1) M = (redTo l h c r k M).set k (redRow l h c row) := by
  apply List.ext_getElem?
  intro i
  rw [red_at, List.getElem?_set]
  have hlen : k < M.length := (List.getElem?_eq_some_iff.mp hk).1
  by_cases e : k = i
  · subst e
    rw [if_pos rfl, if_pos (by rw [len_red]; exact hlen), hk]
    simp only [Option.map_some]
    rw [if_pos ⟨hr, by omega⟩]
  · rw [if_neg e, red_at]
    cases M[i]? with
    | none => rfl
    | some z =>
      simp only [Option.map_some]
      by_cases d : r < i ∧ i < k
      · rw [if_pos d, if_pos ⟨d.1, by omega⟩]
      · rw [if_neg d, if_neg (by omega)]
theorem red_keep {l : Int} {h : List Int} {c r k : Nat} {M : List (List Int)} {i : Nat} (hi : i ≤ r ∨ k ≤ i) : (redTo l h c r k M)[i]? = M[i]? := by
  rw [red_at]
  have : ¬ (r < i ∧ i < k) := by omega
  simp only [if_neg this]
  cases M[i]? <;> rfl
theorem ffrom_some {M : List (List Int)} {c : Nat} : ∀ {n i f : Nat}, ffrom M c i n = some f → i ≤ f ∧ f < i + n ∧ (M.getD f []).getD c 0 ≠ 0
  | 0, i, f, h => by cases h
  | n + 1, i, f, h => by
    unfold ffrom at h
    split at h
    · cases h
      exact ⟨Nat.le_refl _, by omega, by assumption⟩
    · have := ffrom_some h
      exact ⟨by omega, by omega, this.2.2⟩
theorem getD_mem {M : List (List Int)} {i : Nat} (h : i < M.length) : M.getD i [] ∈ M := by
  rw [List.getD_eq_getElem?_getD, List.getElem?_eq_getElem h]
  exact List.getElem_mem h
theorem getD_some {M : List (List Int)} {i : Nat} (h : i < M.length) : M[i]? = some (M.getD i []) := by
  rw [List.getD_eq_getElem?_getD, List.getElem?_eq_getElem h]
  rfl
theorem swap_mem {M : List (List Int)} {i j : Nat} (hi : i < M.length) (hj : j < M.length) : ∀ x ∈ swapR M i j, x ∈ M := fun x hx => by
  unfold swapR at hx
  rcases List.mem_or_eq_of_mem_set hx with h | h
  · rcases List.mem_or_eq_of_mem_set h with h | h
    · exact h
    · rw [h]
      exact getD_mem hj
  · rw [h]
    exact getD_mem hi
theorem piv_mem {M : List (List Int)} {r f : Nat} (hr : r < M.length) (hf : f < M.length) : ∀ x ∈ pivM M r f, x ∈ M := fun x hx => by
  unfold pivM at hx
  split at hx
  · exact hx
  · exact swap_mem hr hf x hx
theorem piv_at {M : List (List Int)} {r f : Nat} (hr : r < M.length) (hf : f < M.length) : (pivM M r f)[r]? = some (M.getD f []) := by
  unfold pivM
  split
  · rename_i e
    rw [e]
    exact getD_some hr
  · rename_i e
    unfold swapR
    rw [List.getElem?_set_ne e, List.getElem?_set_self hr]
theorem getD_of {M : List (List Int)} {i : Nat} {row : List Int} (h : M[i]? = some row) : M.getD i [] = row := by
  rw [List.getD_eq_getElem?_getD, h]
  rfl
theorem abs2 {p q u v : Int} {b : Nat} (a1 : p.natAbs < 2 ^ b) (a2 : q.natAbs < 2 ^ b) (a3 : u.natAbs < 2 ^ b) (a4 : v.natAbs < 2 ^ b) : (p * u - q * v).natAbs < 2 ^ (2 * b + 1) := by
  have m1 : (p * u).natAbs < 2 ^ b * 2 ^ b := by
    rw [Int.natAbs_mul]
    exact Nat.mul_lt_mul'' a1 a3
  have m2 : (q * v).natAbs < 2 ^ b * 2 ^ b := by
    rw [Int.natAbs_mul]
    exact Nat.mul_lt_mul'' a2 a4
  have e : 2 ^ (2 * b + 1) = 2 ^ b * 2 ^ b + 2 ^ b * 2 ^ b := by
    rw [Nat.pow_succ, Nat.two_mul, Nat.pow_add]
    omega
  rw [e]
  omega
theorem red_row_ent {b : Nat} {l : Int} {h row : List Int} {c : Nat} (hl : l ≠ 0) (hh : ∀ x ∈ h, x.natAbs < 2 ^ b) (hr : ∀ x ∈ row, x.natAbs < 2 ^ b) : ∀ x ∈ redRow l h c row, x.natAbs < 2 ^ (2 * b + 1) := by
  have g : ∀ (xs : List Int), (∀ x ∈ xs, x.natAbs < 2 ^ b) → (xs.getD c 0).natAbs < 2 ^ b := fun xs hx => by
    rw [List.getD_eq_getElem?_getD]
    rcases Nat.lt_or_ge c xs.length with z | z
    · rw [List.getElem?_eq_getElem z]
      exact hx _ (List.getElem_mem z)
    · rw [List.getElem?_eq_none z]
      exact Nat.pow_pos (by decide)
  intro x hx
  obtain ⟨i, hi, rfl⟩ := List.mem_iff_getElem.mp hx
  unfold redRow at hi ⊢
  rw [List.getElem_zipWith]
  refine Nat.lt_of_le_of_lt (fdiv_le _ _ hl) ?_
  simp only [List.length_zipWith] at hi
  have a1 := g h hh
  have a2 := g row hr
  have a3 := hr row[i] (List.getElem_mem _)
  have a4 := hh h[i] (List.getElem_mem _)
  exact abs2 a1 a2 a3 a4
theorem red_ent {b : Nat} {l : Int} {h : List Int} {c r k : Nat} {M : List (List Int)} (hl : l ≠ 0) (hh : ∀ x ∈ h, x.natAbs < 2 ^ b) (hM : Ent b M) : Ent (2 * b + 1) (redTo l h c r k M) := fun row hrow => by
  obtain ⟨i, e⟩ := List.mem_iff_getElem?.mp hrow
  rw [red_at] at e
  obtain ⟨z, hz, rfl⟩ := Option.map_eq_some_iff.mp e
  have hz' := hM z (List.mem_of_getElem? hz)
  split
  · exact red_row_ent hl hh hz'
  · intro x hx
    exact Nat.lt_of_lt_of_le (hz' x hx) (Nat.pow_le_pow_right (by decide) (by omega))
theorem red_rows {w : Nat} {l : Int} {h : List Int} {c r k : Nat} {M : List (List Int)} (hh : h.length = w) (hM : RowsW w M) : RowsW w (redTo l h c r k M) := fun row hrow => by
  obtain ⟨i, e⟩ := List.mem_iff_getElem?.mp hrow
  rw [red_at] at e
  obtain ⟨z, hz, rfl⟩ := Option.map_eq_some_iff.mp e
  have hz' := hM z (List.mem_of_getElem? hz)
  split
  · simp [redRow, hz', hh]
  · exact hz'
/-- what holds behind each column -/
structure ClrI (E n w : Nat) (s : CSt) : Prop where
  len : s.1.length = n
  rows : RowsW w s.1
  ent : Ent (bk E s.2.1) s.1
  le : s.2.1 ≤ n
  nz : s.2.2.2 ≠ 0
  sm : s.2.2.2.natAbs < 2 ^ bk E s.2.1
theorem bk_pos (E : Nat) (hE : 0 < E) : ∀ k, 0 < bk E k
  | 0 => hE
  | k + 1 => by unfold bk; omega
theorem clrI_start {E w : Nat} {M : List (List Int)} (hE : 0 < E) (hM : Ent E M) (hw : RowsW w M) : ClrI E M.length w (M, 0, 1, 1) :=
  ⟨rfl, hw, hM, Nat.zero_le _, by show (1 : Int) ≠ 0; decide, Nat.one_lt_two_pow (by show E ≠ 0; omega)⟩
theorem clrI_step {E n w c : Nat} {s : CSt} (h : ClrI E n w s) : ClrI E n w (stepC c s) := by
  obtain ⟨M, r, sg, last⟩ := s
  unfold stepC
  dsimp only
  split
  · exact h
  · rename_i f hf
    obtain ⟨f1, f2, f3⟩ := ffrom_some hf
    have hl : M.length = n := h.len
    have hle : r ≤ n := h.le
    have hfl : f < M.length := by omega
    have hrl : r < M.length := by omega
    have hp := piv_at hrl hfl
    have hd : (pivM M r f).getD r [] = M.getD f [] := getD_of hp
    have hmem := getD_mem hfl
    have hpe : Ent (bk E r) (pivM M r f) := fun row hr => h.ent row (piv_mem hrl hfl row hr)
    have hpw : RowsW w (pivM M r f) := fun row hr => h.rows row (piv_mem hrl hfl row hr)
    have hhe := h.ent _ hmem
    refine ⟨by dsimp only; rw [len_red, len_piv]; exact hl, red_rows (by rw [hd]; exact h.rows _ hmem) hpw, red_ent h.nz (by rw [hd]; exact hhe) hpe, by dsimp only; omega, by rw [hd]; exact f3, ?_⟩
    dsimp only
    rw [hd]
    have g : ((M.getD f []).getD c 0).natAbs < 2 ^ bk E r := by
      generalize M.getD f [] = xs at *
      rw [List.getD_eq_getElem?_getD]
      rcases Nat.lt_or_ge c xs.length with z | z
      · rw [List.getElem?_eq_getElem z]
        exact hhe _ (List.getElem_mem z)
      · rw [List.getElem?_eq_none z]
        exact Nat.pow_pos (by decide)
    exact Nat.lt_of_lt_of_le g (Nat.pow_le_pow_right (by decide) (by show bk E r ≤ 2 * bk E r + 1; omega))
theorem clrI_n {E w : Nat} {M : List (List Int)} (hE : 0 < E) (hM : Ent E M) (hw : RowsW w M) : ∀ c, ClrI E M.length w (clrN M c)
  | 0 => clrI_start hE hM hw
  | c + 1 => clrI_step (clrI_n hE hM hw c)
theorem bk_le {E k m : Nat} (h : k ≤ m) : bk E k ≤ bk E m := by
  induction m with
  | zero => rw [Nat.le_zero.mp h]; exact Nat.le_refl _
  | succ m ih =>
    rcases Nat.lt_or_ge k (m + 1) with c | c
    · have := ih (by omega)
      show bk E k ≤ 2 * bk E m + 1
      omega
    · rw [Nat.le_antisymm h c]
      exact Nat.le_refl _
theorem rank_le (M : List (List Int)) : ∀ c, (clrN M c).2.1 ≤ c
  | 0 => Nat.le_refl _
  | c + 1 => by
    have ih := rank_le M c
    show (stepC c (clrN M c)).2.1 ≤ c + 1
    unfold stepC
    split
    · omega
    · dsimp only
      omega
theorem sign_one (M : List (List Int)) : ∀ c, (clrN M c).2.2.1 = 1 ∨ (clrN M c).2.2.1 = -1
  | 0 => .inl rfl
  | c + 1 => by
    have ih := sign_one M c
    show (stepC c (clrN M c)).2.2.1 = 1 ∨ (stepC c (clrN M c)).2.2.1 = -1
    unfold stepC
    split
    · exact ih
    · dsimp only
      split <;> omega
end TL
namespace TL
open PySem PySem.Spec PyProof.Rows L2 PySem.W
/-! ### zip of a tuple and a list -/
theorem at_tuple {prog : Program} {w : World} {A : Around} (hh : A.handled = none) {it t : Addr} {h : Heap} {its : Array Value} {i : Nat} (hi : h.IsTupleIter it t i) (hT : h.IsTuple t its) (ne : t ≠ it) :
    ∃ n P St, Draws prog w A it [it, t] n P St ∧ St i h ∧ i ≤ n ∧ (its.size ≤ i → n = i) := by
  by_cases c : i ≤ its.size
  · exact ⟨_, _, _, Draws.tuple hh it t ne its, ⟨hi, hT⟩, c, fun z => Nat.le_antisymm z c⟩
  · refine ⟨i, fun _ _ => True, fun j g => j = i ∧ g.IsTupleIter it t i ∧ g.IsTuple t its, ⟨fun _ _ st => let ⟨o, ho, _⟩ := st.2.1; ⟨o, ho⟩, fun _ _ _ st k => ⟨st.1, st.2.1.at fun o e => k it (by simp) o e, st.2.2.at fun o e => k t (by simp) o e⟩, fun j _ _ _ hj st _ => absurd st.1 (Nat.ne_of_lt hj),
      fun _ _ _ st hE => wpAny_nextOf_tuple_end hh st.2.1 st.2.2 (Array.getElem?_eq_none (by omega)) hE⟩, ⟨rfl, hi, hT⟩, Nat.le_refl _, fun _ => rfl⟩
theorem at_list {prog : Program} {w : World} {A : Around} (hh : A.handled = none) {it t : Addr} {h : Heap} {its : Array Value} {i : Nat} (hi : h.IsListIter it t i) (hT : h.IsList t its) (ne : t ≠ it) :
    ∃ n P St, Draws prog w A it [it, t] n P St ∧ St i h ∧ i ≤ n ∧ (its.size ≤ i → n = i) := by
  by_cases c : i ≤ its.size
  · exact ⟨_, _, _, Draws.list hh it t ne its, ⟨hi, hT⟩, c, fun z => Nat.le_antisymm z c⟩
  · refine ⟨i, fun _ _ => True, fun j g => j = i ∧ g.IsListIter it t i ∧ g.IsList t its, ⟨fun _ _ st => let ⟨o, ho, _⟩ := st.2.1; ⟨o, ho⟩, fun _ _ _ st k => ⟨st.1, st.2.1.at fun o e => k it (by simp) o e, st.2.2.at fun o e => k t (by simp) o e⟩, fun j _ _ _ hj st _ => absurd st.1 (Nat.ne_of_lt hj),
      fun _ _ _ st hE => wpAny_nextOf_list_end hh st.2.1 st.2.2 (Array.getElem?_eq_none (by omega)) hE⟩, ⟨rfl, hi, hT⟩, Nat.le_refl _, fun _ => rfl⟩
def ItzM (K : PySem.W.Frag) (a b : Addr) : It :=
  ⟨fun i H => ∃ xs ys x y, SqT K H a xs ∧ SqL K H b ys ∧ xs[i]? = some x ∧ ys[i]? = some y,
    fun i H v H' => ∃ T x y, v = .ref T ∧ H T = none ∧ H' = upd H T (.tup [x, y]) ∧ (∀ xs, SqT K H a xs → xs[i]? = some x) ∧ ∀ ys, SqL K H b ys → ys[i]? = some y,
    fun i H => ∃ xs ys, SqT K H a xs ∧ SqL K H b ys ∧ (xs.length ≤ i ∨ ys.length ≤ i)⟩
theorem turn_zipM {P : Program} {w : World} {K : PySem.W.Frag} {elts : List Expr} {kk : Nat} {tp : Pos} {a b z TI TO i1 i2 : Addr} (S : ZipSep2 z TI TO i1 i2 [i1, a] [i2, b]) :
    Turn P w K (.Tuple elts kk tp) (ItzM K a b) [z, TI, TO, i1, i2] z (fun i h => IsZip h z TI TO .none ∧ IsPair h TI (.ref i1) (.ref i2) ∧ (∃ x y, IsPair h TO x y) ∧ h.IsTupleIter i1 a i ∧ h.IsListIter i2 b i) where
  mem := List.mem_cons_self ..
  obj := fun i h st c hc => by
    obtain ⟨hz, hTI, ⟨x, y, hTO⟩, ⟨o1, e1, _, d1⟩, ⟨o2, e2, _, d2⟩⟩ := st
    simp only [List.mem_cons, List.not_mem_nil, or_false] at hc
    rcases hc with rfl | rfl | rfl | rfl | rfl
    · exact ⟨_, hz, fun v q => nomatch q⟩
    · exact ⟨_, hTI, fun v q => nomatch q⟩
    · exact ⟨_, hTO, fun v q => nomatch q⟩
    · exact ⟨o1, e1, fun v q => by rw [d1] at q; cases q⟩
    · exact ⟨o2, e2, fun v q => by rw [d2] at q; cases q⟩
  keep := fun i h h' st k => by
    obtain ⟨hz, hTI, ⟨x, y, hTO⟩, e1, e2⟩ := st
    exact ⟨k z (by simp) _ hz, k TI (by simp) _ hTI, ⟨x, y, k TO (by simp) _ hTO⟩, e1.at fun o q => k i1 (by simp) o q, e2.at fun o q => k i2 (by simp) o q⟩
  item := by
    intro X hP hw hK hc i pins s σ H E I hf st hg
    subst hP hw hK
    obtain ⟨hz, hTI, ⟨x0, y0, hTO⟩, e1, e2⟩ := st
    obtain ⟨xs, ys, x, y, qx, qy, hx, hy⟩ := hg
    obtain ⟨t1, r1, p1, _⟩ := I.tuple qx
    obtain ⟨t2, r2, p2, _⟩ := I.list qy
    obtain ⟨u1, hu1, ru1⟩ := r1.get hx
    obtain ⟨u2, hu2, ru2⟩ := r2.get hy
    have hT : s.heap.IsTuple a t1.toArray := p1
    have hL : s.heap.IsList b t2.toArray := p2.isList
    have n1 : a ≠ i1 := cls_ne (let ⟨o, q1, q2, _⟩ := hT; ⟨o, q1, q2⟩) (let ⟨o, q1, q2, _⟩ := e1; ⟨o, q1, q2⟩) (by decide)
    have n2 : b ≠ i2 := cls_ne (let ⟨o, q1, q2, _⟩ := hL; ⟨o, q1, q2⟩) (let ⟨o, q1, q2, _⟩ := e2; ⟨o, q1, q2⟩) (by decide)
    have hh : X.A.in1.handled = none := I.ok.hd hc
    have lz : z < s.heap.objs.size := Heap.lt_size hz
    have l1 : i < t1.toArray.size := by simpa using (List.getElem?_eq_some_iff.mp hu1).1
    have l2 : i < t2.toArray.size := by simpa using (List.getElem?_eq_some_iff.mp hu2).1
    refine wpAny_pyNext_zipD2_item S (Draws.tuple hh i1 a n1 t1.toArray) (Draws.list hh i2 b n2 t2.toArray) hz hTI hTO ⟨e1, hT⟩ ⟨e2, hL⟩ l1 l2 fun v1 v2 h' tk g1 g2 z' TO' s1 s2 hT2 hsz hk => ?_
    obtain rfl : u1 = v1 := Option.some.inj (hu1.symm.trans (by simpa using g1))
    obtain rfl : u2 = v2 := Option.some.inj (hu2.symm.trans (by simpa using g2))
    refine ⟨_, rfl, wpAny_letOwnedTupleGo_zip (s := { s with heap := h', toks := tk }) z' fun h2 z2 sb => ?_⟩
    have hT3 : h2.get? s.heap.objs.size = some { cls := .type "tuple", data := .seq #[u1, u2] } := (sb.2 _ (Nat.ne_of_gt lz)).trans hT2
    have new : ObjOk X.prog X.w (upd H s.heap.objs.size (.tup [x, y])) h2 s.heap.objs.size (.tup [x, y]) := ⟨(show 2 ≤ sizeLine by decide), [u1, u2], .cons ru1 (.cons ru2 .nil), ⟨_, hT3, rfl, _, rfl⟩⟩
    have I1 : Inv X pins σ (upd H s.heap.objs.size (.tup [x, y])) { s with heap := h2, toks := tk } :=
      I.turnedNew (ch := [z, TI, TO, i1, i2]) (fun c o hb q => (sb.2 c fun q' => hb (by simp [q'])).trans (hk c o (fun q' => hb (by simp [q'])) (fun q' => hb (by simp [q'])) (fun q' => hb (by simp [q'])) (fun q' => hb (by simp [q'])) q)) hf (Nat.le_refl _) new
    have z1 : z ≠ i1 := S.zi1
    have z3 : z ≠ i2 := S.zi2
    refine ⟨.ref s.heap.objs.size, _, I1, rfl, ⟨_, x, y, rfl, I.hok.fresh (Nat.le_refl _), rfl, fun l hl => by rw [I.tuple_inj hl qx]; exact hx, fun l hl => by rw [I.list_inj hl qy]; exact hy⟩, ⟨z2, ?_, ⟨u1, u2, ?_⟩, ?_, ?_⟩, fun c hcm => ?_⟩
    · exact (sb.2 _ S.TIz).trans (hk _ _ S.TIz S.TITO S.TIi1 S.TIi2 hTI)
    · exact (sb.2 _ S.TOz).trans TO'
    · exact s1.1.at fun o q => (sb.2 _ (Ne.symm z1)).trans q
    · exact s2.1.at fun o q => (sb.2 _ (Ne.symm z3)).trans q
    · have lc : c < s.heap.objs.size := by
        simp only [List.mem_cons, List.not_mem_nil, or_false] at hcm
        rcases hcm with rfl | rfl | rfl | rfl | rfl
        · exact lz
        · exact Heap.lt_size hTI
        · exact Heap.lt_size hTO
        · obtain ⟨_, q, _⟩ := e1
          exact Heap.lt_size q
        · obtain ⟨_, q, _⟩ := e2
          exact Heap.lt_size q
      rw [upd_ne (Nat.ne_of_lt lc)]
      exact (hf c hcm).1
  done := by
    intro X hP hw hK hc i pins s σ H E I hf st hg
    subst hP hw hK
    obtain ⟨hz, hTI, ⟨x0, y0, hTO⟩, e1, e2⟩ := st
    obtain ⟨xs, ys, qx, qy, hend⟩ := hg
    obtain ⟨t1, r1, p1, _⟩ := I.tuple qx
    obtain ⟨t2, r2, p2, _⟩ := I.list qy
    have hT : s.heap.IsTuple a t1.toArray := p1
    have hL : s.heap.IsList b t2.toArray := p2.isList
    have n1 : a ≠ i1 := cls_ne (let ⟨o, q1, q2, _⟩ := hT; ⟨o, q1, q2⟩) (let ⟨o, q1, q2, _⟩ := e1; ⟨o, q1, q2⟩) (by decide)
    have n2 : b ≠ i2 := cls_ne (let ⟨o, q1, q2, _⟩ := hL; ⟨o, q1, q2⟩) (let ⟨o, q1, q2, _⟩ := e2; ⟨o, q1, q2⟩) (by decide)
    have hh : X.A.in1.handled = none := I.ok.hd hc
    have l1 := r1.length
    have l2 := r2.length
    obtain ⟨m1, P1, S1, D1, g1, k1, f1⟩ := at_tuple (prog := X.prog) (w := X.w) hh e1 hT n1
    obtain ⟨m2, P2, S2, D2, g2, k2, f2⟩ := at_list (prog := X.prog) (w := X.w) hh e2 hL n2
    refine wpAny_pyNext_zipD2_end S D1 D2 hz hTI hTO g1 g2 k1 k2 ?_ fun h' tk hk => ⟨rfl, I.turnedL (t' := tk) (ch := [z, TI, TO, i1, i2]) (fun c o hb q => hk c o (fun q' => hb (by simp [q'])) (fun q' => hb (by simp [q'])) (fun q' => hb (by simp [q'])) (fun q' => hb (by simp [q'])) q) hf⟩
    rcases hend with q | q
    · exact .inl (f1 (by simp; omega)).symm
    · exact .inr (f2 (by simp; omega)).symm
  self := fun A i s Q E st h => wpAny_pyIter_zip st.1 h
/-- zip of a tuple and a list or a tuple -/
def ZipOf (K : PySem.W.Frag) (H : Hp) (a b : Addr) (ys : List V) (J : It) : Prop := (SqL K H b ys ∧ J = ItzM K a b) ∨ (SqT K H b ys ∧ J = RZ.ItzT K a b)
def iZipP (K : PySem.W.Frag) (ta : TA) : TI := fun σ H R => ta σ H fun vs H1 => ∃ a b xs ys, vs = [.ref a, .ref b] ∧ SqT K H1 a xs ∧ Sq K H1 b ys ∧ ∀ J, ZipOf K H1 a b ys J → R J H1
theorem pi_zipP {X : Cx} {e e2 : Expr} {ta : TA} {p pos tp : Pos} {elts : List Expr} {kk : Nat} (hg : Gl X "zip") (hm : X.mg "zip" = none) (ha : PA X [e, e2] ta)
    (hs : starEach [e, e2] X.env = (false, eval e X.env) :: starEach [e2] X.env := by rfl) (hpl : (backTo pos (starEach [e2] X.env)).any (·.1) = false := by rfl) :
    PI X (.Tuple elts kk tp) (.Call (.Name "zip" p) [e, e2] [] pos) (iZipP X.K ta) := by
  refine ⟨fun pins s σ H R I h => Call_ (ld_blt I hg hm PyProof.Rows.boot_zip (PyProof.Rows.callWith_type1 (thn (ha.run pos pins s σ H _ I h) fun us s1 ⟨vs, H1, I1, r1, q1⟩ => ?_) hs hpl))⟩
  obtain ⟨a, b, xs, ys, ex, hqx, hqB, q1⟩ := q1
  subst ex
  cases r1 with
  | cons r rr =>
    cases rr with
    | cons r' rr =>
      cases rr
      cases r
      cases r'
      have fresh5 : ∀ c, c ∈ [s1.heap.objs.size + 4, s1.heap.objs.size + 2, s1.heap.objs.size + 3, s1.heap.objs.size, s1.heap.objs.size + 1] → FpOk X pins H1 c := fun c hcm => by
        simp only [List.mem_cons, List.not_mem_nil, or_false] at hcm
        have lc : s1.heap.objs.size ≤ c := by
          rcases hcm with z | z | z | z | z
          · exact z ▸ Nat.le_add_right _ _
          · exact z ▸ Nat.le_add_right _ _
          · exact z ▸ Nat.le_add_right _ _
          · exact z ▸ Nat.le_refl _
          · exact z ▸ Nat.le_add_right _ _
        exact I1.fpOk lc (I1.hok.fresh lc)
      obtain ⟨its, rv, p1, _⟩ := I1.tuple hqx
      obtain ⟨o1, ho1, _⟩ := id p1
      have hT : s1.heap.IsTuple a its.toArray := p1
      rcases hqB with hqy | hqy
      · obtain ⟨its2, rv2, p2, _⟩ := I1.list hqy
        have hL : s1.heap.IsList b its2.toArray := p2.isList
        obtain ⟨o2, ho2, _⟩ := id hL
        refine zip_begins2 (begins_tuple a its.toArray) (begins_list b its2.toArray) hT hL fun h' hz hTI hTO h1 h2 hsz hk => wpAny_pyIter_zip hz ?_
        have I2 : Inv X pins σ H1 { s1 with heap := h' } := I1.kept (t' := s1.toks) hk
        exact ⟨s1.heap.objs.size + 4, [s1.heap.objs.size + 4, s1.heap.objs.size + 2, s1.heap.objs.size + 3, s1.heap.objs.size, s1.heap.objs.size + 1], _, _, H1, rfl, I2,
          turn_zipM (zip_sep2 (fp1 := [a]) (fp2 := [b]) (fun c hc => by rw [List.mem_singleton.mp hc]; exact Heap.lt_size ho1) (fun c hc => by rw [List.mem_singleton.mp hc]; exact Heap.lt_size ho2)), ⟨hz, hTI, ⟨_, _, hTO⟩, ⟨_, h1, rfl, rfl⟩, ⟨_, h2, rfl, rfl⟩⟩, fresh5, q1 _ (.inl ⟨hqy, rfl⟩)⟩
      · obtain ⟨its2, rv2, p2, _⟩ := I1.tuple hqy
        obtain ⟨o2, ho2, _⟩ := id p2
        refine RZ.call_zipT hT (show s1.heap.IsTuple b its2.toArray from p2) fun h' hz hTI hTO h1 h2 hsz hk => wpAny_pyIter_zip hz ?_
        have I2 : Inv X pins σ H1 { s1 with heap := h' } := I1.kept (t' := s1.toks) hk
        exact ⟨s1.heap.objs.size + 4, [s1.heap.objs.size + 4, s1.heap.objs.size + 2, s1.heap.objs.size + 3, s1.heap.objs.size, s1.heap.objs.size + 1], _, _, H1, rfl, I2, RZ.turn_zipT (PySem.W.ktu_apart s1.heap.objs.size a b (Heap.lt_size ho1) (Heap.lt_size ho2)), ⟨hz, hTI, ⟨_, _, hTO⟩, h1, h2⟩, fresh5, q1 _ (.inr ⟨hqy, rfl⟩)⟩
theorem walk_zipM {K : PySem.W.Frag} {a b : Addr} {xs ys : List V} (h : xs.length = ys.length) : Walk (ItzM K a b) xs.length (fun H => SqT K H a xs ∧ SqL K H b ys) (YPair (fun i => xs[i]?) (fun i => ys[i]?)) := by
  refine ⟨fun i _ hi q => ⟨xs, ys, xs[i], ys[i]'(h ▸ hi), q.1, q.2, List.getElem?_eq_getElem hi, List.getElem?_eq_getElem (h ▸ hi)⟩, fun _ q => ⟨xs, ys, q.1, q.2, .inl (Nat.le_refl _)⟩, fun i H v H' _ q y => ?_⟩
  obtain ⟨T, x, y, e1, e2, e3, e4, e5⟩ := y
  exact ⟨T, x, y, e1, e2, e3, e4 xs q.1, e5 ys q.2⟩
theorem ZipOf.walk {K : PySem.W.Frag} {H : Hp} {a b : Addr} {xs ys : List V} {J : It} (z : ZipOf K H a b ys J) (hx : SqT K H a xs) (h : xs.length = ys.length) :
    ∃ G : Hp → Prop, Walk J xs.length G (YPair (fun i => xs[i]?) (fun i => ys[i]?)) ∧ ∀ H', Same H H' → G H' := by
  rcases z with ⟨hy, rfl⟩ | ⟨hy, rfl⟩
  · exact ⟨_, walk_zipM h, fun H' s => ⟨seqT s hx, s.seq hy⟩⟩
  · exact ⟨_, walk_zipT (by omega), fun H' s => ⟨seqT s hx, seqT s hy⟩⟩
end TL
namespace TL
open PySem L2

/-! ### steps of a reading -/
local macro_rules | `(tactic| walk_at "hp") => `(tactic| first | assumption | exact upd_same | (refine (upd_ne (by first | assumption | (exact Ne.symm (by assumption)))).trans ?_; walk_at "hp"))
local macro_rules | `(tactic| walk_at "ok") => `(tactic| first | (exact Or.inr ⟨by decide, by decide⟩) | (exact ⟨by decide, by decide⟩) | (exact ⟨by decide, by decide, by decide⟩) | (show _ ≠ _; omega) | (show _ ≠ _; decide) | (exact Or.inl ⟨by omega, by omega⟩) | decide)
local macro_rules | `(tactic| walk_at "sq") => `(tactic| first | assumption | exact SqL.of (by walk_at "hp") | exact SqT.of (by walk_at "hp"))
local macro_rules | `(tactic| walk_at "ty") => `(tactic| first | refine ⟨_, _, Value.type "int", Value.type "list", false, rfl, ClsV.ty _, TyX.base (TyOf.int _), kt_int_list, ?_⟩ | refine ⟨_, _, Value.type "bool", Value.type "list", false, rfl, ClsV.ty _, TyX.base (TyOf.bl _), kt_bool_list, ?_⟩ | refine ⟨_, _, Value.type "str", Value.type "list", false, rfl, ClsV.ty _, TyX.base (TyOf.str _), kt_str_list, ?_⟩ | refine ⟨_, _, Value.type "NoneType", Value.type "list", false, rfl, ClsV.ty _, TyX.base TyOf.non, kt_NoneType_list, ?_⟩ | refine ⟨_, _, Value.type "list", Value.type "list", true, rfl, ClsV.ty _, tyx_L (by walk_at "sq"), kt_list_list, ?_⟩ | refine ⟨_, _, Value.type "tuple", Value.type "list", false, rfl, ClsV.ty _, tyx_T (by walk_at "sq"), kt_tuple_list, ?_⟩ | refine ⟨_, _, Value.type "int", Value.type "tuple", false, rfl, ClsV.ty _, TyX.base (TyOf.int _), kt_int_tuple, ?_⟩ | refine ⟨_, _, Value.type "bool", Value.type "tuple", false, rfl, ClsV.ty _, TyX.base (TyOf.bl _), kt_bool_tuple, ?_⟩ | refine ⟨_, _, Value.type "str", Value.type "tuple", false, rfl, ClsV.ty _, TyX.base (TyOf.str _), kt_str_tuple, ?_⟩ | refine ⟨_, _, Value.type "NoneType", Value.type "tuple", false, rfl, ClsV.ty _, TyX.base TyOf.non, kt_NoneType_tuple, ?_⟩ | refine ⟨_, _, Value.type "list", Value.type "tuple", false, rfl, ClsV.ty _, tyx_L (by walk_at "sq"), kt_list_tuple, ?_⟩ | refine ⟨_, _, Value.type "tuple", Value.type "tuple", true, rfl, ClsV.ty _, tyx_T (by walk_at "sq"), kt_tuple_tuple, ?_⟩ | refine ⟨_, _, Value.type "int", Value.type "bool", false, rfl, ClsV.ty _, TyX.base (TyOf.int _), kt_int_bool, ?_⟩ | refine ⟨_, _, Value.type "bool", Value.type "bool", true, rfl, ClsV.ty _, TyX.base (TyOf.bl _), kt_bool_bool, ?_⟩ | refine ⟨_, _, Value.type "str", Value.type "bool", false, rfl, ClsV.ty _, TyX.base (TyOf.str _), kt_str_bool, ?_⟩ | refine ⟨_, _, Value.type "NoneType", Value.type "bool", false, rfl, ClsV.ty _, TyX.base TyOf.non, kt_NoneType_bool, ?_⟩ | refine ⟨_, _, Value.type "list", Value.type "bool", false, rfl, ClsV.ty _, tyx_L (by walk_at "sq"), kt_list_bool, ?_⟩ | refine ⟨_, _, Value.type "tuple", Value.type "bool", false, rfl, ClsV.ty _, tyx_T (by walk_at "sq"), kt_tuple_bool, ?_⟩ | refine ⟨_, _, Value.type "int", Value.type "int", true, rfl, ClsV.ty _, TyX.base (TyOf.int _), kt_int_int, ?_⟩ | refine ⟨_, _, Value.type "bool", Value.type "int", true, rfl, ClsV.ty _, TyX.base (TyOf.bl _), kt_bool_int, ?_⟩ | refine ⟨_, _, Value.type "str", Value.type "int", false, rfl, ClsV.ty _, TyX.base (TyOf.str _), kt_str_int, ?_⟩ | refine ⟨_, _, Value.type "NoneType", Value.type "int", false, rfl, ClsV.ty _, TyX.base TyOf.non, kt_NoneType_int, ?_⟩ | refine ⟨_, _, Value.type "list", Value.type "int", false, rfl, ClsV.ty _, tyx_L (by walk_at "sq"), kt_list_int, ?_⟩ | refine ⟨_, _, Value.type "tuple", Value.type "int", false, rfl, ClsV.ty _, tyx_T (by walk_at "sq"), kt_tuple_int, ?_⟩ | refine ⟨_, _, Value.type "int", Value.type "str", false, rfl, ClsV.ty _, TyX.base (TyOf.int _), kt_int_str, ?_⟩ | refine ⟨_, _, Value.type "bool", Value.type "str", false, rfl, ClsV.ty _, TyX.base (TyOf.bl _), kt_bool_str, ?_⟩ | refine ⟨_, _, Value.type "str", Value.type "str", true, rfl, ClsV.ty _, TyX.base (TyOf.str _), kt_str_str, ?_⟩ | refine ⟨_, _, Value.type "NoneType", Value.type "str", false, rfl, ClsV.ty _, TyX.base TyOf.non, kt_NoneType_str, ?_⟩ | refine ⟨_, _, Value.type "list", Value.type "str", false, rfl, ClsV.ty _, tyx_L (by walk_at "sq"), kt_list_str, ?_⟩ | refine ⟨_, _, Value.type "tuple", Value.type "str", false, rfl, ClsV.ty _, tyx_T (by walk_at "sq"), kt_tuple_str, ?_⟩)
local macro_rules | `(tactic| walk_at "go1") => `(tactic| first
  | (refine ⟨_, rfl, ?_⟩)
  | (refine ⟨_, _, rfl, rfl, ?_⟩)
  | (refine ⟨_, _, _, _, rfl, rfl, SqL.of (by walk_at "hp"), rfl, ?_⟩)
  | (refine Or.inl ⟨_, rfl, ?_⟩)
  | (refine ⟨rfl, ?_⟩)
  | (refine ⟨_, _, rfl, .inl (SqL.of (by walk_at "hp")), ?_⟩)
  | (refine ⟨_, _, rfl, Or.inl (by assumption), ?_⟩)
  | (refine ⟨_, _, rfl, Or.inr (by assumption), ?_⟩)
  | (refine ⟨(by walk_at "ok"), ?_⟩)
  | (refine ⟨_, _, _, _, rfl, rfl, (by walk_at "hp"), rfl, ?_⟩))
local macro_rules | `(tactic| walk_at "go") => `(tactic| repeat (walk_at "go1"))
local macro_rules | `(tactic| walk_at "gt") => `(tactic| repeat (first | walk_at "go1" | walk_at "ty"))

theorem ixN_at {n i : Nat} (h : i < n) : ixN n (i : Int) = some i := by
  unfold ixN
  rw [if_pos (Int.natCast_nonneg i), if_pos (by omega), Int.toNat_natCast]
theorem cm {a b : Int} (h : a.natAbs ≤ 1000) : CMul a b := .inl ⟨by omega, by omega⟩
theorem _root_.L2.Same.upd_new {H H' : Hp} {p : Addr} {o : HO} (s : Same H H') (h : H p = none) : Same H (L2.upd H' p o) := fun c x e => by
  rw [upd_ne (ne_of_none e h)]
  exact s c x e
section
def CDivZ (_ j : Int) : Prop := j ≠ 0 ∧ j.natAbs.log2 < 9000
theorem op_fdivZ {X : Cx} : OpR X (binaryOp .FloorDiv) (rI CDivZ fun i j => .int (i.fdiv j)) := opI fun i j _ _ _ _ _ hc q => PyProof.Rows.floordiv_int hc.1 q (.inl (PyProof.noPylong_of_log2 hc.2))
variable {P : Program} {w : World} {K : PySem.W.Frag} {mg : Str → Option Value} {base : Heap}
theorem getD_map {z : List Int} {i : Nat} (h : i < z.length) : (z.map V.int)[i]? = some (.int (z.getD i 0)) := by
  rw [List.getElem?_map, List.getD_eq_getElem?_getD, List.getElem?_eq_getElem h]
  rfl
/-! ### a matrix: a list of lists of ints -/
def MatL (H : Hp) (rs : List V) (M : List (List Int)) : Prop := rs.length = M.length ∧ ∀ (i : Nat) r, rs[i]? = some r → ∃ t row, r = .ref t ∧ M[i]? = some row ∧ H t = some (.lst (row.map V.int))
structure Mat (H : Hp) (p : Addr) (M : List (List Int)) : Prop where
  ex : ∃ rs, H p = some (.lst rs) ∧ MatL H rs M
theorem MatL.same {H H' : Hp} {rs : List V} {M : List (List Int)} (h : MatL H rs M) (s : Same H H') : MatL H' rs M := ⟨h.1, fun i r hr => by
  obtain ⟨t, row, e1, e2, e3⟩ := h.2 i r hr
  exact ⟨t, row, e1, e2, s _ _ e3⟩⟩
theorem Mat.same {H H' : Hp} {p : Addr} {M : List (List Int)} (h : Mat H p M) (s : Same H H') : Mat H' p M := by
  obtain ⟨rs, h1, h2⟩ := h.ex
  exact ⟨rs, s _ _ h1, h2.same s⟩
theorem MatL.at {H : Hp} {rs : List V} {M : List (List Int)} (h : MatL H rs M) {i : Nat} (hi : i < M.length) : ∃ t, rs[i]? = some (.ref t) ∧ H t = some (.lst ((M.getD i []).map V.int)) := by
  have hi' : i < rs.length := by rw [h.1]; exact hi
  obtain ⟨t, row, e1, e2, e3⟩ := h.2 i _ (List.getElem?_eq_getElem hi')
  refine ⟨t, by rw [List.getElem?_eq_getElem hi', e1], ?_⟩
  rw [getD_of e2]
  exact e3
-- [0=rows, 1=first, 2=column, 3=at]
-- [0=matrix, 1=rows, 2=width, 3=rank, 4=sign, 5=last*, 6=column*, 7=found, 8=head*, 9=at, 10=item*, 11=row, 12=own, 13=top]
theorem ffrom_succ (M : List (List Int)) (c i n : Nat) : ffrom M c i (n + 1) = if (M.getD i []).getD c 0 ≠ 0 then some i else ffrom M c (i + 1) n := rfl
theorem ffrom_zero (M : List (List Int)) (c i : Nat) : ffrom M c i 0 = none := by cases i <;> rfl
theorem ne_zero {x : Int} (h : (!decide (V.int x = V.int 0)) = true) : x ≠ 0 := fun e => by
  subst e
  simp at h
theorem eq_zero {x : Int} (h : ¬ (!decide (V.int x = V.int 0)) = true) : ¬ x ≠ 0 := fun e => h (by simp [e])
def spFilled : Sp := fun vs H Q _ => ∃ (p : Addr) (M : List (List Int)) (r c w : Nat), vs = [.ref p, .int (r : Int), .int (c : Int)] ∧ Mat H p M ∧ RowsW w M ∧ c < w ∧ r ≤ M.length ∧ M.length ≤ 1000 ∧ w ≤ 1000 ∧ Q (match ffrom M c r (M.length - r) with | none => .non | some f => .int (f : Int)) H
theorem ok_filled (T : Tx K mg) : FnOk P w K mg base CX0 1 T.f__filled_from T.d__filled_from ["rows", "first", "column"] spFilled := by
  refine T.F__filled_from.ok sc__filled_from (fun vs H Q E h => ?_) (fun cdv A outer s H vs Q E hr h => ?_)
  · obtain ⟨p, M, r, c, w, rfl, _⟩ := h
    rfl
  obtain ⟨p, M, r, c, w, rfl, hM, hw, hc, hr1, hn, hw1, q⟩ := h
  obtain ⟨rs, h1, h2⟩ := hM.ex
  have nd := sc__filled_from.nd
  refine ⟨_, (pss_cons (ps_for PassesOwn.never rfl (pi_range2 (by rfl) T.z_range (pa_cons (pv 1) (pa_cons (pe_callB (show CallR _ _ (rLenSq K) from call_len_seq) (by rfl) T.z_len (by decide +kernel) (pa_cons (pv 0) pa_nil)) pa_nil))) (pg_name (i := 3) nd rfl (Or.inl rfl)) (pss_one (ps_if (pt_cmpR op_ne (pe_ix (show IxR _ (rIxL K) from ix_list) (pe_ix (show IxR _ (rIxL K) from ix_list) (pv 0) (pv 3) (fun _ _ => rfl)) (pv 2) (fun _ _ => rfl)) pe_int (nomark _)) (pss_one (ps_ret (pv 3))) pss_nil)))
    (pss_one (ps_ret pe_non))), ?_⟩
  have hrs : rs.length = M.length := h2.1
  refine ⟨_, rfl, _, rfl, p, rs, rfl, .inl (SqL.of h1), (r : Int), (rs.length : Int), rfl, ⟨by omega, by omega, by omega, by omega⟩, for_range (lo := (r : Int)) (n := ((rs.length : Int) - (r : Int)).toNat) (fun k σ' H' => (∃ b, σ' = [some (.ref p), some (.int (r : Int)), some (.int (c : Int)), b]) ∧ H' = H ∧ ffrom M c r (M.length - r) = ffrom M c (r + k) (M.length - r - k)) ⟨⟨_, rfl⟩, rfl, rfl⟩ ?_ ?_⟩
  · rintro k σ' H' hk ⟨⟨b, rfl⟩, rfl, e⟩
    have hk' : r + k < M.length := by omega
    obtain ⟨t, g1, g2⟩ := h2.at hk'
    have hrow := hw _ (getD_mem hk')
    have eI : (r : Int) + (k : Int) = ((r + k : Nat) : Int) := by omega
    refine ⟨_, rfl, _, rfl, _, _, _, _, rfl, rfl, SqL.of h1, at_of (j := r + k) eI g1, _, rfl, _, _, _, _, rfl, rfl, SqL.of g2, at_of (j := c) rfl (getD_map (by rw [hrow]; exact hc)), rfl, _, rfl, ?_⟩
    have e2 : M.length - r - k = (M.length - r - (k + 1)) + 1 := by omega
    rw [e2, ffrom_succ] at e
    refine ite2 (fun c1 => ?_) (fun c1 => ?_)
    · have c2 : (M.getD (r + k) []).getD c 0 ≠ 0 := ne_zero c1
      rw [if_pos c2] at e
      refine ⟨_, rfl, ?_⟩
      rw [e] at q
      rw [eI]
      exact q
    · have c2 : ¬ (M.getD (r + k) []).getD c 0 ≠ 0 := eq_zero c1
      rw [if_neg c2] at e
      exact ⟨⟨_, rfl⟩, rfl, e⟩
  · rintro σ' H' ⟨⟨b, rfl⟩, rfl, e⟩
    have e2 : M.length - r - ((rs.length : Int) - (r : Int)).toNat = 0 := by omega
    rw [e2, ffrom_zero] at e
    rw [e] at q
    exact q
theorem lc_zipLS {K : PySem.W.Frag} {a b D : Addr} {xs ys : List Int} {f : Int → Int → Int} {te : TE} {vs : List Nat} {σ : L2.St} {H0 : Hp} {Qd : Hp → Prop} {i j : Nat} (h1 : SqL K H0 a (xs.map V.int)) (h2 : SqL K H0 b (ys.map V.int)) (hl : xs.length = ys.length) (hz : xs.length ≤ 1000) (hD : H0 D = none)
    (hw : ∀ u v, wipe (((wipe σ vs).set i (some u)).set j (some v)) vs = wipe σ vs)
    (hs : ∀ (u v : Int) (H : Hp) (k : VK), Same H0 H → u ∈ xs → v ∈ ys → k (.int (f u v)) H → te (((wipe σ vs).set i (some (.int u))).set j (some (.int v))) H k)
    (hd : ∀ H, Same H0 H → H D = some (.lst ((List.zipWith f xs ys).map V.int)) → Qd H) : LcGoal (Itz K a b) (gTup K 2 (gCons (gName i) (gCons (gName j) gNil))) te vs σ H0 D Qd := by
  refine lcm (walk_zip (n := xs.length) (by rw [List.length_map, List.length_map]; omega)) ((List.zipWith f xs ys).map V.int) (by rw [List.length_map, List.length_zipWith]; omega) (by omega) hD (fun H' s => ⟨s.seq h1, s.seq h2⟩) ?_ hd
  rintro t y x H1 H2 hi hy s1 ⟨Tp, u, z, rfl, hT, rfl, hu, hz'⟩ k hk
  replace hu : (xs.map V.int)[t]? = some u := hu
  replace hz' : (ys.map V.int)[t]? = some z := hz'
  rw [List.getElem?_map] at hy hu hz'
  obtain ⟨y', hy1, rfl⟩ := Option.map_eq_some_iff.mp hy
  obtain ⟨u', hu1, rfl⟩ := Option.map_eq_some_iff.mp hu
  obtain ⟨z', hz1, rfl⟩ := Option.map_eq_some_iff.mp hz'
  rw [List.getElem?_zipWith, hu1, hz1] at hy1
  obtain rfl : f u' z' = y' := Option.some.inj hy1
  refine ⟨Tp, [.int u', .int z'], rfl, SqT.of upd_same, rfl, .int u', [.int z'], rfl, .int z', [], rfl, rfl, hw _ _, ?_⟩
  exact hs u' z' _ k (s1.trans (Same.new hT)) (List.mem_of_getElem? hu1) (List.mem_of_getElem? hz1) (hk _ (Same.new hT))
theorem lcsD {J : It} {n : Nat} {G : Hp → Prop} {Y : Nat → Hp → V → Hp → Prop} {D : Addr} {g : TG} {te : TE} {vs : List Nat} {σ : L2.St} {H0 : Hp} {Qd : Hp → Prop} (w : Walk J n G Y) (P : Nat → V → Hp → Prop) (hP : ∀ i y H H', Same H H' → P i y H → P i y H') (hPD : ∀ i y H zs zs', H D = some (.lst zs) → P i y H → P i y (upd H D (.lst zs'))) (hz : n ≤ 100000) (hD : H0 D = none) (hG : ∀ H, Same H0 H → G H)
    (hs : ∀ i x H H', i < n → Same H0 H → (∃ zs, H D = some (.lst zs)) → Y i H x H' → ∀ k : VK, (∀ y H4, Same H H4 → P i y H4 → k y H4) → g x (wipe σ vs) H' fun σ2 H2 => wipe σ2 vs = wipe σ vs ∧ te σ2 H2 k)
    (hd : ∀ (ys : List V) H, ys.length = n → (∀ (i : Nat) y, ys[i]? = some y → P i y H) → Same H0 H → H D = some (.lst ys) → Qd H) : LcGoal J g te vs σ H0 D Qd := by
  refine lc_it w (fun i H => Same H0 H ∧ ∃ ys : List V, H D = some (.lst ys) ∧ ys.length = i ∧ ∀ (t : Nat) y, ys[t]? = some y → P t y H) ⟨Same.new hD, [], upd_same, rfl, fun t y h => by cases h⟩ (fun i H _ h => hG H h.1) (fun i x H H' hi h hy => ?_) (fun H h => ?_)
  · obtain ⟨h1, ys, h3, h4, h5⟩ := h
    refine hs i x H H' hi h1 ⟨ys, h3⟩ hy _ fun y H4 s4 p => ⟨ys, s4 _ _ h3, ?_, fun c u q => ?_, ys ++ [y], upd_same, ?_, ?_⟩
    · exact Nat.lt_of_le_of_lt (by omega : ys.length ≤ 100000) (by decide)
    · rw [upd_ne (ne_of_none q hD)]
      exact s4 _ _ (h1 _ _ q)
    · rw [List.length_append, h4]
      rfl
    · intro t z hz
      refine hPD t z H4 ys _ (s4 _ _ h3) ?_
      rcases Nat.lt_or_ge t ys.length with q | q
      · rw [List.getElem?_append_left q] at hz
        exact hP _ _ _ _ s4 (h5 t z hz)
      · rw [List.getElem?_append_right q] at hz
        have e : t - ys.length = 0 := by
          have := (List.getElem?_eq_some_iff.mp hz).1
          simp at this
          omega
        rw [e] at hz
        obtain rfl : y = z := Option.some.inj hz
        have : t = i := by omega
        rw [this]
        exact p
  · obtain ⟨h1, ys, h3, h4, h5⟩ := h
    exact hd ys H h4 h5 h1 h3
theorem lcsN {J : It} {n : Nat} {G : Hp → Prop} {Y : Nat → Hp → V → Hp → Prop} {D : Addr} {g : TG} {te : TE} {vs : List Nat} {σ : L2.St} {H0 : Hp} {Qd : Hp → Prop} (w : Walk J n G Y) (P : Nat → V → Hp → Prop) (hP : ∀ i y H H', Same H H' → P i y H → P i y H') (hPD : ∀ i y H zs zs', H D = some (.lst zs) → P i y H → P i y (upd H D (.lst zs'))) (hal : ∀ i y H, P i y H → ∃ a o, y = V.ref a ∧ H a = some o) (hz : n ≤ 100000) (hD : H0 D = none) (hG : ∀ H, Same H0 H → G H)
    (hs : ∀ i x H H', i < n → Same H0 H → (∃ zs, H D = some (.lst zs)) → Y i H x H' → ∀ k : VK, (∀ y H4, Same H H4 → P i y H4 → (∃ a, y = V.ref a ∧ H a = none) → k y H4) → g x (wipe σ vs) H' fun σ2 H2 => wipe σ2 vs = wipe σ vs ∧ te σ2 H2 k)
    (hd : ∀ (ys : List V) H, ys.length = n → ys.Nodup → (∀ (i : Nat) y, ys[i]? = some y → P i y H) → Same H0 H → H D = some (.lst ys) → Qd H) : LcGoal J g te vs σ H0 D Qd := by
  refine lc_it w (fun i H => Same H0 H ∧ ∃ ys : List V, H D = some (.lst ys) ∧ ys.length = i ∧ ys.Nodup ∧ ∀ (t : Nat) y, ys[t]? = some y → P t y H) ⟨Same.new hD, [], upd_same, rfl, List.nodup_nil, fun t y h => by cases h⟩ (fun i H _ h => hG H h.1) (fun i x H H' hi h hy => ?_) (fun H h => ?_)
  · obtain ⟨h1, ys, h3, h4, h6, h5⟩ := h
    refine hs i x H H' hi h1 ⟨ys, h3⟩ hy _ fun y H4 s4 p ⟨fa, fe, fn⟩ => ⟨ys, s4 _ _ h3, ?_, fun c u q => ?_, ys ++ [y], upd_same, ?_, ?_, ?_⟩
    · exact Nat.lt_of_le_of_lt (by omega : ys.length ≤ 100000) (by decide)
    · rw [upd_ne (ne_of_none q hD)]
      exact s4 _ _ (h1 _ _ q)
    · rw [List.length_append, h4]
      rfl
    · refine List.nodup_append.mpr ⟨h6, by simp, fun a ha b hb e => ?_⟩
      rw [List.mem_singleton.mp hb] at e
      obtain ⟨j, hj⟩ := List.mem_iff_getElem?.mp ha
      obtain ⟨a2, o, e2, e3⟩ := hal j a H (h5 j a hj)
      rw [e, fe] at e2
      cases e2
      rw [fn] at e3
      cases e3
    · intro t z hz
      refine hPD t z H4 ys _ (s4 _ _ h3) ?_
      rcases Nat.lt_or_ge t ys.length with q | q
      · rw [List.getElem?_append_left q] at hz
        exact hP _ _ _ _ s4 (h5 t z hz)
      · rw [List.getElem?_append_right q] at hz
        have e : t - ys.length = 0 := by
          have := (List.getElem?_eq_some_iff.mp hz).1
          simp at this
          omega
        rw [e] at hz
        obtain rfl : y = z := Option.some.inj hz
        have : t = i := by omega
        rw [this]
        exact p
  · obtain ⟨h1, ys, h3, h4, h6, h5⟩ := h
    exact hd ys H h4 h6 h5 h1 h3
/-- a row changed in place -/
theorem MatL.put {H : Hp} {rs : List V} {M : List (List Int)} (h : MatL H rs M) (hn : rs.Nodup) {k : Nat} {t : Addr} {row : List Int} (hk : rs[k]? = some (.ref t)) : MatL (L2.upd H t (.lst (row.map V.int))) rs (M.set k row) := by
  refine ⟨by simp [h.1], fun i r hr => ?_⟩
  obtain ⟨t', row', e1, e2, e3⟩ := h.2 i r hr
  by_cases e : k = i
  · subst e
    rw [hk] at hr
    cases hr
    cases e1
    exact ⟨t, row, rfl, by rw [List.getElem?_set_self (List.getElem?_eq_some_iff.mp e2).1], upd_same⟩
  · have ht : t' ≠ t := fun z => by
      subst z
      rw [e1] at hr
      exact e ((List.getElem?_inj (List.getElem?_eq_some_iff.mp hk).1 hn).mp (hk.trans hr.symm))
    exact ⟨t', row', e1, by rw [List.getElem?_set_ne e]; exact e2, by rw [upd_ne ht]; exact e3⟩
theorem getD_lt {b c : Nat} {xs : List Int} (h : ∀ x ∈ xs, x.natAbs < 2 ^ b) : (xs.getD c 0).natAbs < 2 ^ b := by
  rw [List.getD_eq_getElem?_getD]
  rcases Nat.lt_or_ge c xs.length with z | z
  · rw [List.getElem?_eq_getElem z]
    exact h _ (List.getElem_mem z)
  · rw [List.getElem?_eq_none z]
    exact Nat.pow_pos (by decide)
theorem MatL.set {H : Hp} {rs : List V} {M : List (List Int)} (h : MatL H rs M) {k : Nat} {t : Addr} {row : List Int} (ht : H t = some (.lst (row.map V.int))) : MatL H (rs.set k (.ref t)) (M.set k row) := by
  refine ⟨by simp [h.1], fun i r hr => ?_⟩
  rw [List.getElem?_set] at hr
  by_cases e : k = i
  · subst e
    rw [if_pos rfl] at hr
    split at hr
    · rename_i hk
      cases hr
      exact ⟨t, row, rfl, by rw [List.getElem?_set_self (by rw [← h.1]; exact hk)], ht⟩
    · cases hr
  · rw [if_neg e] at hr
    obtain ⟨t', row', e1, e2, e3⟩ := h.2 i r hr
    exact ⟨t', row', e1, by rw [List.getElem?_set_ne e]; exact e2, e3⟩
/-- a list of refs is no row -/
theorem MatL.ne {H : Hp} {rs0 : List V} {M0 : List (List Int)} {D t : Addr} {row : List Int} (h0 : MatL H rs0 M0) (hD : H D = some (.lst rs0)) (hn : 0 < M0.length) (ht : H t = some (.lst (row.map V.int))) : t ≠ D := fun e => by
  subst e
  rw [hD] at ht
  have e2 : rs0 = row.map V.int := by
    injection ht with ht
    injection ht
  have hn' : 0 < rs0.length := by rw [h0.1]; exact hn
  obtain ⟨t', row', e3, _⟩ := h0.2 0 _ (List.getElem?_eq_getElem hn')
  have e4 : (row.map V.int)[0]? = some (V.ref t') := by rw [← e2, List.getElem?_eq_getElem hn', e3]
  rw [List.getElem?_map] at e4
  obtain ⟨z, _, e5⟩ := Option.map_eq_some_iff.mp e4
  cases e5
theorem MatL.upd {H : Hp} {rs rs0 zs : List V} {M M0 : List (List Int)} {D : Addr} (h : MatL H rs M) (h0 : MatL H rs0 M0) (hD : H D = some (.lst rs0)) (hn : 0 < M0.length) : MatL (L2.upd H D (.lst zs)) rs M := ⟨h.1, fun i r hr => by
  obtain ⟨t, row, e1, e2, e3⟩ := h.2 i r hr
  exact ⟨t, row, e1, e2, by rw [upd_ne (h0.ne hD hn e3)]; exact e3⟩⟩
def spCleared : Sp := fun vs H Q _ => ∃ (p : Addr) (M : List (List Int)) (E w : Nat), vs = [.ref p] ∧ Mat H p M ∧ RowsW w M ∧ Ent E M ∧ 0 < E ∧ bk E (min w M.length) < 9000 ∧ M.length ≤ 1000 ∧ w ≤ 1000 ∧ ∀ t H', Same H H' → H' t = some (.tup [.int (clrRank M : Int), .int (clrDet M)]) → Q (.ref t) H'
theorem ok_cleared (T : Tx K mg) : FnOk P w K mg base CX0 2 T.f__cleared T.d__cleared ["matrix"] spCleared := by
  have G__filled_from := ok_filled (P := P) (w := w) (base := base) T
  refine T.F__cleared.ok sc__cleared (fun vs H Q E h => ?_) (fun cdv A outer s H vs Q E hr h => ?_)
  · obtain ⟨p, M, r, c, rfl, _⟩ := h
    rfl
  obtain ⟨p, M, B, w, rfl, hM, hw, hE, hB0, hB, hn, hw1, q⟩ := h
  obtain ⟨rs, h1, h2⟩ := hM.ex
  have nd := sc__cleared.nd
  refine ⟨_, (pss_cons (ps_setLc (i := 1) (own := [("row", 11)]) (g := (gName 11)) rfl nd rfl rfl (sw_true rfl rfl rfl (by decide +kernel)) (show PI _ _ _ (iList K _) from pi_list (pv 0)) (blkOk_by (own := [("row", 11)]) (N := N__cleared) (sc := defScope s__cleared) (by decide +kernel)) (fun _ _ _ _ _ => by exact (pg_name (i := 11) nd rfl (Or.inl rfl))) (fun _ _ _ _ _ => by exact pts_nil) (fun _ _ _ _ _ => by exact (pe_callTy (show CallR _ _ (rListOf K) from call_list_of) (by rfl) T.z_list (by decide +kernel) (pa_cons (pv 11) pa_nil))))
    (pss_cons (ps_set (i := 2) nd rfl (Or.inl rfl) (pe_ifExp (pt_truth (pv 1) (by intro _; rfl)) (pe_callB (show CallR _ _ (rLenSq K) from call_len_seq) (by rfl) T.z_len (by decide +kernel) (pa_cons (pe_ix (show IxR _ (rIxL K) from ix_list) (pv 1) pe_int (fun _ _ => rfl)) pa_nil)) pe_int))
    (pss_cons (ps_set (i := 3) nd rfl (Or.inl rfl) pe_int)
    (pss_cons (ps_set (i := 4) nd rfl (Or.inl rfl) pe_int)
    (pss_cons (ps_set (i := 5) nd rfl (Or.inr rfl) pe_int)
    (pss_cons (ps_for PassesOwn.never rfl (pi_range1 (by rfl) T.z_range (pa_cons (pv 2) pa_nil)) (pg_name (i := 6) nd rfl (Or.inr rfl)) (pss_cons (ps_set (i := 7) nd rfl (Or.inl rfl) (pe_call G__filled_from hr (by rfl) T.m__filled_from T.F__filled_from.kp T.b__filled_from .nil pass0 (pa_cons (pv 1) (pa_cons (pv 3) (pa_cons (pv 6) pa_nil)))))
    (pss_cons (ps_if (pt_cmpR op_isN (pv 7) pe_non (nomark _)) (pss_one ps_continue) pss_nil)
    (pss_cut (ps_if (pt_cmpR op_ne (pv 7) (pv 3) (nomark _)) (pss_cons (ps_asg (pe_tup (pa_cons (pe_ix (show IxR _ (rIxL K) from ix_list) (pv 1) (pv 7) (fun _ _ => rfl)) (pa_cons (pe_ix (show IxR _ (rIxL K) from ix_list) (pv 1) (pv 3) (fun _ _ => rfl)) pa_nil))) (pg_tup rfl (pgs_cons (pg_sub (pv 1) (pv 3) set_list) (pgs_cons (pg_sub (pv 1) (pv 7) set_list) pgs_nil))))
    (pss_one (ps_set (i := 4) nd rfl (Or.inl rfl) (pe_un un_neg (pv 4))))) pss_nil)
    (pss_cons (ps_set (i := 8) nd rfl (Or.inr rfl) (pe_ix (show IxR _ (rIxL K) from ix_list) (pv 1) (pv 3) (fun _ _ => rfl)))
    (pss_cons (ps_for PassesOwn.never rfl (pi_range2 (by rfl) T.z_range (pa_cons (pe_op op_add (pv 3) pe_int) (pa_cons (pe_callB (show CallR _ _ (rLenSq K) from call_len_seq) (by rfl) T.z_len (by decide +kernel) (pa_cons (pv 1) pa_nil)) pa_nil))) (pg_name (i := 9) nd rfl (Or.inl rfl)) (pss_cons (ps_set (i := 10) nd rfl (Or.inr rfl) (pe_ix (show IxR _ (rIxL K) from ix_list) (pe_ix (show IxR _ (rIxL K) from ix_list) (pv 1) (pv 9) (fun _ _ => rfl)) (pv 6) (fun _ _ => rfl)))
    (pss_one (ps_asg (pe_lc (own := [("own", 12), ("top", 13)]) (g := (gTup K 2 (gCons (gName 12) (gCons (gName 13) gNil)))) rfl nd (show PI _ _ _ (RZ.iZipA K _) from RZ.pi_zipA (by rfl) T.z_zip (pa_cons (pe_ix (show IxR _ (rIxL K) from ix_list) (pv 1) (pv 9) (fun _ _ => rfl)) (pa_cons (pv 8) pa_nil))) (blkOk_by (own := [("own", 12), ("top", 13)]) (N := N__cleared) (sc := defScope s__cleared) (by decide +kernel)) (fun _ _ _ _ _ => by exact (pg_tup rfl (pgs_cons (pg_name (i := 12) nd rfl (Or.inl rfl)) (pgs_cons (pg_name (i := 13) nd rfl (Or.inl rfl)) pgs_nil)))) (fun _ _ _ _ _ => by exact pts_nil) (fun _ _ _ _ _ => by exact (pe_op op_fdivZ (pe_op op_sub (pe_op op_mulW (pe_ix (show IxR _ (rIxL K) from ix_list) (pv 8) (pv 6) (fun _ _ => rfl)) (pv 12)) (pe_op op_mulW (pv 10) (pv 13))) (pv 5)))) (pg_sub (pv 1) (pv 9) set_list)))))
    (pss_cons (ps_set (i := 5) nd rfl (Or.inr rfl) (pe_ix (show IxR _ (rIxL K) from ix_list) (pv 8) (pv 6) (fun _ _ => rfl)))
    (pss_one (ps_aug (i := 3) nd rfl (Or.inl rfl) pe_int ip_add)))))))))
    (pss_one (ps_ret (pe_tup (pa_cons (pv 3) (pa_cons (pe_op op_mulW (pv 4) (pv 5)) pa_nil))))))))))), ?_⟩
  refine ⟨_, rfl, p, rfl, ⟨rs, SqL.of h1⟩, fun D hD => ?_⟩
  refine lcsD (walk_list (K := K) (a := p) (xs := rs)) (fun i y H => ∃ t row, y = V.ref t ∧ t ≠ D ∧ M[i]? = some row ∧ H t = some (.lst (row.map V.int))) (fun i y H1 H2 s1 ⟨t, row, a1, a0, a2, a3⟩ => ⟨t, row, a1, a0, a2, s1 _ _ a3⟩)
    (fun i y H1 zs zs' hz' ⟨t, row, a1, a0, a2, a3⟩ => ⟨t, row, a1, a0, a2, by rw [upd_ne a0]; exact a3⟩) (by rw [h2.1]; omega) hD (fun H1 s1 => SqL.of (s1 _ _ h1)) ?_ fun ys H1 hl hys s1 hD1 => ?_
  · rintro i x H1 H2 hi s1 ⟨zs, hz⟩ ⟨rfl, hx⟩ k hk
    obtain ⟨t, row, rfl, e2, e3⟩ := h2.2 i x hx
    refine ⟨rfl, ?_⟩
    exact ⟨_, rfl, t, row.map V.int, rfl, .inl (SqL.of (s1 _ _ e3)), fun p2 hp2 => hk _ _ (Same.new hp2) ⟨p2, row, rfl, (ne_of_none hz hp2).symm, e2, upd_same⟩⟩
  have m1 : MatL H1 ys M := ⟨by rw [hl, h2.1], fun i r hr => by
    obtain ⟨t, row, a1, a0, a2, a3⟩ := hys i r hr
    exact ⟨t, row, a1, a2, a3⟩⟩
  clear hys hl
  -- the width
  have wid : ∀ Qw : VK, Qw (.int (widthOf M : Int)) H1 → (tIf
      (fun σ H_1 Q => tVar 1 σ H_1 fun x H' => ∃ k, TruV K x H' k ∧ Q k H')
      (tCB (rLenSq K) (tCons (tOp (rIxL K) (tVar 1) (tC (V.int 0))) tNil)) (tC (V.int 0))) ([some (.ref p), some (.ref D), none, none, none, none, none, none, none, none, none, none, none, none]) H1 Qw := fun Qw k => by
    refine ⟨_, rfl, !ys.isEmpty, .inl ⟨ys, SqL.of hD1, rfl⟩, ?_⟩
    refine ite2 (fun c => ?_) (fun c => ?_)
    · have h0 : 0 < M.length := by
        rw [← m1.1]
        cases ys with
        | nil => cases c
        | cons y ys => exact Nat.succ_pos _
      obtain ⟨t, g1, g2⟩ := m1.at h0
      refine ⟨_, rfl, _, _, _, _, rfl, rfl, SqL.of hD1, at_of (j := 0) rfl g1, t, _, rfl, .inl (SqL.of g2), ?_⟩
      rw [List.length_map]
      exact k
    · have h0 : M = [] := by
        have : ys = [] := by
          cases ys with
          | nil => rfl
          | cons y ys => exact absurd rfl c
        have := m1.1
        subst ys
        exact List.eq_nil_of_length_eq_zero this.symm
      subst h0
      exact k
  refine wid _ ?_
  clear wid
  have hww : widthOf M ≤ w ∧ RowsW (widthOf M) M := by
    unfold widthOf
    cases M with
    | nil => exact ⟨Nat.zero_le _, fun row hr => by cases hr⟩
    | cons x xs =>
      have e : x.length = w := hw x (List.mem_cons_self ..)
      exact ⟨Nat.le_of_eq e, fun row hr => (hw row hr).trans e.symm⟩
  have CI := clrI_n hB0 hE hww.2
  have rk : ∀ i, i ≤ widthOf M → (clrN M i).2.1 ≤ min w M.length := fun i hi => by
    have a1 := rank_le M i
    have a2 := (CI i).le
    omega
  have bkk : ∀ i, i ≤ widthOf M → bk B (clrN M i).2.1 < 9000 := fun i hi => Nat.lt_of_le_of_lt (bk_le (rk i hi)) hB
  generalize hW : widthOf M = W at *
  refine ⟨_, rfl, _, rfl, by omega, by omega, for_range (lo := 0) (n := ((W : Nat) : Int).toNat) (fun i σ' H' => (∃ a6 a7 a8 a9 a10 : Option V, σ' = [some (.ref p), some (.ref D), some (.int (W : Int)), some (.int ((clrN M i).2.1 : Int)), some (.int (clrN M i).2.2.1), some (.int (clrN M i).2.2.2), a6, a7, a8, a9, a10, none, none, none]) ∧ Same H H' ∧ Mat H' D (clrN M i).1) ⟨⟨_, _, _, _, _, rfl⟩, s1, ys, hD1, m1⟩ ?_ ?_⟩
  · rintro i σ' H2 hi ⟨⟨a6, a7, a8, a9, a10, rfl⟩, s2, hM2⟩
    have I := CI i
    have e0 : (0 : Int) + (i : Int) = (i : Int) := by omega
    have bi := bkk i (by omega)
    have est : clrN M (i + 1) = stepC i (clrN M i) := rfl
    have hIl := I.len
    have hIr := I.rows
    have hIle := I.le
    have hInz := I.nz
    have hIsm := I.sm
    have hIe := I.ent
    unfold stepC at est
    generalize hcl : clrN M i = cs at *
    obtain ⟨Mi, r, sg, last⟩ := cs
    dsimp only at *
    rw [e0]
    refine ⟨_, rfl, _, rfl, _, rfl, D, Mi, r, i, W, rfl, hM2, hIr, by omega, by omega, by omega, by omega, ?_⟩
    cases hf : ffrom Mi i r (Mi.length - r) with
    | none =>
      rw [hf] at est
      dsimp only at est ⊢
      refine ⟨_, rfl, rfl, _, rfl, ?_⟩
      refine ite_dec rfl ?_
      rw [est]
      exact ⟨⟨_, _, _, _, _, rfl⟩, s2, hM2⟩
    | some f =>
      rw [hf] at est
      dsimp only at est ⊢
      obtain ⟨f1, f2, f3⟩ := ffrom_some hf
      have hfl : f < Mi.length := by omega
      have hrl : r < Mi.length := by omega
      refine ⟨_, rfl, rfl, _, rfl, ?_⟩
      refine ite_dec' (fun z => by cases z) ?_
      obtain ⟨rsi, g1, g2⟩ := hM2.ex
      obtain ⟨tf, gf, gf2⟩ := g2.at hfl
      obtain ⟨tr, gr, gr2⟩ := g2.at hrl
      have hn0 : 0 < Mi.length := by omega
      have hp := piv_at hrl hfl
      have hd : (pivM Mi r f).getD r [] = Mi.getD f [] := getD_of hp
      have hmem := getD_mem hfl
      have hpl : (pivM Mi r f).length = Mi.length := len_piv ..
      have hpe : Ent (bk B r) (pivM Mi r f) := fun row hr => hIe row (piv_mem hrl hfl row hr)
      have hpw : RowsW W (pivM Mi r f) := fun row hr => hIr row (piv_mem hrl hfl row hr)
      have hhe := hIe _ hmem
      have hhw := hIr _ hmem
      refine ⟨fun σ' H' => σ' = [some (.ref p), some (.ref D), some (.int (W : Int)), some (.int (r : Int)), some (.int (if f = r then sg else -sg)), some (.int last), some (.int (i : Int)), some (.int (f : Int)), a8, a9, a10, none, none, none] ∧ Same H H' ∧ Mat H' D (pivM Mi r f), ?_, ?_⟩
      · refine ⟨_, rfl, _, rfl, rfl, _, rfl, ?_⟩
        refine ite2 (fun c => ?_) (fun c => ?_)
        · have c' : f ≠ r := fun z => by
            subst z
            simp at c
          refine ⟨_, rfl, _, rfl, _, _, _, _, rfl, rfl, SqL.of g1, at_of (j := f) rfl gf, _, rfl, _, rfl, _, _, _, _, rfl, rfl, SqL.of g1, at_of (j := r) rfl gr, (by show 2 ≤ sizeLine; decide), fun t ht => ?_⟩
          have st := Same.new (o := .tup [.ref tf, .ref tr]) ht
          have g1' := st _ _ g1
          have g2' := g2.same st
          refine ⟨t, _, rfl, SqT.of upd_same, rfl, _, _, rfl, ?_⟩
          refine ⟨_, rfl, _, rfl, D, _, _, r, rfl, rfl, g1', ixN_at (by rw [g2.1]; exact hrl), _, _, rfl, ?_⟩
          refine ⟨_, rfl, _, rfl, D, _, _, f, rfl, rfl, upd_same, ixN_at (by rw [List.length_set, g2.1]; exact hfl), rfl, ?_⟩
          have gf' := st _ _ gf2
          have gr' := st _ _ gr2
          have x1 := g2'.set (k := r) gf'
          have y1 := x1.set (k := f) gr'
          refine ⟨_, rfl, _, rfl, ?_⟩
          refine ⟨by rw [if_neg c']; rfl, ((s2.trans st).upd_new hD).upd_new hD, _, upd_same, ?_⟩
          unfold pivM
          rw [if_neg c']
          exact (y1.upd g2' g1' hn0).upd (x1.upd g2' g1' hn0) upd_same (by rw [List.length_set]; exact hn0)
        · have c' : f = r := Decidable.byContradiction fun z => c (by simp; omega)
          subst c'
          rw [if_pos rfl]
          refine ⟨rfl, s2, ?_⟩
          unfold pivM
          rw [if_pos rfl]
          exact hM2
      · clear gf gf2 gr gr2 g1 g2 rsi tf tr hM2
        rintro σ' H3 ⟨rfl, s3, hM3⟩
        obtain ⟨rsi, g1, g2⟩ := hM3.ex
        have hrl' : r < (pivM Mi r f).length := by omega
        obtain ⟨th, gh, gh2⟩ := g2.at hrl'
        rw [hd] at gh2 est
        refine ⟨_, rfl, _, rfl, _, _, _, _, rfl, rfl, SqL.of g1, at_of (j := r) rfl gh, ?_⟩
        have hrs : rsi.length = Mi.length := g2.1.trans hpl
        have thD : th ≠ D := g2.ne g1 (by omega) gh2
        generalize hhd : Mi.getD f [] = head at *
        have hpiv : (head.getD i 0).natAbs < 2 ^ bk B r := getD_lt hhe
        have iI : (i : Int) < (W : Int) := by omega
        refine ⟨_, rfl, _, _, rfl, rfl, _, rfl, D, rsi, rfl, .inl (SqL.of g1), (r : Int) + 1, (rsi.length : Int), rfl, ⟨by omega, by omega, by omega, by omega⟩, for_range (lo := (r : Int) + 1) (n := ((rsi.length : Int) - ((r : Int) + 1)).toNat) (fun k σ' H' => (∃ a9 a10 : Option V, σ' = [some (.ref p), some (.ref D), some (.int (W : Int)), some (.int (r : Int)), some (.int (if f = r then sg else -sg)), some (.int last), some (.int (i : Int)), some (.int (f : Int)), some (.ref th), a9, a10, none, none, none]) ∧ Same H H' ∧ Mat H' D (redTo last head i r (r + 1 + k) (pivM Mi r f)) ∧ H' th = some (.lst (head.map V.int))) ⟨⟨_, _, rfl⟩, s3, by rw [Nat.add_zero, red_start]; exact ⟨rsi, g1, g2⟩, gh2⟩ ?_ ?_⟩
        · clear g1 g2 gh gh2 hM3 s3 s2
          rintro k σ' H4 hk ⟨⟨b9, b10, rfl⟩, s4, hM4, gth⟩
          obtain ⟨rs4, g1, g2⟩ := hM4.ex
          have hk' : r + 1 + k < (pivM Mi r f).length := by omega
          have hk4 : r + 1 + k < (redTo last head i r (r + 1 + k) (pivM Mi r f)).length := by rw [len_red]; exact hk'
          obtain ⟨tk, gk, gk2⟩ := g2.at hk4
          have hrowk : (redTo last head i r (r + 1 + k) (pivM Mi r f)).getD (r + 1 + k) [] = (pivM Mi r f).getD (r + 1 + k) [] := by
            rw [List.getD_eq_getElem?_getD, red_keep (.inr (Nat.le_refl _)), List.getD_eq_getElem?_getD]
          rw [hrowk] at gk2
          have hkm := getD_mem hk'
          have hkw := hpw _ hkm
          have hke := hpe _ hkm
          have hks := getD_some hk'
          generalize (pivM Mi r f).getD (r + 1 + k) [] = row at *
          have eI : (r : Int) + 1 + (k : Int) = ((r + 1 + k : Nat) : Int) := by omega
          rw [eI]
          refine ⟨_, rfl, _, rfl, _, _, _, _, rfl, rfl, SqL.of g1, at_of (j := r + 1 + k) rfl gk, _, rfl, _, _, _, _, rfl, rfl, SqL.of gk2, at_of (j := i) rfl (getD_map (by omega)), ?_⟩
          refine ⟨_, rfl, _, rfl, _, _, _, _, rfl, rfl, SqL.of g1, at_of (j := r + 1 + k) rfl gk, _, rfl, tk, th, _, _, rfl, .inl ⟨SqL.of gk2, SqL.of gth, fun D2 hD2 => ?_⟩⟩
          refine lc_zipLS (f := fun own top => (head.getD i 0 * own - row.getD i 0 * top).fdiv last) (SqL.of gk2) (SqL.of gth) (by rw [hkw, hhw]) (by omega) hD2 (fun u v => rfl) (fun u v H5 kk s5 hu hv hkk => ?_) fun H5 s5 hD5 => ?_
          · have ur := hke u hu
            have vr := hhe v hv
            have rr : (row.getD i 0).natAbs < 2 ^ bk B r := getD_lt hke
            have b0 : 0 < bk B r := bk_pos B hB0 r
            have b2 : bk B r + bk B r ≤ 1000000 := by clear hk hke; omega
            have i1 : i < head.length := by omega
            refine ⟨_, rfl, _, rfl, _, _, _, _, rfl, rfl, SqL.of (s5 _ _ gth), at_of (j := i) rfl (getD_map i1), _, rfl, _, _, rfl, rfl, wide_mul hpiv ur b0 b0 b2, ?_⟩
            refine ⟨_, rfl, _, rfl, _, _, rfl, rfl, wide_mul rr vr b0 b0 b2, _, _, rfl, rfl, _, rfl, _, _, rfl, rfl, ⟨hInz, ?_⟩, hkk⟩
            exact Nat.lt_of_lt_of_le ((Nat.log2_lt (by simpa using hInz)).mpr hIsm) (Nat.le_of_lt bi)
          · refine ⟨_, rfl, _, rfl, D, _, _, r + 1 + k, rfl, rfl, s5 _ _ g1, ixN_at (by rw [g2.1]; exact hk4), ?_⟩
            refine ⟨⟨_, _, rfl⟩, (s4.trans s5).upd_new hD, ⟨_, upd_same, ?_⟩, by rw [upd_ne thD]; exact s5 _ _ gth⟩
            rw [show r + 1 + (k + 1) = (r + 1 + k) + 1 from rfl, red_step (by omega) hks]
            exact ((g2.same s5).set (k := r + 1 + k) hD5).upd (g2.same s5) (s5 _ _ g1) (by omega)
        · rintro σ' H4 ⟨⟨b9, b10, rfl⟩, s4, hM4, gth⟩
          refine ⟨_, rfl, _, rfl, _, _, _, _, rfl, rfl, SqL.of gth, at_of (j := i) rfl (getD_map (by omega)), ?_⟩
          have er : r + 1 + ((rsi.length : Int) - ((r : Int) + 1)).toNat = (pivM Mi r f).length := by omega
          rw [er] at hM4
          refine ⟨_, rfl, _, _, rfl, rfl, ?_⟩
          rw [est]
          exact ⟨⟨_, _, _, _, _, rfl⟩, s4, hM4⟩
  · rintro σ' H2 ⟨⟨a6, a7, a8, a9, a10, rfl⟩, s2, hM2⟩
    have I := CI W
    have sg1 := sign_one M W
    rw [show ((W : Nat) : Int).toNat = W from Int.toNat_natCast W]
    have bW := bkk W (Nat.le_refl _)
    have b0 : 0 < bk B (clrN M W).2.1 := bk_pos B hB0 _
    refine ⟨_, rfl, _, rfl, _, rfl, _, _, rfl, rfl, wide_mul (a := 1) (b := bk B (clrN M W).2.1) (by omega) I.sm (by decide) b0 (by omega), (by show 2 ≤ sizeLine; decide), fun t ht => q t _ (s2.trans (Same.new ht)) ?_⟩
    rw [upd_same, clrRank, clrDet, hW]
def spRank : Sp := fun vs H Q _ => ∃ (p : Addr) (M : List (List Int)) (E w : Nat), vs = [.ref p] ∧ Mat H p M ∧ RowsW w M ∧ Ent E M ∧ 0 < E ∧ bk E (min w M.length) < 9000 ∧ M.length ≤ 1000 ∧ w ≤ 1000 ∧ ∀ H', Same H H' → Q (.int (clrRank M : Int)) H'
theorem ok_rank (T : Tx K mg) : FnOk P w K mg base CX0 3 T.f_rank_of T.d_rank_of ["matrix"] spRank := by
  have G__cleared := ok_cleared (P := P) (w := w) (base := base) T
  refine T.F_rank_of.ok sc_rank_of (fun vs H Q E h => ?_) (fun cdv A outer s H vs Q E hr h => ?_)
  · obtain ⟨p, M, r, c, rfl, _⟩ := h
    rfl
  obtain ⟨p, M, B, w, rfl, hM, hw, hE, hB0, hB, hn, hw1, q⟩ := h
  have nd := sc_rank_of.nd
  refine ⟨_, (pss_cons (ps_asg (pe_call G__cleared hr (by rfl) T.m__cleared T.F__cleared.kp T.b__cleared .nil pass0 (pa_cons (pv 0) pa_nil)) (pg_tup rfl (pgs_cons (pg_name (i := 1) nd rfl (Or.inl rfl)) (pgs_cons (pg_name (i := 2) nd rfl (Or.inl rfl)) pgs_nil))))
    (pss_one (ps_ret (pv 1)))), ?_⟩
  refine ⟨_, rfl, p, M, B, w, rfl, hM, hw, hE, hB0, hB, hn, hw1, fun t H1 s1 ht => ?_⟩
  exact ⟨t, _, rfl, SqT.of ht, rfl, _, _, rfl, _, _, rfl, rfl, _, rfl, q H1 s1⟩
end
end TL
namespace TL
open PySem PySem.Spec PyProof.Rows L2
/-! ### a walk over a list or a tuple, whichever it is -/
def SeqOf (K : PySem.W.Frag) (H : Hp) (a : Addr) (xs : List V) (J : It) : Prop := (SqL K H a xs ∧ J = Itl K a) ∨ (SqT K H a xs ∧ J = Itt K a)
def iSeq (K : PySem.W.Frag) (tl : TE) : TI := fun σ H R => tl σ H fun x H1 => ∃ a xs, x = .ref a ∧ Sq K H1 a xs ∧ ∀ J, SeqOf K H1 a xs J → R J H1
theorem pi_seq {X : Cx} {tg l : Expr} {tl : TE} (hl : PE X l tl) : PI X tg l (iSeq X.K tl) := by
  refine ⟨fun pins s σ H R I h => ?_⟩
  refine thn (hl.run pins s σ H _ I h) fun v s1 ⟨x, H1, I1, r1, q1⟩ => ?_
  obtain ⟨a, xs, e, hq, q⟩ := q1
  subst e
  cases r1
  rcases hq with hq | hq
  · obtain ⟨its, rv, p, hz⟩ := I1.list hq
    refine wpAny_pyIter_list p.isList ?_
    refine ⟨s1.heap.objs.size, [s1.heap.objs.size], _, _, H1, rfl, I1.kept (t' := s1.toks) fun b o e => Heap.get?_push_of_some _ e, turn_list a _, ⟨_, Heap.get?_push_size _ rfl, rfl, rfl⟩, fun b hb => ?_, q _ (.inl ⟨hq, rfl⟩)⟩
    have e : b = s1.heap.objs.size := by simpa using hb
    subst e
    exact I1.fpOk (Nat.le_refl _) (I1.hok.fresh (Nat.le_refl _))
  · obtain ⟨its, rv, p, hz⟩ := I1.tuple hq
    refine wpAny_pyIter_tuple (show s1.heap.IsTuple a its.toArray from p) ?_
    refine ⟨s1.heap.objs.size, [s1.heap.objs.size], _, _, H1, rfl, I1.kept (t' := s1.toks) fun b o e => Heap.get?_push_of_some _ e, turn_tuple a _, ⟨_, Heap.get?_push_size _ rfl, rfl, rfl⟩, fun b hb => ?_, q _ (.inr ⟨hq, rfl⟩)⟩
    have e : b = s1.heap.objs.size := by simpa using hb
    subst e
    exact I1.fpOk (Nat.le_refl _) (I1.hok.fresh (Nat.le_refl _))
/-- where the items stay, the walk gives them in their order -/
theorem walk_seq {K : PySem.W.Frag} {H0 : Hp} {a : Addr} {xs : List V} {J : It} (z : SeqOf K H0 a xs J) : Walk J xs.length (fun H => Same H0 H) (YAt xs) := by
  rcases z with ⟨hy, rfl⟩ | ⟨hy, rfl⟩
  · exact walk_list.mono (fun H s => s.seq hy) fun i H x H' _ _ y => y
  · exact walk_tup.mono (fun H s => seqT s hy) fun i H x H' _ _ y => y
end TL
namespace TL
/-! ### determinants: rows put behind one another, columns told as a list -/
abbrev Vec := Nat → Int
abbrev Frm := List Nat → Int
def sgA : Nat → Int
  | 0 => 1
  | n + 1 => - sgA n
theorem sgA_sq : ∀ n, sgA n * sgA n = 1
  | 0 => rfl
  | n + 1 => by
    show - sgA n * - sgA n = 1
    rw [Int.neg_mul_neg]
    exact sgA_sq n
def Wd (x : Vec) : List Nat → Frm → Int
  | [], _ => 0
  | c :: cs, F => Wd x cs (fun ds => F (c :: ds)) + sgA cs.length * x c * F cs
/-- a form, and one more row -/
def WF (F : Frm) (x : Vec) : Frm := fun cs => Wd x cs F
def d0 : Frm
  | [] => 1
  | _ :: _ => 0
def DF (F : Frm) (rows : List Vec) : Frm := rows.foldl WF F
def Dt (rows : List Vec) : Frm := DF d0 rows
theorem wd_add (x : Vec) : ∀ (cs : List Nat) (F G : Frm), Wd x cs (fun ds => F ds + G ds) = Wd x cs F + Wd x cs G
  | [], _, _ => rfl
  | c :: cs, F, G => by
    show Wd x cs (fun ds => F (c :: ds) + G (c :: ds)) + _ = _
    rw [wd_add x cs (fun ds => F (c :: ds)) (fun ds => G (c :: ds))]
    show _ = (Wd x cs (fun ds => F (c :: ds)) + sgA cs.length * x c * F cs) + (Wd x cs (fun ds => G (c :: ds)) + sgA cs.length * x c * G cs)
    rw [Int.mul_add]
    omega
theorem wd_mul (x : Vec) (k : Int) : ∀ (cs : List Nat) (F : Frm), Wd x cs (fun ds => k * F ds) = k * Wd x cs F
  | [], _ => by show 0 = k * 0; rw [Int.mul_zero]
  | c :: cs, F => by
    show Wd x cs (fun ds => k * F (c :: ds)) + sgA cs.length * x c * (k * F cs) = k * (Wd x cs (fun ds => F (c :: ds)) + sgA cs.length * x c * F cs)
    rw [wd_mul x k cs (fun ds => F (c :: ds)), Int.mul_add]
    congr 1
    grind
theorem wd_zero (x : Vec) (cs : List Nat) : Wd x cs (fun _ => 0) = 0 := by
  have := wd_mul x 0 cs (fun _ => 0)
  simpa using this
theorem wd_lin (x y : Vec) (k l : Int) : ∀ (cs : List Nat) (F : Frm), Wd (fun j => k * x j + l * y j) cs F = k * Wd x cs F + l * Wd y cs F
  | [], _ => by show 0 = k * 0 + l * 0; simp
  | c :: cs, F => by
    show Wd (fun j => k * x j + l * y j) cs (fun ds => F (c :: ds)) + sgA cs.length * (k * x c + l * y c) * F cs = k * (Wd x cs (fun ds => F (c :: ds)) + sgA cs.length * x c * F cs) + l * (Wd y cs (fun ds => F (c :: ds)) + sgA cs.length * y c * F cs)
    rw [wd_lin x y k l cs (fun ds => F (c :: ds))]
    grind
theorem wd_sg (y : Vec) : ∀ (cs : List Nat) (G : Frm), Wd y cs (fun ds => sgA ds.length * G ds) = - (sgA cs.length * Wd y cs G)
  | [], _ => by show 0 = - (1 * 0); decide
  | c :: cs, G => by
    show Wd y cs (fun ds => sgA (ds.length + 1) * G (c :: ds)) + sgA cs.length * y c * (sgA cs.length * G cs) = - (sgA (cs.length + 1) * (Wd y cs (fun ds => G (c :: ds)) + sgA cs.length * y c * G cs))
    have e : (fun ds : List Nat => sgA (ds.length + 1) * G (c :: ds)) = fun ds => (-1) * (sgA ds.length * G (c :: ds)) := by
      funext ds
      show - sgA ds.length * _ = _
      rw [Int.neg_mul, Int.neg_one_mul]
    rw [e, wd_mul, wd_sg y cs (fun ds => G (c :: ds))]
    have e2 : sgA (cs.length + 1) = - sgA cs.length := rfl
    rw [e2]
    grind
theorem wd_anti (x y : Vec) : ∀ (cs : List Nat) (F : Frm), Wd y cs (fun ds => Wd x ds F) = - Wd x cs (fun ds => Wd y ds F)
  | [], _ => rfl
  | c :: cs, F => by
    show Wd y cs (fun ds => Wd x ds (fun es => F (c :: es)) + sgA ds.length * x c * F ds) + sgA cs.length * y c * Wd x cs F = - (Wd x cs (fun ds => Wd y ds (fun es => F (c :: es)) + sgA ds.length * y c * F ds) + sgA cs.length * x c * Wd y cs F)
    have ex : ∀ (u : Vec), (fun ds : List Nat => sgA ds.length * u c * F ds) = fun ds => sgA ds.length * (u c * F ds) := fun u => by
      funext ds
      rw [Int.mul_assoc]
    rw [wd_add y cs (fun ds => Wd x ds (fun es => F (c :: es))) (fun ds => sgA ds.length * x c * F ds), wd_add x cs (fun ds => Wd y ds (fun es => F (c :: es))) (fun ds => sgA ds.length * y c * F ds),
      ex x, ex y, wd_sg, wd_sg, wd_mul, wd_mul, wd_anti x y cs (fun es => F (c :: es))]
    grind
theorem wd_twice (x : Vec) (cs : List Nat) (F : Frm) : Wd x cs (fun ds => Wd x ds F) = 0 := by
  have := wd_anti x x cs F
  omega
theorem wd_block {x : Vec} {j : Nat} : ∀ {cs : List Nat} {F : Frm}, (∀ c ∈ cs, x c = 0) → Wd x (cs ++ [j]) F = x j * F cs
  | [], F, _ => by
    show 0 + 1 * x j * F [] = _
    grind
  | c :: cs, F, h => by
    show Wd x (cs ++ [j]) (fun ds => F (c :: ds)) + _ * x c * _ = _
    rw [wd_block (F := fun ds => F (c :: ds)) fun d hd => h d (List.mem_cons_of_mem _ hd), h c (List.mem_cons_self ..)]
    simp
theorem wd_block2 {x : Vec} {i j : Nat} : ∀ {cs : List Nat} {F : Frm}, (∀ c ∈ cs, x c = 0) → Wd x (cs ++ [i, j]) F = x j * F (cs ++ [i]) - x i * F (cs ++ [j])
  | [], F, _ => by
    show (0 + 1 * x j * F [i]) + (-1) * x i * F [j] = x j * F [i] - x i * F [j]
    grind
  | c :: cs, F, h => by
    show Wd x (cs ++ [i, j]) (fun ds => F (c :: ds)) + _ * x c * _ = _
    rw [wd_block2 (F := fun ds => F (c :: ds)) fun d hd => h d (List.mem_cons_of_mem _ hd), h c (List.mem_cons_self ..)]
    simp
theorem wd_last {x : Vec} {j : Nat} : ∀ {cs : List Nat} {F : Frm}, Wd x (cs ++ [j]) F = x j * F cs - Wd x cs (fun ds => F (ds ++ [j]))
  | [], F => by
    show 0 + 1 * x j * F [] = x j * F [] - 0
    grind
  | c :: cs, F => by
    show Wd x (cs ++ [j]) (fun ds => F (c :: ds)) + sgA (cs ++ [j]).length * x c * F (cs ++ [j]) = x j * F (c :: cs) - (Wd x cs (fun ds => F (c :: (ds ++ [j]))) + sgA cs.length * x c * F (cs ++ [j]))
    rw [wd_last (F := fun ds => F (c :: ds))]
    have e : sgA (cs ++ [j]).length = - sgA cs.length := by
      rw [List.length_append]
      rfl
    rw [e]
    grind
/-! ### sums -/
def sumN : Nat → (Nat → Int) → Int
  | 0, _ => 0
  | n + 1, f => sumN n f + f n
theorem sumN_congr {n : Nat} {f g : Nat → Int} (h : ∀ t, t < n → f t = g t) : sumN n f = sumN n g := by
  induction n with
  | zero => rfl
  | succ n ih =>
    show sumN n f + f n = sumN n g + g n
    rw [ih fun t ht => h t (by omega), h n (by omega)]
theorem sumN_zero {n : Nat} : sumN n (fun _ => 0) = 0 := by
  induction n with
  | zero => rfl
  | succ n ih =>
    show sumN n _ + 0 = 0
    rw [ih]
    rfl
theorem sumN_mul {n : Nat} (k : Int) (f : Nat → Int) : sumN n (fun t => k * f t) = k * sumN n f := by
  induction n with
  | zero => exact (Int.mul_zero k).symm
  | succ n ih =>
    show sumN n _ + k * f n = k * (sumN n f + f n)
    rw [ih, Int.mul_add]
theorem sumN_add {n : Nat} (f g : Nat → Int) : sumN n (fun t => f t + g t) = sumN n f + sumN n g := by
  induction n with
  | zero => rfl
  | succ n ih =>
    show sumN n _ + (f n + g n) = (sumN n f + f n) + (sumN n g + g n)
    rw [ih]
    omega
theorem wd_sum (x : Vec) (cs : List Nat) (n : Nat) (k : Nat → Int) (G : Nat → Frm) : Wd x cs (fun ds => sumN n (fun t => k t * G t ds)) = sumN n (fun t => k t * Wd x cs (G t)) := by
  induction n with
  | zero => exact wd_zero x cs
  | succ n ih =>
    show Wd x cs (fun ds => sumN n (fun t => k t * G t ds) + k n * G n ds) = sumN n _ + k n * Wd x cs (G n)
    rw [wd_add, ih, wd_mul]
/-- a row put together -/
theorem wd_comb (A : Nat → Vec) (m : Nat → Int) (n : Nat) (cs : List Nat) (F : Frm) : Wd (fun j => sumN n (fun t => A t j * m t)) cs F = sumN n (fun t => m t * Wd (A t) cs F) := by
  induction n with
  | zero =>
    have := wd_lin (fun _ => 0) (fun _ => 0) 0 0 cs F
    simp only [Int.zero_mul, Int.add_zero] at this
    exact this
  | succ n ih =>
    have e : (fun j => sumN (n + 1) (fun t => A t j * m t)) = fun j => 1 * sumN n (fun t => A t j * m t) + m n * A n j := by
      funext j
      show sumN n _ + A n j * m n = _
      rw [Int.one_mul, Int.mul_comm (A n j)]
    rw [e, wd_lin (fun j => sumN n (fun t => A t j * m t)) (A n) 1 (m n), ih]
    show _ = sumN n _ + _
    rw [Int.one_mul]
/-! ### rows and their forms -/
def rw_ (A : List Vec) (t : Nat) : Vec := A.getD t (fun _ => 0)
theorem rw_app {A B : List Vec} {t : Nat} (h : t < A.length) : rw_ (A ++ B) t = rw_ A t := by
  unfold rw_
  rw [List.getD_eq_getElem?_getD, List.getElem?_append_left h, ← List.getD_eq_getElem?_getD]
theorem rw_last {A : List Vec} {x : Vec} : rw_ (A ++ [x]) A.length = x := by
  unfold rw_
  rw [List.getD_eq_getElem?_getD, List.getElem?_append_right (Nat.le_refl _), Nat.sub_self]
  rfl
theorem df_snoc (F : Frm) (A : List Vec) (x : Vec) : DF F (A ++ [x]) = WF (DF F A) x := by
  unfold DF
  rw [List.foldl_append]
  rfl
theorem dt_snoc (A : List Vec) (x : Vec) : Dt (A ++ [x]) = WF (Dt A) x := df_snoc ..
theorem df_app (F : Frm) (A B : List Vec) : DF F (A ++ B) = DF (DF F A) B := by
  unfold DF
  rw [List.foldl_append]
theorem df_zero (A : List Vec) : DF (fun _ => 0) A = fun _ => 0 := by
  induction A with
  | nil => rfl
  | cons x A ih =>
    show DF (WF (fun _ => 0) x) A = _
    have : WF (fun _ => 0) x = fun _ => 0 := by
      funext cs
      exact wd_zero x cs
    rw [this, ih]
/-- induction from behind -/
theorem rev_ind {α : Type} {P : List α → Prop} (h0 : P []) (h1 : ∀ A x, P A → P (A ++ [x])) : ∀ A, P A := fun A => by
  have : ∀ n (A : List α), A.length = n → P A := by
    intro n
    induction n with
    | zero =>
      intro A h
      rw [List.eq_nil_of_length_eq_zero h]
      exact h0
    | succ n ih =>
      intro A h
      have hne : A ≠ [] := fun z => by rw [z] at h; cases h
      rw [← List.dropLast_concat_getLast hne]
      exact h1 _ _ (ih _ (by rw [List.length_dropLast]; omega))
  exact this _ A rfl
theorem df_again (F : Frm) (a : Vec) : ∀ A : List Vec, WF (DF (WF F a) A) a = fun _ => 0 := by
  refine rev_ind ?_ ?_
  · funext cs
    exact wd_twice a cs F
  · intro A y ih
    rw [df_snoc]
    funext cs
    show Wd a cs (fun ds => Wd y ds (DF (WF F a) A)) = 0
    rw [wd_anti]
    have : (fun ds => Wd a ds (DF (WF F a) A)) = fun _ => 0 := ih
    rw [this, wd_zero]
    rfl
/-- a row that is there already -/
theorem dt_mem {A : List Vec} {x : Vec} (h : x ∈ A) : Dt (A ++ [x]) = fun _ => 0 := by
  obtain ⟨A1, A2, rfl⟩ := List.append_of_mem h
  rw [dt_snoc]
  unfold Dt
  rw [df_app]
  exact df_again _ x A2
theorem rw_mem {A : List Vec} {t : Nat} (h : t < A.length) : rw_ A t ∈ A := by
  unfold rw_
  rw [List.getD_eq_getElem?_getD, List.getElem?_eq_getElem h]
  exact List.getElem_mem h
/-- expansion along the last column -/
theorem dt_col : ∀ A : List Vec, ∃ G : Nat → Frm, ∀ ds j, Dt A (ds ++ [j]) = sumN A.length (fun t => rw_ A t j * G t ds) := by
  refine rev_ind ?_ ?_
  · refine ⟨fun _ _ => 0, fun ds j => ?_⟩
    show d0 (ds ++ [j]) = 0
    cases ds <;> rfl
  · rintro A x ⟨G, h⟩
    refine ⟨fun t ds => if t = A.length then Dt A ds else - Wd x ds (G t), fun ds j => ?_⟩
    rw [dt_snoc]
    show Wd x (ds ++ [j]) (Dt A) = _
    rw [wd_last]
    have e : (fun es => Dt A (es ++ [j])) = fun es => sumN A.length (fun t => rw_ A t j * G t es) := by
      funext es
      exact h es j
    rw [e, wd_sum, List.length_append]
    show _ = sumN A.length _ + _
    dsimp only
    rw [rw_last, if_pos rfl]
    have e2 : sumN A.length (fun t => rw_ (A ++ [x]) t j * (if t = A.length then Dt A ds else - Wd x ds (G t))) = sumN A.length (fun t => (-1) * (rw_ A t j * Wd x ds (G t))) := sumN_congr fun t ht => by
      rw [rw_app ht, if_neg (by omega)]
      grind
    rw [e2, sumN_mul]
    omega
theorem dt_colS (A : List Vec) (x : Vec) : ∃ G : Nat → Frm, ∀ ds j, Dt (A ++ [x]) (ds ++ [j]) = x j * Dt A ds + sumN A.length (fun t => rw_ A t j * G t ds) := by
  obtain ⟨G, h⟩ := dt_col A
  refine ⟨fun t ds => - Wd x ds (G t), fun ds j => ?_⟩
  rw [dt_snoc]
  show Wd x (ds ++ [j]) (Dt A) = _
  rw [wd_last]
  have e : (fun es => Dt A (es ++ [j])) = fun es => sumN A.length (fun t => rw_ A t j * G t es) := by
    funext es
    exact h es j
  rw [e, wd_sum]
  have e2 : sumN A.length (fun t => rw_ A t j * - Wd x ds (G t)) = sumN A.length (fun t => (-1) * (rw_ A t j * Wd x ds (G t))) := sumN_congr fun t _ => by grind
  rw [e2, sumN_mul]
  omega
/-- the last row may be changed by the others -/
theorem dt_red {A : List Vec} {b v : Vec} {d : Int} {m : Nat → Int} (h : ∀ j, v j = d * b j + sumN A.length (fun t => rw_ A t j * m t)) (cs : List Nat) : Dt (A ++ [v]) cs = d * Dt (A ++ [b]) cs := by
  have e : v = fun j => d * b j + 1 * sumN A.length (fun t => rw_ A t j * m t) := by
    funext j
    rw [Int.one_mul]
    exact h j
  rw [dt_snoc, dt_snoc]
  show Wd v cs (Dt A) = d * Wd b cs (Dt A)
  rw [e, wd_lin b (fun j => sumN A.length (fun t => rw_ A t j * m t)) d 1, wd_comb]
  have e2 : sumN A.length (fun t => m t * Wd (rw_ A t) cs (Dt A)) = sumN A.length (fun _ => 0) := sumN_congr fun t ht => by
    have : Dt (A ++ [rw_ A t]) cs = 0 := congrFun (dt_mem (rw_mem ht)) cs
    rw [dt_snoc] at this
    have this : Wd (rw_ A t) cs (Dt A) = 0 := this
    rw [this, Int.mul_zero]
  rw [e2, sumN_zero]
  omega
/-- Bareiss' step: what is divided, and by what -/
theorem bareiss {A : List Vec} {a b u v : Vec} {C : List Nat} {mu mv : Nat → Int} (hd : Dt A C ≠ 0) (hu : ∀ j, u j = Dt A C * a j + sumN A.length (fun t => rw_ A t j * mu t)) (hv : ∀ j, v j = Dt A C * b j + sumN A.length (fun t => rw_ A t j * mv t))
    (zu : ∀ c ∈ C, u c = 0) (zv : ∀ c ∈ C, v c = 0) (c j : Nat) : u c = Dt (A ++ [a]) (C ++ [c]) ∧ u c * v j - v c * u j = Dt A C * Dt ((A ++ [a]) ++ [b]) ((C ++ [c]) ++ [j]) := by
  have k1 : ∀ i, u i * Dt A C = Dt A C * Dt (A ++ [a]) (C ++ [i]) := fun i => by
    rw [← dt_red hu (C ++ [i]), dt_snoc]
    exact (wd_block zu).symm
  have k2 : ∀ i, u i = Dt (A ++ [a]) (C ++ [i]) := fun i => Int.eq_of_mul_eq_mul_left hd (by rw [← k1 i, Int.mul_comm])
  refine ⟨k2 c, ?_⟩
  -- v behind A and a
  have hv' : ∀ j, v j = Dt A C * b j + sumN (A ++ [a]).length (fun t => rw_ (A ++ [a]) t j * (if t = A.length then 0 else mv t)) := fun j => by
    rw [hv j, List.length_append]
    show _ = _ + (sumN A.length _ + _)
    dsimp only
    rw [if_pos rfl, Int.mul_zero, Int.add_zero]
    congr 1
    exact sumN_congr fun t ht => by rw [rw_app ht, if_neg (by omega)]
  have e1 := dt_red hv' ((C ++ [c]) ++ [j])
  have e2 : Dt ((A ++ [a]) ++ [v]) ((C ++ [c]) ++ [j]) = v j * Dt (A ++ [a]) (C ++ [c]) - v c * Dt (A ++ [a]) (C ++ [j]) := by
    rw [dt_snoc, List.append_assoc]
    exact wd_block2 zv
  rw [e2, ← k2 c, ← k2 j] at e1
  have e3 : u c * v j - v c * u j = v j * u c - v c * u j := by rw [Int.mul_comm (u c)]
  rw [e3, e1]
end TL
namespace TL
/-! ### the rank of the table of two vectors -/
theorem pluecker (af ac ar aq bf bc br bq : Int) : (af * bc - ac * bf) * (ar * bq - aq * br) - (ar * bc - ac * br) * (af * bq - aq * bf) = (af * br - ar * bf) * (ac * bq - aq * bc) := by
  simp only [Int.mul_sub, Int.sub_mul, Int.mul_assoc, Int.mul_comm, Int.mul_left_comm]
  omega
theorem ffrom_none {M : List (List Int)} {c : Nat} : ∀ {n i : Nat}, ffrom M c i n = none → ∀ j, i ≤ j → j < i + n → (M.getD j []).getD c 0 = 0
  | 0, i, _, j, h1, h2 => by omega
  | n + 1, i, h, j, h1, h2 => by
    unfold ffrom at h
    split at h
    · cases h
    · rename_i hc
      rcases Nat.eq_or_lt_of_le h1 with e | e
      · subst e
        exact Decidable.not_not.mp hc
      · exact ffrom_none h j e (by omega)
theorem ffrom_zero2 {M : List (List Int)} {c : Nat} : ∀ {n i : Nat}, (∀ j, i ≤ j → j < i + n → (M.getD j []).getD c 0 = 0) → ffrom M c i n = none
  | 0, i, _ => by cases i <;> rfl
  | n + 1, i, h => by
    unfold ffrom
    rw [if_neg (by rw [h i (Nat.le_refl _) (by omega)]; decide)]
    exact ffrom_zero2 fun j h1 h2 => h j (by omega) (by omega)
/-- the table of two vectors, as six lists -/
def ctM (g : Nat → Nat → Int) : List (List Int) := (List.range 6).map fun p => (List.range 6).map fun q => g p q
theorem ctM_at {g : Nat → Nat → Int} {p : Nat} (h : p < 6) : (ctM g)[p]? = some ((List.range 6).map fun q => g p q) := by
  unfold ctM
  rw [List.getElem?_map, List.getElem?_range h]
  rfl
theorem row_at {f : Nat → Int} {q : Nat} (h : q < 6) : ((List.range 6).map f).getD q 0 = f q := by
  rw [List.getD_eq_getElem?_getD, List.getElem?_map, List.getElem?_range h]
  rfl
theorem zip_rows (F : Int → Int → Int) (f g : Nat → Int) : List.zipWith F ((List.range 6).map f) ((List.range 6).map g) = (List.range 6).map fun q => F (f q) (g q) := by
  apply List.ext_getElem
  · simp
  · intro i h1 h2
    simp
structure S0 (g : Nat → Nat → Int) (c : Nat) (s : CSt) : Prop where
  eq : s = (ctM g, 0, 1, 1)
  z : ∀ j, j < c → ∀ i, i < 6 → g i j = 0
structure S1 (c : Nat) (s : CSt) : Prop where
  len : s.1.length = 6
  rk : s.2.1 = 1
  ex : ∃ (k : Nat → Int) (w : Nat → Int), (∀ i, 1 ≤ i → i < 6 → s.1[i]? = some ((List.range 6).map fun q => k i * w q)) ∧ (∃ i, 1 ≤ i ∧ i < 6 ∧ k i ≠ 0) ∧ ∃ q, c ≤ q ∧ q < 6 ∧ w q ≠ 0
structure S2 (s : CSt) : Prop where
  len : s.1.length = 6
  rk : s.2.1 = 2
  z : ∀ i, 2 ≤ i → i < 6 → s.1[i]? = some ((List.range 6).map fun _ => (0 : Int))
theorem S2.step {c : Nat} {s : CSt} (h : S2 s) : S2 (stepC c s) := by
  have : stepC c s = s := by
    unfold stepC
    rw [ffrom_zero2]
    intro j h1 h2
    rw [h.len, h.rk] at h2
    rw [h.rk] at h1
    rw [getD_of (h.z j h1 (by omega)), List.getD_eq_getElem?_getD, List.getElem?_map]
    cases (List.range 6)[c]? <;> rfl
  rw [this]
  exact h
theorem fdiv_zero' (a : Int) : (0 : Int).fdiv a = 0 := by simp
theorem S1.step {c : Nat} {s : CSt} (hc : c < 6) (h : S1 c s) : S1 (c + 1) (stepC c s) ∨ S2 (stepC c s) := by
  obtain ⟨M, r, sg, last⟩ := s
  obtain ⟨hl, hr, k, w, h1, ⟨i0, i1, i2, i3⟩, q0, q1, q2, q3⟩ := h
  dsimp only at hl hr h1
  subst hr
  unfold stepC
  dsimp only
  split
  · rename_i hf
    left
    refine ⟨hl, rfl, k, w, h1, ⟨i0, i1, i2, i3⟩, q0, ?_, q2, q3⟩
    have := ffrom_none hf i0 i1 (by omega)
    rw [getD_of (h1 i0 i1 i2), row_at hc] at this
    rcases Int.mul_eq_zero.mp this with e | e
    · exact absurd e i3
    · rcases Nat.eq_or_lt_of_le q1 with e2 | e2
      · subst e2
        exact absurd e q3
      · exact e2
  · rename_i f hf
    right
    obtain ⟨f1, f2, f3⟩ := ffrom_some hf
    have f6 : f < 6 := by omega
    have hp : (pivM M 1 f).getD 1 [] = M.getD f [] := getD_of (piv_at (by omega) (by omega))
    have hh : M.getD f [] = (List.range 6).map fun q => k f * w q := getD_of (h1 f f1 f6)
    refine ⟨by dsimp only; rw [len_red, len_piv]; exact hl, rfl, fun i hi hi6 => ?_⟩
    dsimp only
    have hrow : ∃ κ : Int, (pivM M 1 f)[i]? = some ((List.range 6).map fun q => κ * w q) := by
      unfold pivM
      split
      · exact ⟨k i, h1 i (by omega) hi6⟩
      · unfold swapR
        by_cases e : f = i
        · subst e
          rw [List.getElem?_set_self (by rw [List.length_set]; omega)]
          exact ⟨k 1, by rw [getD_of (h1 1 (by decide) (by decide))]⟩
        · rw [List.getElem?_set_ne e, List.getElem?_set_ne (by omega)]
          exact ⟨k i, h1 i (by omega) hi6⟩
    obtain ⟨κ, hκ⟩ := hrow
    rw [red_at, hκ, Option.map_some, if_pos ⟨by omega, by rw [len_piv]; omega⟩, hp, hh]
    unfold redRow
    rw [zip_rows, row_at hc, row_at hc]
    refine congrArg some (List.map_congr_left fun q _ => ?_)
    have e : k f * w c * (κ * w q) - κ * w c * (k f * w q) = 0 := by
      have : k f * w c * (κ * w q) = κ * w c * (k f * w q) := by ac_rfl
      omega
    rw [e]
    exact fdiv_zero' _
def gg (a b : Nat → Int) (i j : Nat) : Int := a i * b j - a j * b i
theorem gg_neg (a b : Nat → Int) (i j : Nat) : gg a b j i = - gg a b i j := by
  unfold gg
  omega
theorem gg_self (a b : Nat → Int) (i : Nat) : gg a b i i = 0 := by
  unfold gg
  omega
theorem S0.step {a b : Nat → Int} {c : Nat} {s : CSt} (hc : c < 6) (h : S0 (gg a b) c s) : S0 (gg a b) (c + 1) (stepC c s) ∨ S1 (c + 1) (stepC c s) := by
  obtain ⟨rfl, hz⟩ := h
  have hl : (ctM (gg a b)).length = 6 := by simp [ctM]
  have cell : ∀ i, i < 6 → ((ctM (gg a b)).getD i []).getD c 0 = gg a b i c := fun i hi => by rw [getD_of (ctM_at hi), row_at hc]
  unfold stepC
  dsimp only
  rw [hl]
  split
  · rename_i hf
    left
    refine ⟨rfl, fun j hj i hi => ?_⟩
    rcases Nat.eq_or_lt_of_le (Nat.le_of_lt_succ hj) with e | e
    · subst e
      have := ffrom_none hf i (Nat.zero_le _) (by omega)
      rw [cell i hi] at this
      exact this
    · exact hz j e i hi
  · rename_i f hf
    right
    obtain ⟨_, f2, f3⟩ := ffrom_some hf
    have f6 : f < 6 := by omega
    rw [cell f f6] at f3
    have fc : c < f := by
      rcases Nat.lt_trichotomy f c with e | e | e
      · have := hz f e c hc
        rw [gg_neg] at f3
        omega
      · subst e
        exact absurd (gg_self a b f) f3
      · exact e
    have f0 : f ≠ 0 := by omega
    have hp : (pivM (ctM (gg a b)) 0 f).getD 0 [] = (List.range 6).map fun q => gg a b f q := by
      rw [getD_of (piv_at (by omega) (by omega)), getD_of (ctM_at f6)]
    refine ⟨by dsimp only; rw [len_red, len_piv]; exact hl, rfl, fun i => gg a b f (if i = f then 0 else i), fun q => gg a b c q, fun i hi hi6 => ?_, ?_, f, by omega, f6, by dsimp only; rw [gg_neg]; omega⟩
    · dsimp only
      have hrow : (pivM (ctM (gg a b)) 0 f)[i]? = some ((List.range 6).map fun q => gg a b (if i = f then 0 else i) q) := by
        unfold pivM
        rw [if_neg f0]
        unfold swapR
        by_cases e : i = f
        · subst e
          rw [List.getElem?_set_self (by rw [List.length_set]; omega), if_pos rfl, getD_of (ctM_at (by decide))]
        · rw [List.getElem?_set_ne (Ne.symm e), List.getElem?_set_ne (by omega), if_neg e, ctM_at hi6]
      rw [red_at, hrow, Option.map_some, if_pos ⟨by omega, by rw [len_piv]; omega⟩, hp]
      unfold redRow
      rw [zip_rows, row_at hc, row_at hc]
      refine congrArg some (List.map_congr_left fun q _ => ?_)
      rw [Int.fdiv_one]
      exact pluecker ..
    · rcases Nat.eq_zero_or_pos c with e | e
      · exact ⟨f, by omega, f6, by dsimp only; rw [if_pos rfl, ← e]; exact f3⟩
      · exact ⟨c, e, hc, by dsimp only; rw [if_neg (by omega)]; exact f3⟩
theorem states (a b : Nat → Int) : ∀ c, c ≤ 6 → S0 (gg a b) c (clrN (ctM (gg a b)) c) ∨ S1 c (clrN (ctM (gg a b)) c) ∨ S2 (clrN (ctM (gg a b)) c)
  | 0, _ => .inl ⟨rfl, fun j h => absurd h (Nat.not_lt_zero _)⟩
  | c + 1, h => by
    show _ ∨ S1 (c + 1) (stepC c _) ∨ S2 (stepC c _)
    rcases states a b c (by omega) with e | e | e
    · rcases e.step (by omega) with z | z
      · exact .inl z
      · exact .inr (.inl z)
    · exact .inr (e.step (by omega))
    · exact .inr (.inr e.step)
theorem clr_none {g : Nat → Nat → Int} (h : ∀ i j, i < 6 → j < 6 → g i j = 0) : ∀ c, c ≤ 6 → clrN (ctM g) c = (ctM g, 0, 1, 1)
  | 0, _ => rfl
  | c + 1, hc => by
    have hl : (ctM g).length = 6 := by simp [ctM]
    show stepC c (clrN (ctM g) c) = _
    rw [clr_none h c (by omega)]
    unfold stepC
    dsimp only
    rw [ffrom_zero2]
    intro j h1 h2
    rw [hl] at h2
    rw [getD_of (ctM_at (by omega)), row_at (by omega)]
    exact h j c (by omega) (by omega)
theorem ctM_width (g : Nat → Nat → Int) : widthOf (ctM g) = 6 := by simp [widthOf, ctM]
theorem rank_zero {g : Nat → Nat → Int} (h : ∀ i j, i < 6 → j < 6 → g i j = 0) : clrRank (ctM g) = 0 := by
  unfold clrRank
  rw [ctM_width, clr_none h 6 (Nat.le_refl _)]
theorem rank_two {a b : Nat → Int} (h : ¬ ∀ i j, i < 6 → j < 6 → gg a b i j = 0) : clrRank (ctM (gg a b)) = 2 := by
  unfold clrRank
  rw [ctM_width]
  rcases states a b 6 (Nat.le_refl _) with e | e | e
  · exact absurd (fun i j hi hj => e.z j hj i hi) h
  · obtain ⟨_, _, _, q, q1, q2, _⟩ := e.ex
    omega
  · exact e.rk
end TL
namespace TL
def vec (row : List Int) : Vec := fun j => row.getD j 0
theorem getD_set_eq {M : List (List Int)} {i : Nat} {x : List Int} (h : i < M.length) : (M.set i x).getD i [] = x := by
  rw [List.getD_eq_getElem?_getD, List.getElem?_set_self h]
  rfl
theorem getD_set_ne {M : List (List Int)} {i j : Nat} {x : List Int} (h : i ≠ j) : (M.set i x).getD j [] = M.getD j [] := by
  rw [List.getD_eq_getElem?_getD, List.getElem?_set_ne h, ← List.getD_eq_getElem?_getD]
theorem pivM_r {M : List (List Int)} {r f : Nat} (hr : r < M.length) (hf : f < M.length) : (pivM M r f).getD r [] = M.getD f [] := getD_of (piv_at hr hf)
theorem pivM_i {M : List (List Int)} {r f i : Nat} (hf : f < M.length) (hrf : r ≤ f) (hi : r < i) : (pivM M r f).getD i [] = M.getD (if i = f then r else i) [] := by
  unfold pivM
  by_cases e : f = r
  · rw [if_pos e, if_neg (by omega)]
  · rw [if_neg e]
    unfold swapR
    by_cases e2 : i = f
    · rw [if_pos e2, e2, getD_set_eq (by rw [List.length_set]; exact hf)]
    · rw [if_neg e2, getD_set_ne (by omega), getD_set_ne (by omega)]
theorem pivM_take {M : List (List Int)} {r f : Nat} (hf : f < M.length) (hrf : r ≤ f) : (pivM M r f).take (r + 1) = M.take r ++ [M.getD f []] := by
  apply List.ext_getElem?
  intro i
  have hr : r < M.length := by omega
  rcases Nat.lt_trichotomy i r with z | z | z
  · rw [List.getElem?_take, if_pos (by omega), List.getElem?_append_left (by rw [List.length_take]; omega), List.getElem?_take, if_pos z]
    unfold pivM
    by_cases e : f = r
    · rw [if_pos e]
    · rw [if_neg e]
      unfold swapR
      rw [List.getElem?_set_ne (by omega), List.getElem?_set_ne (by omega)]
  · subst z
    rw [List.getElem?_take, if_pos (by omega), piv_at hr hf, List.getElem?_append_right (by rw [List.length_take]; omega), List.length_take, Nat.min_eq_left (by omega), Nat.sub_self]
    rfl
  · rw [List.getElem?_take, if_neg (by omega), List.getElem?_eq_none]
    rw [List.length_append, List.length_take, List.length_singleton]
    omega
/-! ### rows changed about -/
theorem df_neg (k : Int) (F : Frm) (A : List Vec) : DF (fun ds => k * F ds) A = fun ds => k * DF F A ds := by
  induction A generalizing F with
  | nil => rfl
  | cons x A ih =>
    show DF (WF (fun ds => k * F ds) x) A = fun ds => k * DF (WF F x) A ds
    have : WF (fun ds => k * F ds) x = fun ds => k * WF F x ds := by
      funext cs
      exact wd_mul x k cs F
    rw [this]
    exact ih _
theorem df_swap2 (F : Frm) (x y : Vec) (A : List Vec) : DF F (x :: y :: A) = fun ds => (-1) * DF F (y :: x :: A) ds := by
  show DF (WF (WF F x) y) A = fun ds => (-1) * DF (WF (WF F y) x) A ds
  rw [← df_neg]
  congr 1
  funext cs
  show Wd y cs (fun ds => Wd x ds F) = (-1) * Wd x cs (fun ds => Wd y ds F)
  rw [wd_anti]
  omega
/-- rows in another order: the same form but for the sign -/
theorem df_perm {A B : List Vec} (h : A.Perm B) : ∀ F : Frm, ∃ s : Int, (s = 1 ∨ s = -1) ∧ DF F A = fun ds => s * DF F B ds := by
  induction h with
  | nil => exact fun F => ⟨1, .inl rfl, by funext ds; exact (Int.one_mul _).symm⟩
  | cons x _ ih => exact fun F => ih (WF F x)
  | swap x y l =>
    intro F
    exact ⟨-1, .inr rfl, df_swap2 F y x l⟩
  | trans _ _ ih1 ih2 =>
    intro F
    obtain ⟨s, hs, e1⟩ := ih1 F
    obtain ⟨t, ht, e2⟩ := ih2 F
    refine ⟨s * t, ?_, ?_⟩
    · rcases hs with rfl | rfl <;> rcases ht with rfl | rfl <;> simp
    · rw [e1, e2]
      funext ds
      rw [Int.mul_assoc]
/-- one row moved ahead over n others -/
theorem df_move (y : Vec) : ∀ (L : List Vec) (F : Frm) (R : List Vec), DF F (L ++ y :: R) = fun ds => sgA L.length * DF F (y :: (L ++ R)) ds
  | [], F, R => by funext ds; exact (Int.one_mul _).symm
  | x :: L, F, R => by
    show DF (WF F x) (L ++ y :: R) = _
    rw [df_move y L (WF F x) R]
    funext ds
    have : DF F (x :: y :: (L ++ R)) ds = (-1) * DF F (y :: x :: (L ++ R)) ds := congrFun (df_swap2 F x y (L ++ R)) ds
    show sgA L.length * DF F (x :: y :: (L ++ R)) ds = - sgA L.length * DF F (y :: x :: (L ++ R)) ds
    rw [this]
    grind
/-- two rows exchanged -/
theorem df_exch (F : Frm) (x y : Vec) (L R : List Vec) : DF F (x :: (L ++ y :: R)) = fun ds => (-1) * DF F (y :: (L ++ x :: R)) ds := by
  have e1 : DF F (x :: (L ++ y :: R)) = fun ds => sgA L.length * DF F (x :: y :: (L ++ R)) ds := df_move y L (WF F x) R
  have e2 : DF F (y :: (L ++ x :: R)) = fun ds => sgA L.length * DF F (y :: x :: (L ++ R)) ds := df_move x L (WF F y) R
  rw [e1, e2]
  funext ds
  have : DF F (x :: y :: (L ++ R)) ds = (-1) * DF F (y :: x :: (L ++ R)) ds := congrFun (df_swap2 F x y (L ++ R)) ds
  dsimp only
  rw [this]
  grind
theorem swap_dec {M : List (List Int)} {r f : Nat} (hf : f < M.length) (hrf : r < f) : ∃ L N R, M = L ++ M.getD r [] :: (N ++ M.getD f [] :: R) ∧ swapR M r f = L ++ M.getD f [] :: (N ++ M.getD r [] :: R) := by
  have hr : r < M.length := by omega
  have e1 : M = M.take r ++ M.getD r [] :: M.drop (r + 1) := by
    have := List.take_append_drop r M
    rw [List.drop_eq_getElem_cons hr] at this
    rw [List.getD_eq_getElem?_getD, List.getElem?_eq_getElem hr]
    exact this.symm
  have e2 : M.drop (r + 1) = (M.drop (r + 1)).take (f - r - 1) ++ M.getD f [] :: (M.drop (r + 1)).drop (f - r) := by
    have hl : f - r - 1 < (M.drop (r + 1)).length := by rw [List.length_drop]; omega
    have := List.take_append_drop (f - r - 1) (M.drop (r + 1))
    rw [List.drop_eq_getElem_cons hl] at this
    rw [List.getD_eq_getElem?_getD, List.getElem?_eq_getElem hf]
    have e : (M.drop (r + 1))[f - r - 1] = M[f] := by
      rw [List.getElem_drop]
      congr 1
      omega
    rw [e, show f - r - 1 + 1 = f - r by omega] at this
    exact this.symm
  refine ⟨M.take r, (M.drop (r + 1)).take (f - r - 1), (M.drop (r + 1)).drop (f - r), by rw [← e2]; exact e1, ?_⟩
  apply List.ext_getElem?
  intro i
  have lt : (M.take r).length = r := by rw [List.length_take]; omega
  have ln : ((M.drop (r + 1)).take (f - r - 1)).length = f - r - 1 := by rw [List.length_take, List.length_drop]; omega
  unfold swapR
  rw [List.getElem?_set]
  by_cases c1 : f = i
  · subst c1
    rw [if_pos rfl, if_pos (by rw [List.length_set]; exact hf), List.getElem?_append_right (by omega), lt, List.getElem?_cons, if_neg (by omega), List.getElem?_append_right (by omega), ln,
      show f - r - 1 - (f - r - 1) = 0 by omega]
    rfl
  · rw [if_neg c1, List.getElem?_set]
    by_cases c2 : r = i
    · subst c2
      rw [if_pos rfl, if_pos hr, List.getElem?_append_right (by omega), lt, Nat.sub_self]
      rfl
    · rw [if_neg c2]
      rcases Nat.lt_or_ge i r with z | z
      · rw [List.getElem?_append_left (by omega), List.getElem?_take, if_pos z]
      · rw [List.getElem?_append_right (by omega), lt, List.getElem?_cons, if_neg (by omega)]
        rcases Nat.lt_or_ge i f with y | y
        · rw [List.getElem?_append_left (by omega), List.getElem?_take, if_pos (by omega), List.getElem?_drop]
          congr 1
          omega
        · rw [List.getElem?_append_right (by omega), ln, List.getElem?_cons, if_neg (by omega), List.getElem?_drop, List.getElem?_drop]
          congr 1
          omega
theorem pivM_perm {M : List (List Int)} {r f : Nat} (hf : f < M.length) (hrf : r ≤ f) : (pivM M r f).Perm M := by
  unfold pivM
  split
  · exact .refl _
  · rename_i c
    obtain ⟨L, N, R, e1, e2⟩ := swap_dec hf (by omega : r < f)
    rw [e2]
    refine .trans ?_ (.of_eq e1.symm)
    refine .append_left L ?_
    have p1 : (N ++ M.getD r [] :: R).Perm (M.getD r [] :: (N ++ R)) := List.perm_middle
    have p2 : (N ++ M.getD f [] :: R).Perm (M.getD f [] :: (N ++ R)) := List.perm_middle
    exact ((p1.cons _).trans (.swap _ _ _)).trans (p2.symm.cons _)
theorem pivM_dt {M : List (List Int)} {r f : Nat} (hf : f < M.length) (hrf : r ≤ f) : Dt ((pivM M r f).map vec) = fun ds => (if f = r then 1 else -1) * Dt (M.map vec) ds := by
  unfold pivM
  split
  · funext ds
    exact (Int.one_mul _).symm
  · rename_i c
    obtain ⟨L, N, R, e1, e2⟩ := swap_dec hf (by omega : r < f)
    rw [e2]
    have e3 : Dt (M.map vec) = Dt ((L ++ M.getD r [] :: (N ++ M.getD f [] :: R)).map vec) := by rw [← e1]
    rw [e3]
    generalize M.getD r [] = a
    generalize M.getD f [] = b
    simp only [List.map_append, List.map_cons]
    unfold Dt
    rw [df_app, df_app]
    exact df_exch _ _ _ _ _
end TL
namespace TL
theorem rw_map {A : List (List Int)} {t : Nat} (h : t < A.length) : rw_ (A.map vec) t = vec (A.getD t []) := by
  unfold rw_
  rw [List.getD_eq_getElem?_getD, List.getElem?_map, List.getElem?_eq_getElem h, List.getD_eq_getElem?_getD, List.getElem?_eq_getElem h]
  rfl
theorem vec_red {last : Int} {head row : List Int} {c j w : Nat} (hh : head.length = w) (hr : row.length = w) : vec (redRow last head c row) j = (vec head c * vec row j - vec row c * vec head j).fdiv last := by
  have at_ : ∀ {xs : List Int} {i : Nat} (h : i < xs.length), xs.getD i 0 = xs[i] := fun {xs i} h => by
    rw [List.getD_eq_getElem?_getD, List.getElem?_eq_getElem h]
    rfl
  have o : ∀ {xs : List Int} {i : Nat}, xs.length ≤ i → xs.getD i 0 = 0 := fun {xs i} h => by
    rw [List.getD_eq_getElem?_getD, List.getElem?_eq_none h]
    rfl
  unfold vec redRow
  rcases Nat.lt_or_ge j w with z | z
  · rw [at_ (i := j) (by rw [List.length_zipWith]; omega), List.getElem_zipWith, at_ (xs := row) (i := j) (by omega), at_ (xs := head) (i := j) (by omega)]
  · rw [o (by rw [List.length_zipWith]; omega), o (xs := row) (i := j) (by omega), o (xs := head) (i := j) (by omega)]
    simp
/-- what stands when the columns below c are through -/
structure BI (M : List (List Int)) (w c : Nat) (s : CSt) (B : List (List Int)) (C : List Nat) : Prop where
  perm : B.Perm M
  len : s.1.length = M.length
  le : s.2.1 ≤ M.length
  cl : C.length = s.2.1
  clt : ∀ j ∈ C, j < c
  asc : C.Pairwise (· < ·)
  rows : RowsW w s.1
  det : Dt ((B.take s.2.1).map vec) C = s.2.2.2
  nz : s.2.2.2 ≠ 0
  sg : s.2.2.1 = 1 ∨ s.2.2.1 = -1
  sgn : Dt (B.map vec) = fun ds => s.2.2.1 * Dt (M.map vec) ds
  rest : ∀ i, s.2.1 ≤ i → i < M.length → (∃ m : Nat → Int, ∀ j, vec (s.1.getD i []) j = s.2.2.2 * vec (B.getD i []) j + sumN s.2.1 (fun t => vec (B.getD t []) j * m t)) ∧ ∀ j, j < c → vec (s.1.getD i []) j = 0
theorem BI.start {M : List (List Int)} {w : Nat} (hw : RowsW w M) : BI M w 0 (M, 0, 1, 1) M [] where
  perm := .refl _
  len := rfl
  le := Nat.zero_le _
  cl := rfl
  clt := fun j h => by cases h
  asc := List.Pairwise.nil
  rows := hw
  det := rfl
  nz := by show (1 : Int) ≠ 0; decide
  sg := .inl rfl
  sgn := by funext ds; exact (Int.one_mul _).symm
  rest := fun i _ _ => ⟨⟨fun _ => 0, fun j => by show vec (M.getD i []) j = 1 * vec (M.getD i []) j + 0; omega⟩, fun j h => by omega⟩
theorem BI.blen {M : List (List Int)} {w c : Nat} {s : CSt} {B : List (List Int)} {C : List Nat} (h : BI M w c s B C) : B.length = M.length := h.perm.length_eq
theorem map_take_rw {B : List (List Int)} {r t : Nat} (hr : r ≤ B.length) (ht : t < r) : rw_ ((B.take r).map vec) t = vec (B.getD t []) := by
  rw [rw_map (by rw [List.length_take]; omega)]
  congr 1
  rw [List.getD_eq_getElem?_getD, List.getElem?_take, if_pos ht, ← List.getD_eq_getElem?_getD]
theorem BI.step {M : List (List Int)} {w c : Nat} {s : CSt} {B : List (List Int)} {C : List Nat} (h : BI M w c s B C) : ∃ B' C', BI M w (c + 1) (stepC c s) B' C' := by
  obtain ⟨Mi, r, sg, last⟩ := s
  have hbl := h.blen
  obtain ⟨hperm, hlen, hle, hcl, hclt, hasc, hrows, hdet, hnz, hsg, hsgn, hrest⟩ := h
  dsimp only at *
  unfold stepC
  dsimp only
  cases hf : ffrom Mi c r (Mi.length - r) with
  | none =>
    refine ⟨B, C, hperm, hlen, hle, hcl, fun j hj => Nat.lt_succ_of_lt (hclt j hj), hasc, hrows, hdet, hnz, hsg, hsgn, fun i hi hi2 => ⟨(hrest i hi hi2).1, fun j hj => ?_⟩⟩
    rcases Nat.lt_or_ge j c with z | z
    · exact (hrest i hi hi2).2 j z
    · have : j = c := by omega
      subst this
      exact ffrom_none hf i hi (by omega)
  | some f =>
    obtain ⟨f1, f2, f3⟩ := ffrom_some hf
    have hfM : f < Mi.length := by omega
    have hrM : r < Mi.length := by omega
    have hfB : f < B.length := by omega
    have hrB : r < B.length := by omega
    dsimp only
    rw [pivM_r hrM hfM]
    -- the pivot row
    have Hf := hrest f f1 (by omega)
    obtain ⟨⟨mu, hmu⟩, zu⟩ := Hf
    have hA : ((B.take r).map vec).length = r := by rw [List.length_map, List.length_take]; omega
    have conv : ∀ (m : Nat → Int) (j : Nat), sumN r (fun t => vec (B.getD t []) j * m t) = sumN ((B.take r).map vec).length (fun t => rw_ ((B.take r).map vec) t j * m t) := fun m j => by
      rw [hA]
      exact sumN_congr fun t ht => by rw [map_take_rw (by omega) ht]
    have hd0 : Dt ((B.take r).map vec) C ≠ 0 := by rw [hdet]; exact hnz
    have hu : ∀ j, vec (Mi.getD f []) j = Dt ((B.take r).map vec) C * vec (B.getD f []) j + sumN ((B.take r).map vec).length (fun t => rw_ ((B.take r).map vec) t j * mu t) := fun j => by rw [hdet, ← conv]; exact hmu j
    have hzu : ∀ d ∈ C, vec (Mi.getD f []) d = 0 := fun d hd => zu d (hclt d hd)
    have eA : ((pivM B r f).take (r + 1)).map vec = (B.take r).map vec ++ [vec (B.getD f [])] := by
      rw [pivM_take hfB f1, List.map_append]
      rfl
    have hu0 : vec (Mi.getD f []) c = Dt ((B.take r).map vec ++ [vec (B.getD f [])]) (C ++ [c]) := (bareiss hd0 hu hu hzu hzu c c).1
    have hA1 : ((B.take r).map vec ++ [vec (B.getD f [])]).length = r + 1 := by rw [List.length_append, hA]; rfl
    have hpl : (pivM Mi r f).length = M.length := by rw [len_piv]; exact hlen
    refine ⟨pivM B r f, C ++ [c], (pivM_perm hfB f1).trans hperm, by rw [len_red]; exact hpl, by show r + 1 ≤ M.length; omega, by rw [List.length_append, hcl]; rfl, fun j hj => ?_, List.pairwise_append.mpr ⟨hasc, List.pairwise_singleton _ _, fun a ha b hb => by rw [List.mem_singleton.mp hb]; exact hclt a ha⟩, ?_, ?_, f3, ?_, ?_, fun i hi hi2 => ?_⟩
    · rcases List.mem_append.mp hj with z | z
      · exact Nat.lt_succ_of_lt (hclt j z)
      · have := List.mem_singleton.mp z
        omega
    · exact red_rows (hrows _ (getD_mem hfM)) fun x hx => hrows x (piv_mem hrM hfM x hx)
    · show Dt (((pivM B r f).take (r + 1)).map vec) (C ++ [c]) = _
      rw [eA, ← hu0]
      rfl
    · show (if f = r then sg else -sg) = 1 ∨ _ = -1
      split
      · exact hsg
      · rcases hsg with e | e <;> rw [e] <;> simp
    · show Dt ((pivM B r f).map vec) = fun ds => (if f = r then sg else -sg) * Dt (M.map vec) ds
      rw [pivM_dt hfB f1, hsgn]
      funext ds
      dsimp only
      split
      · rw [Int.one_mul]
      · rw [← Int.mul_assoc]
        congr 1
        omega
    · have hi' : r + 1 ≤ i := hi
      have hiM : i < (pivM Mi r f).length := by omega
      -- the row that is reduced
      have ek : ∃ k, r ≤ k ∧ k < M.length ∧ (pivM Mi r f).getD i [] = Mi.getD k [] ∧ (pivM B r f).getD i [] = B.getD k [] :=
        ⟨if i = f then r else i, by split <;> omega, by split <;> omega, pivM_i hfM f1 (by omega), pivM_i hfB f1 (by omega)⟩
      obtain ⟨k, k1, k2, ek1, ek2⟩ := ek
      obtain ⟨⟨mv, hmv⟩, zv⟩ := hrest k k1 k2
      have hv : ∀ j, vec (Mi.getD k []) j = Dt ((B.take r).map vec) C * vec (B.getD k []) j + sumN ((B.take r).map vec).length (fun t => rw_ ((B.take r).map vec) t j * mv t) := fun j => by rw [hdet, ← conv]; exact hmv j
      have hzv : ∀ d ∈ C, vec (Mi.getD k []) d = 0 := fun d hd => zv d (hclt d hd)
      have er : (redTo last (Mi.getD f []) c r (pivM Mi r f).length (pivM Mi r f)).getD i [] = redRow last (Mi.getD f []) c (Mi.getD k []) := by
        refine getD_of ?_
        rw [red_at, getD_some hiM, ek1]
        show some (if r < i ∧ i < (pivM Mi r f).length then _ else _) = _
        rw [if_pos ⟨by omega, hiM⟩]
      have val : ∀ j, vec (redRow last (Mi.getD f []) c (Mi.getD k [])) j = Dt (((B.take r).map vec ++ [vec (B.getD f [])]) ++ [vec (B.getD k [])]) ((C ++ [c]) ++ [j]) := fun j => by
        rw [vec_red (hrows _ (getD_mem hfM)) (hrows _ (getD_mem (by omega : k < Mi.length))), (bareiss hd0 hu hv hzu hzv c j).2, hdet]
        exact Int.mul_fdiv_cancel_left _ hnz
      dsimp only
      rw [er, ek2]
      obtain ⟨G, hG⟩ := dt_colS ((B.take r).map vec ++ [vec (B.getD f [])]) (vec (B.getD k []))
      refine ⟨⟨fun t => G t (C ++ [c]), fun j => ?_⟩, fun j hj => ?_⟩
      · rw [val, hG, ← hu0, hA1, Int.mul_comm]
        congr 1
        refine sumN_congr fun t ht => ?_
        have e1 : rw_ ((B.take r).map vec ++ [vec (B.getD f [])]) t = vec ((pivM B r f).getD t []) := by
          rw [← eA]
          exact map_take_rw (by rw [len_piv]; omega) ht
        rw [e1]
      · rw [vec_red (hrows _ (getD_mem hfM)) (hrows _ (getD_mem (by omega : k < Mi.length)))]
        rcases Nat.lt_or_ge j c with z | z
        · rw [zu j z, zv j z]
          simp
        · have : j = c := by omega
          subst this
          rw [Int.mul_comm, Int.sub_self]
          simp
theorem BI.all {M : List (List Int)} {w : Nat} (hw : RowsW w M) : ∀ c, ∃ B C, BI M w c (clrN M c) B C
  | 0 => ⟨M, [], BI.start hw⟩
  | c + 1 => by
    obtain ⟨B, C, h⟩ := BI.all hw c
    exact h.step
/-- what the clearing tells: r rows of M with a minor that is not 0; all the others rest on them -/
theorem clr_struct {M : List (List Int)} {w : Nat} (hw : RowsW w M) : ∃ (B : List (List Int)) (C : List Nat), B.Perm M ∧ clrRank M ≤ M.length ∧ C.length = clrRank M ∧ (∀ j ∈ C, j < widthOf M) ∧ Dt ((B.take (clrRank M)).map vec) C ≠ 0 ∧
    (∀ i, clrRank M ≤ i → i < M.length → ∃ (d : Int) (m : Nat → Int), d ≠ 0 ∧ ∀ j, d * vec (B.getD i []) j = sumN (clrRank M) (fun t => vec (B.getD t []) j * m t)) ∧
    ∃ sg : Int, (sg = 1 ∨ sg = -1) ∧ clrDet M = sg * Dt ((B.take (clrRank M)).map vec) C ∧ Dt (B.map vec) = fun ds => sg * Dt (M.map vec) ds := by
  have hW : RowsW (widthOf M) M := by
    unfold widthOf
    cases M with
    | nil => exact fun row hr => by cases hr
    | cons x xs =>
      have e : x.length = w := hw x (List.mem_cons_self ..)
      exact fun row hr => (hw row hr).trans e.symm
  obtain ⟨B, C, h⟩ := BI.all hW (widthOf M)
  refine ⟨B, C, h.perm, h.le, h.cl, h.clt, ?_, fun i h1 h2 => ?_, _, h.sg, ?_, h.sgn⟩
  · show Dt ((B.take (clrN M (widthOf M)).2.1).map vec) C ≠ 0
    rw [h.det]
    exact h.nz
  · obtain ⟨⟨m, hm⟩, hz⟩ := h.rest i h1 h2
    refine ⟨(clrN M (widthOf M)).2.2.2, fun t => - m t, h.nz, fun j => ?_⟩
    have hv : vec ((clrN M (widthOf M)).1.getD i []) j = 0 := by
      rcases Nat.lt_or_ge j (widthOf M) with z | z
      · exact hz j z
      · have hl := h.rows _ (getD_mem (by rw [h.len]; exact h2 : i < (clrN M (widthOf M)).1.length))
        unfold vec
        rw [List.getD_eq_getElem?_getD, List.getElem?_eq_none (by omega)]
        rfl
    have := hm j
    rw [hv] at this
    have e2 : sumN (clrRank M) (fun t => vec (B.getD t []) j * - m t) = - sumN (clrRank M) (fun t => vec (B.getD t []) j * m t) := by
      have := sumN_mul (n := clrRank M) (-1) (fun t => vec (B.getD t []) j * m t)
      rw [show - sumN (clrRank M) (fun t => vec (B.getD t []) j * m t) = (-1) * sumN (clrRank M) (fun t => vec (B.getD t []) j * m t) by omega, ← this]
      exact sumN_congr fun t _ => by grind
    rw [e2]
    show _ = - sumN (clrN M (widthOf M)).2.1 _
    omega
  · show (clrN M (widthOf M)).2.2.1 * (clrN M (widthOf M)).2.2.2 = _ * Dt ((B.take (clrN M (widthOf M)).2.1).map vec) C
    rw [h.det]
/-- a full minor: the columns are all columns -/
theorem asc_range : ∀ {n : Nat} {C : List Nat}, C.Pairwise (· < ·) → (∀ j ∈ C, j < n) → C.length = n → C = List.range n := fun {n C} h1 h2 h3 => by
  have ge : ∀ (i : Nat) (h : i < C.length), i ≤ C[i] := fun i => by
    induction i with
    | zero => intro h; exact Nat.zero_le _
    | succ i ih =>
      intro h
      have a := ih (by omega)
      have b := List.pairwise_iff_getElem.mp h1 i (i + 1) (by omega) h (by omega)
      omega
  have le : ∀ (k i : Nat) (h : i < C.length), C.length - 1 - i = k → C[i] ≤ i := fun k => by
    induction k with
    | zero =>
      intro i h hk
      have := h2 _ (List.getElem_mem h)
      omega
    | succ k ih =>
      intro i h hk
      have a := ih (i + 1) (by omega) (by omega)
      have b := List.pairwise_iff_getElem.mp h1 i (i + 1) h (by omega) (by omega)
      omega
  refine List.ext_getElem (by rw [h3, List.length_range]) fun i a b => ?_
  rw [List.getElem_range]
  exact Nat.le_antisymm (le _ i a rfl) (ge i a)
theorem clr_det_full {M : List (List Int)} {w : Nat} (hw : RowsW w M) (hl : M.length = w) (hr : clrRank M = M.length) : clrDet M = Dt (M.map vec) (List.range w) := by
  have hW : RowsW (widthOf M) M ∧ widthOf M ≤ w := by
    unfold widthOf
    cases M with
    | nil => exact ⟨fun row hr => (by cases hr), Nat.zero_le _⟩
    | cons x xs =>
      have e : x.length = w := hw x (List.mem_cons_self ..)
      exact ⟨fun row hr => (hw row hr).trans e.symm, Nat.le_of_eq e⟩
  obtain ⟨B, C, h⟩ := BI.all hW.1 (widthOf M)
  have hC : C = List.range w := asc_range h.asc (fun j hj => Nat.lt_of_lt_of_le (h.clt j hj) hW.2) (h.cl.trans (hr.trans hl))
  have e1 : B.take (clrN M (widthOf M)).2.1 = B := List.take_of_length_le (by rw [h.blen]; exact Nat.le_of_eq hr.symm)
  have hd := h.det
  rw [e1, h.sgn, hC] at hd
  show (clrN M (widthOf M)).2.2.1 * (clrN M (widthOf M)).2.2.2 = _
  rw [← hd]
  rcases h.sg with e | e <;> rw [e] <;> grind
end TL
namespace TL
/-! ### the determinant of the transposed -/
theorem sumN_front (n : Nat) (f : Nat → Int) : sumN (n + 1) f = f 0 + sumN n (fun t => f (t + 1)) := by
  induction n with
  | zero => show 0 + f 0 = f 0 + 0; omega
  | succ n ih =>
    show sumN (n + 1) f + f (n + 1) = f 0 + (sumN n (fun t => f (t + 1)) + f (n + 1))
    rw [ih]
    omega
/-- the expansion by a row, told in full -/
theorem wd_full (x : Vec) : ∀ (cs : List Nat) (F : Frm), Wd x cs F = sumN cs.length (fun k => sgA (cs.length - 1 - k) * x (cs.getD k 0) * F (cs.eraseIdx k))
  | [], F => rfl
  | c :: cs, F => by
    show Wd x cs (fun ds => F (c :: ds)) + sgA cs.length * x c * F cs = sumN (cs.length + 1) _
    rw [sumN_front, wd_full x cs]
    have e : sumN cs.length (fun k => sgA (cs.length - 1 - k) * x (cs.getD k 0) * F (c :: cs.eraseIdx k)) = sumN cs.length (fun t => sgA ((c :: cs).length - 1 - (t + 1)) * x ((c :: cs).getD (t + 1) 0) * F ((c :: cs).eraseIdx (t + 1))) := by
      refine sumN_congr fun t ht => ?_
      rw [show (c :: cs).length - 1 - (t + 1) = cs.length - 1 - t by rw [List.length_cons]; omega]
      rfl
    rw [e]
    show _ + sgA cs.length * x c * F cs = sgA ((c :: cs).length - 1 - 0) * x c * F cs + _
    rw [show (c :: cs).length - 1 - 0 = cs.length by rw [List.length_cons]; omega]
    omega
/-- the expansion by the last column -/
theorem dt_last : ∀ (A : List Vec) (ds : List Nat) (j : Nat), Dt A (ds ++ [j]) = sumN A.length (fun t => sgA (A.length - 1 - t) * rw_ A t j * Dt (A.eraseIdx t) ds) := by
  refine rev_ind ?_ ?_
  · intro ds j
    show d0 (ds ++ [j]) = 0
    cases ds <;> rfl
  · intro A x ih ds j
    rw [dt_snoc]
    show Wd x (ds ++ [j]) (Dt A) = _
    rw [wd_last]
    have e1 : (fun es => Dt A (es ++ [j])) = fun es => sumN A.length (fun t => (sgA (A.length - 1 - t) * rw_ A t j) * Dt (A.eraseIdx t) es) := funext fun es => ih es j
    rw [e1, wd_sum x ds A.length (fun t => sgA (A.length - 1 - t) * rw_ A t j) (fun t => Dt (A.eraseIdx t))]
    rw [List.length_append, List.length_singleton]
    show _ = sumN A.length _ + sgA (A.length + 1 - 1 - A.length) * rw_ (A ++ [x]) A.length j * Dt ((A ++ [x]).eraseIdx A.length) ds
    rw [rw_last, show A.length + 1 - 1 - A.length = 0 by omega]
    have e2 : (A ++ [x]).eraseIdx A.length = A := by
      rw [List.eraseIdx_append_of_length_le (Nat.le_refl _), Nat.sub_self]
      show A ++ [] = A
      rw [List.append_nil]
    rw [e2]
    have e3 : sumN A.length (fun t => sgA (A.length + 1 - 1 - t) * rw_ (A ++ [x]) t j * Dt ((A ++ [x]).eraseIdx t) ds) = sumN A.length (fun t => (-1) * (sgA (A.length - 1 - t) * rw_ A t j * Wd x ds (Dt (A.eraseIdx t)))) := by
      refine sumN_congr fun t ht => ?_
      rw [rw_app ht, List.eraseIdx_append_of_lt_length ht, dt_snoc]
      rw [show A.length + 1 - 1 - t = (A.length - 1 - t) + 1 by omega]
      show - sgA (A.length - 1 - t) * rw_ A t j * Wd x ds (Dt (A.eraseIdx t)) = _
      grind
    rw [e3, sumN_mul]
    show _ = _ + 1 * x j * Dt A ds
    rw [Int.one_mul]
    omega
theorem wd_congr {P : Nat → Prop} {x y : Vec} (h : ∀ c, P c → x c = y c) : ∀ (cs : List Nat) (F G : Frm), (∀ c ∈ cs, P c) → (∀ ds, (∀ c ∈ ds, P c) → F ds = G ds) → Wd x cs F = Wd y cs G
  | [], F, G, _, _ => rfl
  | c :: cs, F, G, hc, hF => by
    show Wd x cs (fun ds => F (c :: ds)) + sgA cs.length * x c * F cs = Wd y cs (fun ds => G (c :: ds)) + sgA cs.length * y c * G cs
    rw [h c (hc c (List.mem_cons_self ..)), hF cs fun d hd => hc d (List.mem_cons_of_mem _ hd), wd_congr h cs _ (fun ds => G (c :: ds)) (fun d hd => hc d (List.mem_cons_of_mem _ hd)) fun ds hds => hF (c :: ds) fun d hd => ?_]
    rcases List.mem_cons.mp hd with rfl | hd
    · exact hc _ (List.mem_cons_self ..)
    · exact hds d hd
/-- the form looks at its own columns alone -/
theorem df_congr {P : Nat → Prop} : ∀ (A B : List Vec) (F G : Frm), A.length = B.length → (∀ t c, t < A.length → P c → rw_ A t c = rw_ B t c) → (∀ ds, (∀ c ∈ ds, P c) → F ds = G ds) → ∀ cs, (∀ c ∈ cs, P c) → DF F A cs = DF G B cs
  | [], [], F, G, _, _, hF, cs, hc => hF cs hc
  | [], b :: B, _, _, h, _, _, _, _ => by cases h
  | a :: A, [], _, _, h, _, _, _, _ => by cases h
  | a :: A, b :: B, F, G, hl, h, hF, cs, hc => df_congr A B (WF F a) (WF G b) (Nat.succ.inj hl) (fun t c ht hp => h (t + 1) c (Nat.succ_lt_succ ht) hp) (fun ds hds => wd_congr (fun c hp => h 0 c (Nat.succ_pos _) hp) ds F G hds hF) cs hc
def colsOf (A : List Vec) (cs : List Nat) : List Vec := cs.map fun c => fun i => rw_ A i c
theorem dt_tr : ∀ (n : Nat) (A : List Vec) (cs : List Nat), A.length = n → cs.length = n → Dt A cs = Dt (colsOf A cs) (List.range n)
  | 0, A, cs, ha, hc => by
    rw [List.eq_nil_of_length_eq_zero ha, List.eq_nil_of_length_eq_zero hc]
    rfl
  | n + 1, A, cs, ha, hc => by
    have hne : A ≠ [] := fun z => by rw [z] at ha; cases ha
    obtain ⟨B, x, rfl⟩ : ∃ B x, A = B ++ [x] := ⟨A.dropLast, A.getLast hne, (List.dropLast_concat_getLast hne).symm⟩
    have hb : B.length = n := by simpa using ha
    rw [List.range_succ, dt_last, dt_snoc]
    show Wd x cs (Dt B) = _
    rw [wd_full]
    have hl : (colsOf (B ++ [x]) cs).length = cs.length := by rw [colsOf, List.length_map]
    rw [hl]
    refine sumN_congr fun k hk => ?_
    have e1 : rw_ (colsOf (B ++ [x]) cs) k n = x (cs.getD k 0) := by
      unfold colsOf rw_
      rw [List.getD_eq_getElem?_getD, List.getElem?_map, List.getElem?_eq_getElem hk, List.getD_eq_getElem?_getD, List.getElem?_eq_getElem hk]
      show rw_ (B ++ [x]) n cs[k] = x cs[k]
      rw [← hb, rw_last]
    have e2 : (colsOf (B ++ [x]) cs).eraseIdx k = colsOf (B ++ [x]) (cs.eraseIdx k) := by
      unfold colsOf
      apply List.ext_getElem?
      intro i
      rw [List.getElem?_eraseIdx, List.getElem?_map, List.getElem?_map, List.getElem?_map, List.getElem?_eraseIdx]
      split <;> rfl
    rw [e1, e2]
    congr 1
    have hc' : (cs.eraseIdx k).length = n := by rw [List.length_eraseIdx_of_lt hk]; omega
    rw [dt_tr n B (cs.eraseIdx k) hb hc']
    refine df_congr (P := fun c => c < n) _ _ d0 d0 (by unfold colsOf; rw [List.length_map, List.length_map]) (fun t c ht hp => ?_) (fun _ _ => rfl) _ (fun c h => List.mem_range.mp h)
    unfold colsOf at ht ⊢
    rw [List.length_map] at ht
    unfold rw_
    rw [List.getD_eq_getElem?_getD, List.getD_eq_getElem?_getD, List.getElem?_map, List.getElem?_map, List.getElem?_eq_getElem ht]
    show rw_ B c _ = rw_ (B ++ [x]) c _
    rw [rw_app (by omega)]
end TL
namespace TL
/-! ### how great a minor may be -/
def fb (B : Nat) : Nat → Nat
  | 0 => 1
  | n + 1 => (n + 1) * (B * fb B n)
theorem fb_pos {B : Nat} (h : 0 < B) : ∀ n, 0 < fb B n
  | 0 => Nat.one_pos
  | n + 1 => Nat.mul_pos (Nat.succ_pos n) (Nat.mul_pos h (fb_pos h n))
theorem fb_le {B : Nat} (h : 0 < B) {m n : Nat} (k : m ≤ n) : fb B m ≤ fb B n := by
  induction n with
  | zero => rw [Nat.le_zero.mp k]; exact Nat.le_refl _
  | succ n ih =>
    rcases Nat.lt_or_ge m (n + 1) with c | c
    · refine Nat.le_trans (ih (by omega)) ?_
      show fb B n ≤ (n + 1) * (B * fb B n)
      have h1 : 1 * fb B n ≤ B * fb B n := Nat.mul_le_mul_right _ h
      have h2 : 1 * (B * fb B n) ≤ (n + 1) * (B * fb B n) := Nat.mul_le_mul_right _ (by omega)
      omega
    · rw [Nat.le_antisymm k c]
      exact Nat.le_refl _
theorem sumN_abs {B : Nat} {f : Nat → Int} : ∀ {n : Nat}, (∀ t, t < n → (f t).natAbs ≤ B) → (sumN n f).natAbs ≤ n * B
  | 0, _ => by simp [sumN]
  | n + 1, h => by
    have h1 := sumN_abs (n := n) fun t ht => h t (by omega)
    have h2 := h n (by omega)
    show (sumN n f + f n).natAbs ≤ _
    rw [Nat.succ_mul]
    exact Nat.le_trans (Int.natAbs_add_le ..) (Nat.add_le_add h1 h2)
theorem sgA_abs : ∀ n, (sgA n).natAbs = 1
  | 0 => rfl
  | n + 1 => by
    show (- sgA n).natAbs = 1
    rw [Int.natAbs_neg]
    exact sgA_abs n
theorem dt_bound {B : Nat} : ∀ (A : List Vec) (cs : List Nat), cs.length = A.length → (∀ x ∈ A, ∀ j, (x j).natAbs ≤ B) → (Dt A cs).natAbs ≤ fb B A.length := by
  refine rev_ind ?_ ?_
  · intro cs hc _
    rw [List.eq_nil_of_length_eq_zero hc]
    exact Nat.le_refl _
  · intro A x ih cs hc hx
    rw [List.length_append, List.length_singleton] at hc ⊢
    rw [dt_snoc]
    show (Wd x cs (Dt A)).natAbs ≤ (A.length + 1) * (B * fb B A.length)
    rw [wd_full, ← hc]
    refine sumN_abs fun k hk => ?_
    rw [Int.natAbs_mul, Int.natAbs_mul, sgA_abs, Nat.one_mul]
    refine Nat.mul_le_mul (hx x (List.mem_append_right _ (List.mem_singleton.mpr rfl)) _) (ih _ ?_ fun y hy => hx y (List.mem_append_left _ hy))
    rw [List.length_eraseIdx_of_lt hk]
    omega
/-- what stands in the rows that are not yet cleared is a minor -/
theorem clr_bound {M : List (List Int)} {w c Bd : Nat} (hw : RowsW w M) (hB : ∀ row ∈ M, ∀ j, (vec row j).natAbs ≤ Bd) :
    (clrN M c).2.2.2.natAbs ≤ fb Bd (clrN M c).2.1 ∧ ∀ i, (clrN M c).2.1 ≤ i → i < M.length → ∀ j, (vec ((clrN M c).1.getD i []) j).natAbs ≤ fb Bd ((clrN M c).2.1 + 1) := by
  obtain ⟨B, C, h⟩ := BI.all hw c
  have hBm : ∀ x ∈ B.map vec, ∀ j, (x j).natAbs ≤ Bd := fun x hx j => by
    obtain ⟨row, h1, rfl⟩ := List.mem_map.mp hx
    exact hB row (h.perm.mem_iff.mp h1) j
  have hbl := h.perm.length_eq
  have hlen : ((B.take (clrN M c).2.1).map vec).length = (clrN M c).2.1 := by
    rw [List.length_map, List.length_take]
    have := h.le
    omega
  have hAm : ∀ x ∈ (B.take (clrN M c).2.1).map vec, ∀ j, (x j).natAbs ≤ Bd := fun x hx => by
    obtain ⟨row, h1, rfl⟩ := List.mem_map.mp hx
    exact hBm _ (List.mem_map.mpr ⟨row, List.mem_of_mem_take h1, rfl⟩)
  refine ⟨?_, fun i h1 h2 j => ?_⟩
  · have := dt_bound ((B.take (clrN M c).2.1).map vec) C (by rw [hlen]; exact h.cl) hAm
    rw [h.det, hlen] at this
    exact this
  · obtain ⟨⟨m, hm⟩, hz⟩ := h.rest i h1 h2
    have hA : ∀ t, t < (clrN M c).2.1 → rw_ ((B.take (clrN M c).2.1).map vec) t = vec (B.getD t []) := fun t ht => by
      have := h.le
      unfold rw_
      rw [List.getD_eq_getElem?_getD, List.getElem?_map, List.getElem?_take_of_lt ht, List.getD_eq_getElem?_getD, List.getElem?_eq_getElem (by omega)]
      rfl
    have hv : ∀ j, vec ((clrN M c).1.getD i []) j = (clrN M c).2.2.2 * vec (B.getD i []) j + sumN ((B.take (clrN M c).2.1).map vec).length (fun t => rw_ ((B.take (clrN M c).2.1).map vec) t j * m t) := fun j => by
      rw [hm j, hlen]
      congr 1
      exact sumN_congr fun t ht => by rw [hA t ht]
    have e1 := dt_red hv (C ++ [j])
    have e2 : Dt ((B.take (clrN M c).2.1).map vec ++ [vec ((clrN M c).1.getD i [])]) (C ++ [j]) = vec ((clrN M c).1.getD i []) j * Dt ((B.take (clrN M c).2.1).map vec) C := by
      rw [dt_snoc]
      exact wd_block fun q hq => hz q (h.clt q hq)
    rw [e2, h.det, Int.mul_comm] at e1
    have e3 := Int.eq_of_mul_eq_mul_left h.nz e1
    rw [e3]
    have hbi : vec (B.getD i []) ∈ B.map vec := List.mem_map.mpr ⟨_, getD_mem (by omega), rfl⟩
    have := dt_bound ((B.take (clrN M c).2.1).map vec ++ [vec (B.getD i [])]) (C ++ [j]) (by rw [List.length_append, List.length_append, hlen, h.cl]; rfl) fun x hx => by
      rcases List.mem_append.mp hx with hx | hx
      · exact hAm x hx
      · rw [List.mem_singleton.mp hx]
        exact hBm _ hbi
    rw [List.length_append, hlen] at this
    exact this
end TL
namespace TL
open PySem L2

/-! ### steps of a reading -/
local macro_rules | `(tactic| walk_at "hp") => `(tactic| first | assumption | exact upd_same | (refine (upd_ne (by first | assumption | (exact Ne.symm (by assumption)))).trans ?_; walk_at "hp"))
local macro_rules | `(tactic| walk_at "ok") => `(tactic| first | (exact Or.inr ⟨by decide, by decide⟩) | (exact ⟨by decide, by decide⟩) | (exact ⟨by decide, by decide, by decide⟩) | (show _ ≠ _; omega) | (show _ ≠ _; decide) | (exact Or.inl ⟨by omega, by omega⟩) | decide)
local macro_rules | `(tactic| walk_at "sq") => `(tactic| first | assumption | exact SqL.of (by walk_at "hp") | exact SqT.of (by walk_at "hp"))
local macro_rules | `(tactic| walk_at "ty") => `(tactic| first | refine ⟨_, _, Value.type "int", Value.type "list", false, rfl, ClsV.ty _, TyX.base (TyOf.int _), kt_int_list, ?_⟩ | refine ⟨_, _, Value.type "bool", Value.type "list", false, rfl, ClsV.ty _, TyX.base (TyOf.bl _), kt_bool_list, ?_⟩ | refine ⟨_, _, Value.type "str", Value.type "list", false, rfl, ClsV.ty _, TyX.base (TyOf.str _), kt_str_list, ?_⟩ | refine ⟨_, _, Value.type "NoneType", Value.type "list", false, rfl, ClsV.ty _, TyX.base TyOf.non, kt_NoneType_list, ?_⟩ | refine ⟨_, _, Value.type "list", Value.type "list", true, rfl, ClsV.ty _, tyx_L (by walk_at "sq"), kt_list_list, ?_⟩ | refine ⟨_, _, Value.type "tuple", Value.type "list", false, rfl, ClsV.ty _, tyx_T (by walk_at "sq"), kt_tuple_list, ?_⟩ | refine ⟨_, _, Value.type "int", Value.type "tuple", false, rfl, ClsV.ty _, TyX.base (TyOf.int _), kt_int_tuple, ?_⟩ | refine ⟨_, _, Value.type "bool", Value.type "tuple", false, rfl, ClsV.ty _, TyX.base (TyOf.bl _), kt_bool_tuple, ?_⟩ | refine ⟨_, _, Value.type "str", Value.type "tuple", false, rfl, ClsV.ty _, TyX.base (TyOf.str _), kt_str_tuple, ?_⟩ | refine ⟨_, _, Value.type "NoneType", Value.type "tuple", false, rfl, ClsV.ty _, TyX.base TyOf.non, kt_NoneType_tuple, ?_⟩ | refine ⟨_, _, Value.type "list", Value.type "tuple", false, rfl, ClsV.ty _, tyx_L (by walk_at "sq"), kt_list_tuple, ?_⟩ | refine ⟨_, _, Value.type "tuple", Value.type "tuple", true, rfl, ClsV.ty _, tyx_T (by walk_at "sq"), kt_tuple_tuple, ?_⟩ | refine ⟨_, _, Value.type "int", Value.type "bool", false, rfl, ClsV.ty _, TyX.base (TyOf.int _), kt_int_bool, ?_⟩ | refine ⟨_, _, Value.type "bool", Value.type "bool", true, rfl, ClsV.ty _, TyX.base (TyOf.bl _), kt_bool_bool, ?_⟩ | refine ⟨_, _, Value.type "str", Value.type "bool", false, rfl, ClsV.ty _, TyX.base (TyOf.str _), kt_str_bool, ?_⟩ | refine ⟨_, _, Value.type "NoneType", Value.type "bool", false, rfl, ClsV.ty _, TyX.base TyOf.non, kt_NoneType_bool, ?_⟩ | refine ⟨_, _, Value.type "list", Value.type "bool", false, rfl, ClsV.ty _, tyx_L (by walk_at "sq"), kt_list_bool, ?_⟩ | refine ⟨_, _, Value.type "tuple", Value.type "bool", false, rfl, ClsV.ty _, tyx_T (by walk_at "sq"), kt_tuple_bool, ?_⟩ | refine ⟨_, _, Value.type "int", Value.type "int", true, rfl, ClsV.ty _, TyX.base (TyOf.int _), kt_int_int, ?_⟩ | refine ⟨_, _, Value.type "bool", Value.type "int", true, rfl, ClsV.ty _, TyX.base (TyOf.bl _), kt_bool_int, ?_⟩ | refine ⟨_, _, Value.type "str", Value.type "int", false, rfl, ClsV.ty _, TyX.base (TyOf.str _), kt_str_int, ?_⟩ | refine ⟨_, _, Value.type "NoneType", Value.type "int", false, rfl, ClsV.ty _, TyX.base TyOf.non, kt_NoneType_int, ?_⟩ | refine ⟨_, _, Value.type "list", Value.type "int", false, rfl, ClsV.ty _, tyx_L (by walk_at "sq"), kt_list_int, ?_⟩ | refine ⟨_, _, Value.type "tuple", Value.type "int", false, rfl, ClsV.ty _, tyx_T (by walk_at "sq"), kt_tuple_int, ?_⟩ | refine ⟨_, _, Value.type "int", Value.type "str", false, rfl, ClsV.ty _, TyX.base (TyOf.int _), kt_int_str, ?_⟩ | refine ⟨_, _, Value.type "bool", Value.type "str", false, rfl, ClsV.ty _, TyX.base (TyOf.bl _), kt_bool_str, ?_⟩ | refine ⟨_, _, Value.type "str", Value.type "str", true, rfl, ClsV.ty _, TyX.base (TyOf.str _), kt_str_str, ?_⟩ | refine ⟨_, _, Value.type "NoneType", Value.type "str", false, rfl, ClsV.ty _, TyX.base TyOf.non, kt_NoneType_str, ?_⟩ | refine ⟨_, _, Value.type "list", Value.type "str", false, rfl, ClsV.ty _, tyx_L (by walk_at "sq"), kt_list_str, ?_⟩ | refine ⟨_, _, Value.type "tuple", Value.type "str", false, rfl, ClsV.ty _, tyx_T (by walk_at "sq"), kt_tuple_str, ?_⟩)
local macro_rules | `(tactic| walk_at "go1") => `(tactic| first
  | (refine ⟨_, rfl, ?_⟩)
  | (refine ⟨_, _, rfl, rfl, ?_⟩)
  | (refine ⟨_, _, _, _, rfl, rfl, SqL.of (by walk_at "hp"), rfl, ?_⟩)
  | (refine Or.inl ⟨_, rfl, ?_⟩)
  | (refine ⟨rfl, ?_⟩)
  | (refine ⟨_, _, rfl, .inl (SqL.of (by walk_at "hp")), ?_⟩)
  | (refine ⟨_, _, rfl, Or.inl (by assumption), ?_⟩)
  | (refine ⟨_, _, rfl, Or.inr (by assumption), ?_⟩)
  | (refine ⟨(by walk_at "ok"), ?_⟩)
  | (refine ⟨_, _, _, _, rfl, rfl, (by walk_at "hp"), rfl, ?_⟩))
local macro_rules | `(tactic| walk_at "go") => `(tactic| repeat (walk_at "go1"))
local macro_rules | `(tactic| walk_at "gt") => `(tactic| repeat (first | walk_at "go1" | walk_at "ty"))

section
variable {P : Program} {w : World} {K : PySem.W.Frag} {mg : Str → Option Value} {base : Heap}
-- [0=matrix, 1=rows, 2=width, 3=rank, 4=sign, 5=last*, 6=column*, 7=found, 8=head*, 9=at, 10=item*, 11=row, 12=own, 13=top]
/-- a matrix: a list or a tuple of lists or tuples -/
structure MatS (K : PySem.W.Frag) (H : Hp) (p : Addr) (M : List (List Int)) : Prop where
  ex : ∃ rs, Sq K H p rs ∧ rs.length = M.length ∧ ∀ (i : Nat) r, rs[i]? = some r → ∃ t row, r = .ref t ∧ M[i]? = some row ∧ Sq K H t (row.map V.int)
/-- what stands while it is cleared is not too great -/
def ClB (b : Nat) (M : List (List Int)) : Prop := ∀ c, (clrN M c).2.2.2.natAbs < 2 ^ b ∧ ∀ i, (clrN M c).2.1 ≤ i → i < (clrN M c).1.length → ∀ x ∈ (clrN M c).1.getD i [], x.natAbs < 2 ^ b
/-- what holds behind each column, sizes aside -/
structure ClS (n w : Nat) (s : CSt) : Prop where
  len : s.1.length = n
  rows : RowsW w s.1
  le : s.2.1 ≤ n
  nz : s.2.2.2 ≠ 0
theorem clrS {w : Nat} {M : List (List Int)} (hw : RowsW w M) (c : Nat) : ClS M.length w (clrN M c) := by
  obtain ⟨B, C, h⟩ := BI.all hw c
  exact ⟨h.len, h.rows, h.le, h.nz⟩
theorem piv_bd {B r f : Nat} {M : List (List Int)} (f1 : r ≤ f) (hr : r < M.length) (hf : f < M.length) (h : ∀ i, r ≤ i → i < M.length → ∀ x ∈ M.getD i [], x.natAbs < 2 ^ B) : ∀ i, r ≤ i → i < M.length → ∀ x ∈ (pivM M r f).getD i [], x.natAbs < 2 ^ B := fun i h1 h2 => by
  unfold pivM
  by_cases e : f = r
  · rw [if_pos e]
    exact h i h1 h2
  · rw [if_neg e]
    unfold swapR
    by_cases e1 : i = f
    · subst e1
      rw [getD_of (List.getElem?_set_self (by rw [List.length_set]; exact h2))]
      exact h r (Nat.le_refl _) hr
    · by_cases e2 : i = r
      · subst e2
        rw [getD_of (row := M.getD f []) (by rw [List.getElem?_set_ne (by omega), List.getElem?_set_self h2])]
        exact h f f1 hf
      · have : ((M.set r (M.getD f [])).set f (M.getD r [])).getD i [] = M.getD i [] := by
          rw [List.getD_eq_getElem?_getD, List.getElem?_set_ne (by omega), List.getElem?_set_ne (by omega), ← List.getD_eq_getElem?_getD]
        rw [this]
        exact h i h1 h2
def spClearedS (K : PySem.W.Frag) : Sp := fun vs H Q _ => ∃ (p : Addr) (M : List (List Int)) (b w : Nat), vs = [.ref p] ∧ MatS K H p M ∧ RowsW w M ∧ ClB b M ∧ 0 < b ∧ b < 9000 ∧ M.length ≤ 1000 ∧ w ≤ 1000 ∧ ∀ t H', Same H H' → H' t = some (.tup [.int (clrRank M : Int), .int (clrDet M)]) → Q (.ref t) H'
theorem ok_clearedS (T : Tx K mg) : FnOk P w K mg base CX0 2 T.f__cleared T.d__cleared ["matrix"] (spClearedS K) := by
  have G__filled_from := ok_filled (P := P) (w := w) (base := base) T
  refine T.F__cleared.ok sc__cleared (fun vs H Q E h => ?_) (fun cdv A outer s H vs Q E hr h => ?_)
  · obtain ⟨p, M, r, c, rfl, _⟩ := h
    rfl
  obtain ⟨p, M, B, w, rfl, hM, hw, hE, hB0, hB, hn, hw1, q⟩ := h
  obtain ⟨rs, h1, h2⟩ := hM.ex
  have nd := sc__cleared.nd
  refine ⟨_, (pss_cons (ps_setLc (i := 1) (own := [("row", 11)]) (g := (gName 11)) rfl nd rfl rfl (sw_true rfl rfl rfl (by decide +kernel)) (show PI _ _ _ (iSeq K _) from pi_seq (pv 0)) (blkOk_by (own := [("row", 11)]) (N := N__cleared) (sc := defScope s__cleared) (by decide +kernel)) (fun _ _ _ _ _ => by exact (pg_name (i := 11) nd rfl (Or.inl rfl))) (fun _ _ _ _ _ => by exact pts_nil) (fun _ _ _ _ _ => by exact (pe_callTy (show CallR _ _ (rListOf K) from call_list_of) (by rfl) T.z_list (by decide +kernel) (pa_cons (pv 11) pa_nil))))
    (pss_cons (ps_set (i := 2) nd rfl (Or.inl rfl) (pe_ifExp (pt_truth (pv 1) (by intro _; rfl)) (pe_callB (show CallR _ _ (rLenSq K) from call_len_seq) (by rfl) T.z_len (by decide +kernel) (pa_cons (pe_ix (show IxR _ (rIxL K) from ix_list) (pv 1) pe_int (fun _ _ => rfl)) pa_nil)) pe_int))
    (pss_cons (ps_set (i := 3) nd rfl (Or.inl rfl) pe_int)
    (pss_cons (ps_set (i := 4) nd rfl (Or.inl rfl) pe_int)
    (pss_cons (ps_set (i := 5) nd rfl (Or.inr rfl) pe_int)
    (pss_cons (ps_for PassesOwn.never rfl (pi_range1 (by rfl) T.z_range (pa_cons (pv 2) pa_nil)) (pg_name (i := 6) nd rfl (Or.inr rfl)) (pss_cons (ps_set (i := 7) nd rfl (Or.inl rfl) (pe_call G__filled_from hr (by rfl) T.m__filled_from T.F__filled_from.kp T.b__filled_from .nil pass0 (pa_cons (pv 1) (pa_cons (pv 3) (pa_cons (pv 6) pa_nil)))))
    (pss_cons (ps_if (pt_cmpR op_isN (pv 7) pe_non (nomark _)) (pss_one ps_continue) pss_nil)
    (pss_cut (ps_if (pt_cmpR op_ne (pv 7) (pv 3) (nomark _)) (pss_cons (ps_asg (pe_tup (pa_cons (pe_ix (show IxR _ (rIxL K) from ix_list) (pv 1) (pv 7) (fun _ _ => rfl)) (pa_cons (pe_ix (show IxR _ (rIxL K) from ix_list) (pv 1) (pv 3) (fun _ _ => rfl)) pa_nil))) (pg_tup rfl (pgs_cons (pg_sub (pv 1) (pv 3) set_list) (pgs_cons (pg_sub (pv 1) (pv 7) set_list) pgs_nil))))
    (pss_one (ps_set (i := 4) nd rfl (Or.inl rfl) (pe_un un_neg (pv 4))))) pss_nil)
    (pss_cons (ps_set (i := 8) nd rfl (Or.inr rfl) (pe_ix (show IxR _ (rIxL K) from ix_list) (pv 1) (pv 3) (fun _ _ => rfl)))
    (pss_cons (ps_for PassesOwn.never rfl (pi_range2 (by rfl) T.z_range (pa_cons (pe_op op_add (pv 3) pe_int) (pa_cons (pe_callB (show CallR _ _ (rLenSq K) from call_len_seq) (by rfl) T.z_len (by decide +kernel) (pa_cons (pv 1) pa_nil)) pa_nil))) (pg_name (i := 9) nd rfl (Or.inl rfl)) (pss_cons (ps_set (i := 10) nd rfl (Or.inr rfl) (pe_ix (show IxR _ (rIxL K) from ix_list) (pe_ix (show IxR _ (rIxL K) from ix_list) (pv 1) (pv 9) (fun _ _ => rfl)) (pv 6) (fun _ _ => rfl)))
    (pss_one (ps_asg (pe_lc (own := [("own", 12), ("top", 13)]) (g := (gTup K 2 (gCons (gName 12) (gCons (gName 13) gNil)))) rfl nd (show PI _ _ _ (RZ.iZipA K _) from RZ.pi_zipA (by rfl) T.z_zip (pa_cons (pe_ix (show IxR _ (rIxL K) from ix_list) (pv 1) (pv 9) (fun _ _ => rfl)) (pa_cons (pv 8) pa_nil))) (blkOk_by (own := [("own", 12), ("top", 13)]) (N := N__cleared) (sc := defScope s__cleared) (by decide +kernel)) (fun _ _ _ _ _ => by exact (pg_tup rfl (pgs_cons (pg_name (i := 12) nd rfl (Or.inl rfl)) (pgs_cons (pg_name (i := 13) nd rfl (Or.inl rfl)) pgs_nil)))) (fun _ _ _ _ _ => by exact pts_nil) (fun _ _ _ _ _ => by exact (pe_op op_fdivZ (pe_op op_sub (pe_op op_mulW (pe_ix (show IxR _ (rIxL K) from ix_list) (pv 8) (pv 6) (fun _ _ => rfl)) (pv 12)) (pe_op op_mulW (pv 10) (pv 13))) (pv 5)))) (pg_sub (pv 1) (pv 9) set_list)))))
    (pss_cons (ps_set (i := 5) nd rfl (Or.inr rfl) (pe_ix (show IxR _ (rIxL K) from ix_list) (pv 8) (pv 6) (fun _ _ => rfl)))
    (pss_one (ps_aug (i := 3) nd rfl (Or.inl rfl) pe_int ip_add)))))))))
    (pss_one (ps_ret (pe_tup (pa_cons (pv 3) (pa_cons (pe_op op_mulW (pv 4) (pv 5)) pa_nil))))))))))), ?_⟩
  refine ⟨_, rfl, p, rs, rfl, h1, fun J hJ D hD => ?_⟩
  refine lcsD (walk_seq hJ) (fun i y H => ∃ t row, y = V.ref t ∧ t ≠ D ∧ M[i]? = some row ∧ H t = some (.lst (row.map V.int))) (fun i y H1 H2 s1 ⟨t, row, a1, a0, a2, a3⟩ => ⟨t, row, a1, a0, a2, s1 _ _ a3⟩)
    (fun i y H1 zs zs' hz' ⟨t, row, a1, a0, a2, a3⟩ => ⟨t, row, a1, a0, a2, by rw [upd_ne a0]; exact a3⟩) (by rw [h2.1]; omega) hD (fun H1 s1 => s1) ?_ fun ys H1 hl hys s1 hD1 => ?_
  · rintro i x H1 H2 hi s1 ⟨zs, hz⟩ ⟨rfl, hx⟩ k hk
    obtain ⟨t, row, rfl, e2, e3⟩ := h2.2 i x hx
    refine ⟨rfl, ?_⟩
    exact ⟨_, rfl, t, row.map V.int, rfl, e3.same s1, fun p2 hp2 => hk _ _ (Same.new hp2) ⟨p2, row, rfl, (ne_of_none hz hp2).symm, e2, upd_same⟩⟩
  have m1 : MatL H1 ys M := ⟨by rw [hl, h2.1], fun i r hr => by
    obtain ⟨t, row, a1, a0, a2, a3⟩ := hys i r hr
    exact ⟨t, row, a1, a2, a3⟩⟩
  clear hys hl
  -- the width
  have wid : ∀ Qw : VK, Qw (.int (widthOf M : Int)) H1 → (tIf
      (fun σ H_1 Q => tVar 1 σ H_1 fun x H' => ∃ k, TruV K x H' k ∧ Q k H')
      (tCB (rLenSq K) (tCons (tOp (rIxL K) (tVar 1) (tC (V.int 0))) tNil)) (tC (V.int 0))) ([some (.ref p), some (.ref D), none, none, none, none, none, none, none, none, none, none, none, none]) H1 Qw := fun Qw k => by
    refine ⟨_, rfl, !ys.isEmpty, .inl ⟨ys, SqL.of hD1, rfl⟩, ?_⟩
    refine ite2 (fun c => ?_) (fun c => ?_)
    · have h0 : 0 < M.length := by
        rw [← m1.1]
        cases ys with
        | nil => cases c
        | cons y ys => exact Nat.succ_pos _
      obtain ⟨t, g1, g2⟩ := m1.at h0
      refine ⟨_, rfl, _, _, _, _, rfl, rfl, SqL.of hD1, at_of (j := 0) rfl g1, t, _, rfl, .inl (SqL.of g2), ?_⟩
      rw [List.length_map]
      exact k
    · have h0 : M = [] := by
        have : ys = [] := by
          cases ys with
          | nil => rfl
          | cons y ys => exact absurd rfl c
        have := m1.1
        subst ys
        exact List.eq_nil_of_length_eq_zero this.symm
      subst h0
      exact k
  refine wid _ ?_
  clear wid
  have hww : widthOf M ≤ w ∧ RowsW (widthOf M) M := by
    unfold widthOf
    cases M with
    | nil => exact ⟨Nat.zero_le _, fun row hr => by cases hr⟩
    | cons x xs =>
      have e : x.length = w := hw x (List.mem_cons_self ..)
      exact ⟨Nat.le_of_eq e, fun row hr => (hw row hr).trans e.symm⟩
  have CI := clrS hww.2
  generalize hW : widthOf M = W at *
  refine ⟨_, rfl, _, rfl, by omega, by omega, for_range (lo := 0) (n := ((W : Nat) : Int).toNat) (fun i σ' H' => (∃ a6 a7 a8 a9 a10 : Option V, σ' = [some (.ref p), some (.ref D), some (.int (W : Int)), some (.int ((clrN M i).2.1 : Int)), some (.int (clrN M i).2.2.1), some (.int (clrN M i).2.2.2), a6, a7, a8, a9, a10, none, none, none]) ∧ Same H H' ∧ Mat H' D (clrN M i).1) ⟨⟨_, _, _, _, _, rfl⟩, s1, ys, hD1, m1⟩ ?_ ?_⟩
  · rintro i σ' H2 hi ⟨⟨a6, a7, a8, a9, a10, rfl⟩, s2, hM2⟩
    have I := CI i
    have e0 : (0 : Int) + (i : Int) = (i : Int) := by omega
    obtain ⟨hIsm, hIb⟩ := hE i
    have est : clrN M (i + 1) = stepC i (clrN M i) := rfl
    have hIl := I.len
    have hIr := I.rows
    have hIle := I.le
    have hInz := I.nz
    unfold stepC at est
    generalize hcl : clrN M i = cs at *
    obtain ⟨Mi, r, sg, last⟩ := cs
    dsimp only at *
    rw [e0]
    refine ⟨_, rfl, _, rfl, _, rfl, D, Mi, r, i, W, rfl, hM2, hIr, by omega, by omega, by omega, by omega, ?_⟩
    cases hf : ffrom Mi i r (Mi.length - r) with
    | none =>
      rw [hf] at est
      dsimp only at est ⊢
      refine ⟨_, rfl, rfl, _, rfl, ?_⟩
      refine ite_dec rfl ?_
      rw [est]
      exact ⟨⟨_, _, _, _, _, rfl⟩, s2, hM2⟩
    | some f =>
      rw [hf] at est
      dsimp only at est ⊢
      obtain ⟨f1, f2, f3⟩ := ffrom_some hf
      have hfl : f < Mi.length := by omega
      have hrl : r < Mi.length := by omega
      refine ⟨_, rfl, rfl, _, rfl, ?_⟩
      refine ite_dec' (fun z => by cases z) ?_
      obtain ⟨rsi, g1, g2⟩ := hM2.ex
      obtain ⟨tf, gf, gf2⟩ := g2.at hfl
      obtain ⟨tr, gr, gr2⟩ := g2.at hrl
      have hn0 : 0 < Mi.length := by omega
      have hp := piv_at hrl hfl
      have hd : (pivM Mi r f).getD r [] = Mi.getD f [] := getD_of hp
      have hmem := getD_mem hfl
      have hpl : (pivM Mi r f).length = Mi.length := len_piv ..
      have hpe : ∀ i, r ≤ i → i < Mi.length → ∀ x ∈ (pivM Mi r f).getD i [], x.natAbs < 2 ^ B := piv_bd f1 hrl hfl hIb
      have hpw : RowsW W (pivM Mi r f) := fun row hr => hIr row (piv_mem hrl hfl row hr)
      have hhe : ∀ x ∈ Mi.getD f [], x.natAbs < 2 ^ B := hIb f f1 hfl
      have hhw := hIr _ hmem
      refine ⟨fun σ' H' => σ' = [some (.ref p), some (.ref D), some (.int (W : Int)), some (.int (r : Int)), some (.int (if f = r then sg else -sg)), some (.int last), some (.int (i : Int)), some (.int (f : Int)), a8, a9, a10, none, none, none] ∧ Same H H' ∧ Mat H' D (pivM Mi r f), ?_, ?_⟩
      · refine ⟨_, rfl, _, rfl, rfl, _, rfl, ?_⟩
        refine ite2 (fun c => ?_) (fun c => ?_)
        · have c' : f ≠ r := fun z => by
            subst z
            simp at c
          refine ⟨_, rfl, _, rfl, _, _, _, _, rfl, rfl, SqL.of g1, at_of (j := f) rfl gf, _, rfl, _, rfl, _, _, _, _, rfl, rfl, SqL.of g1, at_of (j := r) rfl gr, (by show 2 ≤ sizeLine; decide), fun t ht => ?_⟩
          have st := Same.new (o := .tup [.ref tf, .ref tr]) ht
          have g1' := st _ _ g1
          have g2' := g2.same st
          refine ⟨t, _, rfl, SqT.of upd_same, rfl, _, _, rfl, ?_⟩
          refine ⟨_, rfl, _, rfl, D, _, _, r, rfl, rfl, g1', ixN_at (by rw [g2.1]; exact hrl), _, _, rfl, ?_⟩
          refine ⟨_, rfl, _, rfl, D, _, _, f, rfl, rfl, upd_same, ixN_at (by rw [List.length_set, g2.1]; exact hfl), rfl, ?_⟩
          have gf' := st _ _ gf2
          have gr' := st _ _ gr2
          have x1 := g2'.set (k := r) gf'
          have y1 := x1.set (k := f) gr'
          refine ⟨_, rfl, _, rfl, ?_⟩
          refine ⟨by rw [if_neg c']; rfl, ((s2.trans st).upd_new hD).upd_new hD, _, upd_same, ?_⟩
          unfold pivM
          rw [if_neg c']
          exact (y1.upd g2' g1' hn0).upd (x1.upd g2' g1' hn0) upd_same (by rw [List.length_set]; exact hn0)
        · have c' : f = r := Decidable.byContradiction fun z => c (by simp; omega)
          subst c'
          rw [if_pos rfl]
          refine ⟨rfl, s2, ?_⟩
          unfold pivM
          rw [if_pos rfl]
          exact hM2
      · clear gf gf2 gr gr2 g1 g2 rsi tf tr hM2
        rintro σ' H3 ⟨rfl, s3, hM3⟩
        obtain ⟨rsi, g1, g2⟩ := hM3.ex
        have hrl' : r < (pivM Mi r f).length := by omega
        obtain ⟨th, gh, gh2⟩ := g2.at hrl'
        rw [hd] at gh2 est
        refine ⟨_, rfl, _, rfl, _, _, _, _, rfl, rfl, SqL.of g1, at_of (j := r) rfl gh, ?_⟩
        have hrs : rsi.length = Mi.length := g2.1.trans hpl
        have thD : th ≠ D := g2.ne g1 (by omega) gh2
        generalize hhd : Mi.getD f [] = head at *
        have hpiv : (head.getD i 0).natAbs < 2 ^ B := getD_lt hhe
        have iI : (i : Int) < (W : Int) := by omega
        refine ⟨_, rfl, _, _, rfl, rfl, _, rfl, D, rsi, rfl, .inl (SqL.of g1), (r : Int) + 1, (rsi.length : Int), rfl, ⟨by omega, by omega, by omega, by omega⟩, for_range (lo := (r : Int) + 1) (n := ((rsi.length : Int) - ((r : Int) + 1)).toNat) (fun k σ' H' => (∃ a9 a10 : Option V, σ' = [some (.ref p), some (.ref D), some (.int (W : Int)), some (.int (r : Int)), some (.int (if f = r then sg else -sg)), some (.int last), some (.int (i : Int)), some (.int (f : Int)), some (.ref th), a9, a10, none, none, none]) ∧ Same H H' ∧ Mat H' D (redTo last head i r (r + 1 + k) (pivM Mi r f)) ∧ H' th = some (.lst (head.map V.int))) ⟨⟨_, _, rfl⟩, s3, by rw [Nat.add_zero, red_start]; exact ⟨rsi, g1, g2⟩, gh2⟩ ?_ ?_⟩
        · clear g1 g2 gh gh2 hM3 s3 s2
          rintro k σ' H4 hk ⟨⟨b9, b10, rfl⟩, s4, hM4, gth⟩
          obtain ⟨rs4, g1, g2⟩ := hM4.ex
          have hk' : r + 1 + k < (pivM Mi r f).length := by omega
          have hk4 : r + 1 + k < (redTo last head i r (r + 1 + k) (pivM Mi r f)).length := by rw [len_red]; exact hk'
          obtain ⟨tk, gk, gk2⟩ := g2.at hk4
          have hrowk : (redTo last head i r (r + 1 + k) (pivM Mi r f)).getD (r + 1 + k) [] = (pivM Mi r f).getD (r + 1 + k) [] := by
            rw [List.getD_eq_getElem?_getD, red_keep (.inr (Nat.le_refl _)), List.getD_eq_getElem?_getD]
          rw [hrowk] at gk2
          have hkm := getD_mem hk'
          have hkw := hpw _ hkm
          have hke := hpe (r + 1 + k) (by omega) (by omega)
          have hks := getD_some hk'
          generalize (pivM Mi r f).getD (r + 1 + k) [] = row at *
          have eI : (r : Int) + 1 + (k : Int) = ((r + 1 + k : Nat) : Int) := by omega
          rw [eI]
          refine ⟨_, rfl, _, rfl, _, _, _, _, rfl, rfl, SqL.of g1, at_of (j := r + 1 + k) rfl gk, _, rfl, _, _, _, _, rfl, rfl, SqL.of gk2, at_of (j := i) rfl (getD_map (by omega)), ?_⟩
          refine ⟨_, rfl, _, rfl, _, _, _, _, rfl, rfl, SqL.of g1, at_of (j := r + 1 + k) rfl gk, _, rfl, tk, th, _, _, rfl, .inl ⟨SqL.of gk2, SqL.of gth, fun D2 hD2 => ?_⟩⟩
          refine lc_zipLS (f := fun own top => (head.getD i 0 * own - row.getD i 0 * top).fdiv last) (SqL.of gk2) (SqL.of gth) (by rw [hkw, hhw]) (by omega) hD2 (fun u v => rfl) (fun u v H5 kk s5 hu hv hkk => ?_) fun H5 s5 hD5 => ?_
          · have ur := hke u hu
            have vr := hhe v hv
            have rr : (row.getD i 0).natAbs < 2 ^ B := getD_lt hke
            have b0 : 0 < B := hB0
            have b2 : B + B ≤ 1000000 := by clear hk hke; omega
            have i1 : i < head.length := by omega
            refine ⟨_, rfl, _, rfl, _, _, _, _, rfl, rfl, SqL.of (s5 _ _ gth), at_of (j := i) rfl (getD_map i1), _, rfl, _, _, rfl, rfl, wide_mul hpiv ur b0 b0 b2, ?_⟩
            refine ⟨_, rfl, _, rfl, _, _, rfl, rfl, wide_mul rr vr b0 b0 b2, _, _, rfl, rfl, _, rfl, _, _, rfl, rfl, ⟨hInz, ?_⟩, hkk⟩
            exact Nat.lt_of_lt_of_le ((Nat.log2_lt (by simpa using hInz)).mpr hIsm) (Nat.le_of_lt hB)
          · refine ⟨_, rfl, _, rfl, D, _, _, r + 1 + k, rfl, rfl, s5 _ _ g1, ixN_at (by rw [g2.1]; exact hk4), ?_⟩
            refine ⟨⟨_, _, rfl⟩, (s4.trans s5).upd_new hD, ⟨_, upd_same, ?_⟩, by rw [upd_ne thD]; exact s5 _ _ gth⟩
            rw [show r + 1 + (k + 1) = (r + 1 + k) + 1 from rfl, red_step (by omega) hks]
            exact ((g2.same s5).set (k := r + 1 + k) hD5).upd (g2.same s5) (s5 _ _ g1) (by omega)
        · rintro σ' H4 ⟨⟨b9, b10, rfl⟩, s4, hM4, gth⟩
          refine ⟨_, rfl, _, rfl, _, _, _, _, rfl, rfl, SqL.of gth, at_of (j := i) rfl (getD_map (by omega)), ?_⟩
          have er : r + 1 + ((rsi.length : Int) - ((r : Int) + 1)).toNat = (pivM Mi r f).length := by omega
          rw [er] at hM4
          refine ⟨_, rfl, _, _, rfl, rfl, ?_⟩
          rw [est]
          exact ⟨⟨_, _, _, _, _, rfl⟩, s4, hM4⟩
  · rintro σ' H2 ⟨⟨a6, a7, a8, a9, a10, rfl⟩, s2, hM2⟩
    have I := CI W
    have sg1 := sign_one M W
    rw [show ((W : Nat) : Int).toNat = W from Int.toNat_natCast W]
    obtain ⟨hIsm, hIb⟩ := hE W
    have b0 : 0 < B := hB0
    refine ⟨_, rfl, _, rfl, _, rfl, _, _, rfl, rfl, wide_mul (a := 1) (b := B) (by omega) hIsm (by decide) b0 (by omega), (by show 2 ≤ sizeLine; decide), fun t ht => q t _ (s2.trans (Same.new ht)) ?_⟩
    rw [upd_same, clrRank, clrDet, hW]
end
end TL
namespace TL
open PySem L2

/-! ### steps of a reading -/
local macro_rules | `(tactic| walk_at "hp") => `(tactic| first | assumption | exact upd_same | (refine (upd_ne (by first | assumption | (exact Ne.symm (by assumption)))).trans ?_; walk_at "hp"))
local macro_rules | `(tactic| walk_at "ok") => `(tactic| first | (exact Or.inr ⟨by decide, by decide⟩) | (exact ⟨by decide, by decide⟩) | (exact ⟨by decide, by decide, by decide⟩) | (show _ ≠ _; omega) | (show _ ≠ _; decide) | (exact Or.inl ⟨by omega, by omega⟩) | decide)
local macro_rules | `(tactic| walk_at "sq") => `(tactic| first | assumption | exact SqL.of (by walk_at "hp") | exact SqT.of (by walk_at "hp"))
local macro_rules | `(tactic| walk_at "ty") => `(tactic| first | refine ⟨_, _, Value.type "int", Value.type "list", false, rfl, ClsV.ty _, TyX.base (TyOf.int _), kt_int_list, ?_⟩ | refine ⟨_, _, Value.type "bool", Value.type "list", false, rfl, ClsV.ty _, TyX.base (TyOf.bl _), kt_bool_list, ?_⟩ | refine ⟨_, _, Value.type "str", Value.type "list", false, rfl, ClsV.ty _, TyX.base (TyOf.str _), kt_str_list, ?_⟩ | refine ⟨_, _, Value.type "NoneType", Value.type "list", false, rfl, ClsV.ty _, TyX.base TyOf.non, kt_NoneType_list, ?_⟩ | refine ⟨_, _, Value.type "list", Value.type "list", true, rfl, ClsV.ty _, tyx_L (by walk_at "sq"), kt_list_list, ?_⟩ | refine ⟨_, _, Value.type "tuple", Value.type "list", false, rfl, ClsV.ty _, tyx_T (by walk_at "sq"), kt_tuple_list, ?_⟩ | refine ⟨_, _, Value.type "int", Value.type "tuple", false, rfl, ClsV.ty _, TyX.base (TyOf.int _), kt_int_tuple, ?_⟩ | refine ⟨_, _, Value.type "bool", Value.type "tuple", false, rfl, ClsV.ty _, TyX.base (TyOf.bl _), kt_bool_tuple, ?_⟩ | refine ⟨_, _, Value.type "str", Value.type "tuple", false, rfl, ClsV.ty _, TyX.base (TyOf.str _), kt_str_tuple, ?_⟩ | refine ⟨_, _, Value.type "NoneType", Value.type "tuple", false, rfl, ClsV.ty _, TyX.base TyOf.non, kt_NoneType_tuple, ?_⟩ | refine ⟨_, _, Value.type "list", Value.type "tuple", false, rfl, ClsV.ty _, tyx_L (by walk_at "sq"), kt_list_tuple, ?_⟩ | refine ⟨_, _, Value.type "tuple", Value.type "tuple", true, rfl, ClsV.ty _, tyx_T (by walk_at "sq"), kt_tuple_tuple, ?_⟩ | refine ⟨_, _, Value.type "int", Value.type "bool", false, rfl, ClsV.ty _, TyX.base (TyOf.int _), kt_int_bool, ?_⟩ | refine ⟨_, _, Value.type "bool", Value.type "bool", true, rfl, ClsV.ty _, TyX.base (TyOf.bl _), kt_bool_bool, ?_⟩ | refine ⟨_, _, Value.type "str", Value.type "bool", false, rfl, ClsV.ty _, TyX.base (TyOf.str _), kt_str_bool, ?_⟩ | refine ⟨_, _, Value.type "NoneType", Value.type "bool", false, rfl, ClsV.ty _, TyX.base TyOf.non, kt_NoneType_bool, ?_⟩ | refine ⟨_, _, Value.type "list", Value.type "bool", false, rfl, ClsV.ty _, tyx_L (by walk_at "sq"), kt_list_bool, ?_⟩ | refine ⟨_, _, Value.type "tuple", Value.type "bool", false, rfl, ClsV.ty _, tyx_T (by walk_at "sq"), kt_tuple_bool, ?_⟩ | refine ⟨_, _, Value.type "int", Value.type "int", true, rfl, ClsV.ty _, TyX.base (TyOf.int _), kt_int_int, ?_⟩ | refine ⟨_, _, Value.type "bool", Value.type "int", true, rfl, ClsV.ty _, TyX.base (TyOf.bl _), kt_bool_int, ?_⟩ | refine ⟨_, _, Value.type "str", Value.type "int", false, rfl, ClsV.ty _, TyX.base (TyOf.str _), kt_str_int, ?_⟩ | refine ⟨_, _, Value.type "NoneType", Value.type "int", false, rfl, ClsV.ty _, TyX.base TyOf.non, kt_NoneType_int, ?_⟩ | refine ⟨_, _, Value.type "list", Value.type "int", false, rfl, ClsV.ty _, tyx_L (by walk_at "sq"), kt_list_int, ?_⟩ | refine ⟨_, _, Value.type "tuple", Value.type "int", false, rfl, ClsV.ty _, tyx_T (by walk_at "sq"), kt_tuple_int, ?_⟩ | refine ⟨_, _, Value.type "int", Value.type "str", false, rfl, ClsV.ty _, TyX.base (TyOf.int _), kt_int_str, ?_⟩ | refine ⟨_, _, Value.type "bool", Value.type "str", false, rfl, ClsV.ty _, TyX.base (TyOf.bl _), kt_bool_str, ?_⟩ | refine ⟨_, _, Value.type "str", Value.type "str", true, rfl, ClsV.ty _, TyX.base (TyOf.str _), kt_str_str, ?_⟩ | refine ⟨_, _, Value.type "NoneType", Value.type "str", false, rfl, ClsV.ty _, TyX.base TyOf.non, kt_NoneType_str, ?_⟩ | refine ⟨_, _, Value.type "list", Value.type "str", false, rfl, ClsV.ty _, tyx_L (by walk_at "sq"), kt_list_str, ?_⟩ | refine ⟨_, _, Value.type "tuple", Value.type "str", false, rfl, ClsV.ty _, tyx_T (by walk_at "sq"), kt_tuple_str, ?_⟩)
local macro_rules | `(tactic| walk_at "go1") => `(tactic| first
  | (refine ⟨_, rfl, ?_⟩)
  | (refine ⟨_, _, rfl, rfl, ?_⟩)
  | (refine ⟨_, _, _, _, rfl, rfl, SqL.of (by walk_at "hp"), rfl, ?_⟩)
  | (refine Or.inl ⟨_, rfl, ?_⟩)
  | (refine ⟨rfl, ?_⟩)
  | (refine ⟨_, _, rfl, .inl (SqL.of (by walk_at "hp")), ?_⟩)
  | (refine ⟨_, _, rfl, Or.inl (by assumption), ?_⟩)
  | (refine ⟨_, _, rfl, Or.inr (by assumption), ?_⟩)
  | (refine ⟨(by walk_at "ok"), ?_⟩)
  | (refine ⟨_, _, _, _, rfl, rfl, (by walk_at "hp"), rfl, ?_⟩))
local macro_rules | `(tactic| walk_at "go") => `(tactic| repeat (walk_at "go1"))
local macro_rules | `(tactic| walk_at "gt") => `(tactic| repeat (first | walk_at "go1" | walk_at "ty"))

section
variable {P : Program} {w : World} {K : PySem.W.Frag} {mg : Str → Option Value} {base : Heap}
-- [0=matrix, 1=rank, 2=value] [0=matrix, 1=rank, 2=_]
theorem MatS.same {H H' : Hp} {p : Addr} {M : List (List Int)} (h : MatS K H p M) (s : Same H H') : MatS K H' p M := by
  obtain ⟨rs, h1, h2, h3⟩ := h.ex
  refine ⟨rs, h1.same s, h2, fun i r hr => ?_⟩
  obtain ⟨t, row, e1, e2, e3⟩ := h3 i r hr
  exact ⟨t, row, e1, e2, e3.same s⟩
/-- a matrix whose minors are not too great may be cleared -/
theorem clB_of {M : List (List Int)} {w Bd b : Nat} (hw : RowsW w M) (h0 : 0 < Bd) (hB : ∀ row ∈ M, ∀ x ∈ row, x.natAbs ≤ Bd) (h : fb Bd (M.length + 1) < 2 ^ b) : ClB b M := fun c => by
  have hv : ∀ row ∈ M, ∀ j, (vec row j).natAbs ≤ Bd := fun row hr j => by
    unfold vec
    rw [List.getD_eq_getElem?_getD]
    cases k : row[j]? with
    | none => exact Nat.zero_le _
    | some x => exact hB row hr x (List.mem_of_getElem? k)
  obtain ⟨h1, h2⟩ := clr_bound (c := c) hw hv
  have hS := clrS hw c
  refine ⟨Nat.lt_of_le_of_lt (Nat.le_trans h1 (fb_le h0 (by have := hS.le; omega))) h, fun i hi hl x hx => ?_⟩
  rw [hS.len] at hl
  obtain ⟨j, hj⟩ := List.mem_iff_getElem?.mp hx
  have := h2 i hi hl j
  unfold vec at this
  rw [List.getD_eq_getElem?_getD, hj] at this
  exact Nat.lt_of_le_of_lt (Nat.le_trans this (fb_le h0 (by omega))) h
def detV (M : List (List Int)) : Int := if clrRank M = M.length then clrDet M else 0
def spMS (K : PySem.W.Frag) (f : List (List Int) → Int) : Sp := fun vs H Q _ => ∃ (p : Addr) (M : List (List Int)) (b w : Nat), vs = [.ref p] ∧ MatS K H p M ∧ RowsW w M ∧ ClB b M ∧ 0 < b ∧ b < 9000 ∧ M.length ≤ 1000 ∧ w ≤ 1000 ∧ ∀ H', Same H H' → Q (.int (f M)) H'
theorem ok_rankS (T : Tx K mg) : FnOk P w K mg base CX0 3 T.f_rank_of T.d_rank_of ["matrix"] (spMS K fun M => (clrRank M : Int)) := by
  have G__cleared := ok_clearedS (P := P) (w := w) (base := base) T
  refine T.F_rank_of.ok sc_rank_of (fun vs H Q E h => ?_) (fun cdv A outer s H vs Q E hr h => ?_)
  · obtain ⟨p, M, b, w, rfl, _⟩ := h
    rfl
  obtain ⟨p, M, b, w, rfl, hM, hw, hc, h0, hb, hl, hw1, q⟩ := h
  have nd := sc_rank_of.nd
  refine ⟨_, (pss_cons (ps_asg (pe_call G__cleared hr (by rfl) T.m__cleared T.F__cleared.kp T.b__cleared .nil pass0 (pa_cons (pv 0) pa_nil)) (pg_tup rfl (pgs_cons (pg_name (i := 1) nd rfl (Or.inl rfl)) (pgs_cons (pg_name (i := 2) nd rfl (Or.inl rfl)) pgs_nil))))
    (pss_one (ps_ret (pv 1)))), ?_⟩
  refine ⟨_, rfl, p, M, b, w, rfl, hM, hw, hc, h0, hb, hl, hw1, fun t H1 s1 ht => ?_⟩
  exact ⟨t, _, rfl, SqT.of ht, rfl, _, _, rfl, _, _, rfl, rfl, _, rfl, q H1 s1⟩
theorem ok_detS (T : Tx K mg) : FnOk P w K mg base CX0 3 T.f_determinant T.d_determinant ["matrix"] (spMS K detV) := by
  have G__cleared := ok_clearedS (P := P) (w := w) (base := base) T
  refine T.F_determinant.ok sc_determinant (fun vs H Q E h => ?_) (fun cdv A outer s H vs Q E hr h => ?_)
  · obtain ⟨p, M, b, w, rfl, _⟩ := h
    rfl
  obtain ⟨p, M, b, w, rfl, hM, hw, hc, h0, hb, hl, hw1, q⟩ := h
  have nd := sc_determinant.nd
  obtain ⟨rs, h1, h2, h3⟩ := hM.ex
  refine ⟨_, (pss_cons (ps_asg (pe_call G__cleared hr (by rfl) T.m__cleared T.F__cleared.kp T.b__cleared .nil pass0 (pa_cons (pv 0) pa_nil)) (pg_tup rfl (pgs_cons (pg_name (i := 1) nd rfl (Or.inl rfl)) (pgs_cons (pg_name (i := 2) nd rfl (Or.inl rfl)) pgs_nil))))
    (pss_one (ps_ret (pe_ifExp (pt_cmpR op_eq (pv 1) (pe_callB (show CallR _ _ (rLenSq K) from call_len_seq) (by rfl) T.z_len (by decide +kernel) (pa_cons (pv 0) pa_nil)) (nomark _)) (pv 2) pe_int)))), ?_⟩
  refine ⟨_, rfl, p, M, b, w, rfl, hM, hw, hc, h0, hb, hl, hw1, fun t H1 s1 ht => ?_⟩
  refine ⟨t, _, rfl, SqT.of ht, rfl, _, _, rfl, _, _, rfl, rfl, ?_⟩
  refine ⟨_, rfl, _, rfl, p, rs, rfl, h1.same s1, rfl, _, rfl, ?_⟩
  have q1 := q H1 s1
  unfold detV at q1
  refine ite2 (fun c => ?_) (fun c => ?_)
  · have c' := of_decide_eq_true c
    rw [V.int.injEq] at c'
    rw [if_pos (by omega)] at q1
    exact ⟨_, rfl, q1⟩
  · have c' : ¬ ((clrRank M : Nat) : Int) = (rs.length : Int) := fun z => c (decide_eq_true (congrArg V.int z))
    rw [if_neg (by omega)] at q1
    exact q1
end
end TL
namespace TL
open PySem L2

/-! ### steps of a reading -/
local macro_rules | `(tactic| walk_at "hp") => `(tactic| first | assumption | exact upd_same | (refine (upd_ne (by first | assumption | (exact Ne.symm (by assumption)))).trans ?_; walk_at "hp"))
local macro_rules | `(tactic| walk_at "ok") => `(tactic| first | (exact Or.inr ⟨by decide, by decide⟩) | (exact ⟨by decide, by decide⟩) | (exact ⟨by decide, by decide, by decide⟩) | (show _ ≠ _; omega) | (show _ ≠ _; decide) | (exact Or.inl ⟨by omega, by omega⟩) | decide)
local macro_rules | `(tactic| walk_at "sq") => `(tactic| first | assumption | exact SqL.of (by walk_at "hp") | exact SqT.of (by walk_at "hp"))
local macro_rules | `(tactic| walk_at "ty") => `(tactic| first | refine ⟨_, _, Value.type "int", Value.type "list", false, rfl, ClsV.ty _, TyX.base (TyOf.int _), kt_int_list, ?_⟩ | refine ⟨_, _, Value.type "bool", Value.type "list", false, rfl, ClsV.ty _, TyX.base (TyOf.bl _), kt_bool_list, ?_⟩ | refine ⟨_, _, Value.type "str", Value.type "list", false, rfl, ClsV.ty _, TyX.base (TyOf.str _), kt_str_list, ?_⟩ | refine ⟨_, _, Value.type "NoneType", Value.type "list", false, rfl, ClsV.ty _, TyX.base TyOf.non, kt_NoneType_list, ?_⟩ | refine ⟨_, _, Value.type "list", Value.type "list", true, rfl, ClsV.ty _, tyx_L (by walk_at "sq"), kt_list_list, ?_⟩ | refine ⟨_, _, Value.type "tuple", Value.type "list", false, rfl, ClsV.ty _, tyx_T (by walk_at "sq"), kt_tuple_list, ?_⟩ | refine ⟨_, _, Value.type "int", Value.type "tuple", false, rfl, ClsV.ty _, TyX.base (TyOf.int _), kt_int_tuple, ?_⟩ | refine ⟨_, _, Value.type "bool", Value.type "tuple", false, rfl, ClsV.ty _, TyX.base (TyOf.bl _), kt_bool_tuple, ?_⟩ | refine ⟨_, _, Value.type "str", Value.type "tuple", false, rfl, ClsV.ty _, TyX.base (TyOf.str _), kt_str_tuple, ?_⟩ | refine ⟨_, _, Value.type "NoneType", Value.type "tuple", false, rfl, ClsV.ty _, TyX.base TyOf.non, kt_NoneType_tuple, ?_⟩ | refine ⟨_, _, Value.type "list", Value.type "tuple", false, rfl, ClsV.ty _, tyx_L (by walk_at "sq"), kt_list_tuple, ?_⟩ | refine ⟨_, _, Value.type "tuple", Value.type "tuple", true, rfl, ClsV.ty _, tyx_T (by walk_at "sq"), kt_tuple_tuple, ?_⟩ | refine ⟨_, _, Value.type "int", Value.type "bool", false, rfl, ClsV.ty _, TyX.base (TyOf.int _), kt_int_bool, ?_⟩ | refine ⟨_, _, Value.type "bool", Value.type "bool", true, rfl, ClsV.ty _, TyX.base (TyOf.bl _), kt_bool_bool, ?_⟩ | refine ⟨_, _, Value.type "str", Value.type "bool", false, rfl, ClsV.ty _, TyX.base (TyOf.str _), kt_str_bool, ?_⟩ | refine ⟨_, _, Value.type "NoneType", Value.type "bool", false, rfl, ClsV.ty _, TyX.base TyOf.non, kt_NoneType_bool, ?_⟩ | refine ⟨_, _, Value.type "list", Value.type "bool", false, rfl, ClsV.ty _, tyx_L (by walk_at "sq"), kt_list_bool, ?_⟩ | refine ⟨_, _, Value.type "tuple", Value.type "bool", false, rfl, ClsV.ty _, tyx_T (by walk_at "sq"), kt_tuple_bool, ?_⟩ | refine ⟨_, _, Value.type "int", Value.type "int", true, rfl, ClsV.ty _, TyX.base (TyOf.int _), kt_int_int, ?_⟩ | refine ⟨_, _, Value.type "bool", Value.type "int", true, rfl, ClsV.ty _, TyX.base (TyOf.bl _), kt_bool_int, ?_⟩ | refine ⟨_, _, Value.type "str", Value.type "int", false, rfl, ClsV.ty _, TyX.base (TyOf.str _), kt_str_int, ?_⟩ | refine ⟨_, _, Value.type "NoneType", Value.type "int", false, rfl, ClsV.ty _, TyX.base TyOf.non, kt_NoneType_int, ?_⟩ | refine ⟨_, _, Value.type "list", Value.type "int", false, rfl, ClsV.ty _, tyx_L (by walk_at "sq"), kt_list_int, ?_⟩ | refine ⟨_, _, Value.type "tuple", Value.type "int", false, rfl, ClsV.ty _, tyx_T (by walk_at "sq"), kt_tuple_int, ?_⟩ | refine ⟨_, _, Value.type "int", Value.type "str", false, rfl, ClsV.ty _, TyX.base (TyOf.int _), kt_int_str, ?_⟩ | refine ⟨_, _, Value.type "bool", Value.type "str", false, rfl, ClsV.ty _, TyX.base (TyOf.bl _), kt_bool_str, ?_⟩ | refine ⟨_, _, Value.type "str", Value.type "str", true, rfl, ClsV.ty _, TyX.base (TyOf.str _), kt_str_str, ?_⟩ | refine ⟨_, _, Value.type "NoneType", Value.type "str", false, rfl, ClsV.ty _, TyX.base TyOf.non, kt_NoneType_str, ?_⟩ | refine ⟨_, _, Value.type "list", Value.type "str", false, rfl, ClsV.ty _, tyx_L (by walk_at "sq"), kt_list_str, ?_⟩ | refine ⟨_, _, Value.type "tuple", Value.type "str", false, rfl, ClsV.ty _, tyx_T (by walk_at "sq"), kt_tuple_str, ?_⟩)
local macro_rules | `(tactic| walk_at "go1") => `(tactic| first
  | (refine ⟨_, rfl, ?_⟩)
  | (refine ⟨_, _, rfl, rfl, ?_⟩)
  | (refine ⟨_, _, _, _, rfl, rfl, SqL.of (by walk_at "hp"), rfl, ?_⟩)
  | (refine Or.inl ⟨_, rfl, ?_⟩)
  | (refine ⟨rfl, ?_⟩)
  | (refine ⟨_, _, rfl, .inl (SqL.of (by walk_at "hp")), ?_⟩)
  | (refine ⟨_, _, rfl, Or.inl (by assumption), ?_⟩)
  | (refine ⟨_, _, rfl, Or.inr (by assumption), ?_⟩)
  | (refine ⟨(by walk_at "ok"), ?_⟩)
  | (refine ⟨_, _, _, _, rfl, rfl, (by walk_at "hp"), rfl, ?_⟩))
local macro_rules | `(tactic| walk_at "go") => `(tactic| repeat (walk_at "go1"))
local macro_rules | `(tactic| walk_at "gt") => `(tactic| repeat (first | walk_at "go1" | walk_at "ty"))

section
variable {P : Program} {w : World} {K : PySem.W.Frag} {mg : Str → Option Value} {base : Heap}
-- [0=matrix, 1=width, 2=shared, 3=columns*, 4=row, 5=column]
theorem ix_sq {H : Hp} {a : Addr} {xs : List V} {i : Int} {v : V} {Q : VK} (h : Sq K H a xs) (e : atI xs i = some v) (q : Q v H) : rIx K (.ref a) (.int i) H Q := by
  rcases h with h | h
  · exact .inl ⟨a, xs, i, v, rfl, rfl, h, e, q⟩
  · exact .inr (.inl ⟨a, xs, i, v, rfl, rfl, h, e, q⟩)
theorem natsV_at {P : List Nat} {j : Nat} {u : V} (h : (natsV P)[j]? = some u) : ∃ p, P[j]? = some p ∧ u = .int ((p : Nat) : Int) := by
  unfold natsV at h
  rw [List.getElem?_map] at h
  obtain ⟨p, hp, rfl⟩ := Option.map_eq_some_iff.mp h
  exact ⟨p, hp, rfl⟩
theorem natsV_len (P : List Nat) : (natsV P).length = P.length := List.length_map ..
/-- the columns cs of a matrix -/
def subC (M : List (List Int)) (cs : List Nat) : List (List Int) := M.map fun row => cs.map fun c => row.getD c 0
def comG (M : List (List Int)) (L : List (List Nat)) : Int := L.foldl (fun g cs => ((Nat.gcd g.natAbs (detV (subC M cs)).natAbs : Nat) : Int)) 0
def spCM (K : PySem.W.Frag) : Sp := fun vs H Q _ => ∃ (p : Addr) (M : List (List Int)) (Bd bb : Nat) (L : List (List Nat)), vs = [.ref p] ∧ MatS K H p M ∧ RowsW (widthOf M) M ∧ 0 < Bd ∧ (∀ row ∈ M, ∀ x ∈ row, x.natAbs ≤ Bd) ∧ fb Bd (M.length + 1) < 2 ^ bb ∧ 0 < bb ∧ bb < 9000 ∧ M.length ≤ 100 ∧ widthOf M ≤ 100 ∧ (∀ i, chs (widthOf M) M.length i = L[i]?) ∧ ∀ H', Same H H' → Q (.int (comG M L)) H'
theorem ok_common (T : Tx K mg) : FnOk P w K mg base CX0 4 T.f_common_minor T.d_common_minor ["matrix"] (spCM K) := by
  have G_determinant := ok_detS (P := P) (w := w) (base := base) T
  refine T.F_common_minor.ok sc_common_minor (fun vs H Q E h => ?_) (fun cdv A outer s H vs Q E hr h => ?_)
  · obtain ⟨p, M, Bd, bb, L, rfl, _⟩ := h
    rfl
  obtain ⟨p, M, Bd, bb, L, rfl, hM, hw, hB0, hB, hf, h0, hb, hl, hw1, hL, q⟩ := h
  have nd := sc_common_minor.nd
  obtain ⟨rs, h1, h2, h3⟩ := hM.ex
  refine ⟨_, (pss_cons (ps_set (i := 1) nd rfl (Or.inl rfl) (pe_ifExp (pt_truth (pv 0) (by intro _; rfl)) (pe_callB (show CallR _ _ (rLenSq K) from call_len_seq) (by rfl) T.z_len (by decide +kernel) (pa_cons (pe_ix (show IxR _ (rIx K) from ix_seq) (pv 0) pe_int (fun _ _ => rfl)) pa_nil)) pe_int))
    (pss_cons (ps_set (i := 2) nd rfl (Or.inl rfl) pe_int)
    (pss_cons (ps_for PassesOwn.never rfl (pi_comb rfl (by rfl) T.m_combinations (pa_cons (pe_callTy cr_range1 (by rfl) T.z_range (by decide +kernel) (pa_cons (pv 1) pa_nil)) (pa_cons (pe_callB (show CallR _ _ (rLenSq K) from call_len_seq) (by rfl) T.z_len (by decide +kernel) (pa_cons (pv 0) pa_nil)) pa_nil))) (pg_name (i := 3) nd rfl (Or.inr rfl)) (pss_one (ps_set (i := 2) nd rfl (Or.inl rfl) (pe_callBfun cr_gcd (by rfl) T.m_gcd (pa_cons (pv 2) (pa_cons (pe_call G_determinant hr (by rfl) T.m_determinant T.F_determinant.kp T.b_determinant .nil pass0 (pa_cons (pe_lc (own := [("row", 4)]) (g := (gName 4)) rfl nd (show PI _ _ _ (iSeq K _) from pi_seq (pv 0)) (blkOk_by (own := [("row", 4)]) (N := N_common_minor) (sc := defScope s_common_minor) (by decide +kernel)) (fun _ _ _ _ _ => by exact (pg_name (i := 4) nd rfl (Or.inr rfl))) (fun _ _ _ _ _ => by exact pts_nil) (fun _ _ _ _ _ => by exact (pe_lc (own := [("column", 5)]) (g := (gName 5)) rfl nd (show PI _ _ _ (iTup K _) from pi_tup (pv 3)) (show BlkOk N_common_minor { kind := .function, names := [(".0", .local), ("row", .cell), ("columns", .cell)], isGenerator := false, isCoroutine := false } { kind := .function, names := [(".0", .local), ("column", .local), ("row", .free)], isGenerator := false, isCoroutine := false } [("column", 5)] from blkOk_by (by decide +kernel)) (fun _ _ _ _ _ => by exact (pg_name (i := 5) nd rfl (Or.inl rfl))) (fun _ _ _ _ _ => by exact pts_nil) (fun _ _ _ _ _ => by exact (pe_ix (show IxR _ (rIx K) from ix_seq) (pv 4) (pv 5) (fun _ _ => rfl)))))) pa_nil)) pa_nil))))))
    (pss_one (ps_ret (pv 2)))))), ?_⟩
  have wid : ∀ Qw : VK, Qw (.int (widthOf M : Int)) H → (tIf
      (fun σ H_1 Q => tVar 0 σ H_1 fun x H' => ∃ k, TruV K x H' k ∧ Q k H')
      (tCB (rLenSq K) (tCons (tOp (rIx K) (tVar 0) (tC (V.int 0))) tNil)) (tC (V.int 0))) (L2.start N_common_minor [.ref p]) H Qw := fun Qw k => by
    refine ⟨_, rfl, !rs.isEmpty, h1.elim (fun z => .inl ⟨rs, z, rfl⟩) (fun z => .inr (.inl ⟨rs, z, rfl⟩)), ?_⟩
    refine ite2 (fun c => ?_) (fun c => ?_)
    · have hp0 : 0 < rs.length := by
        cases rs with
        | nil => cases c
        | cons y ys => exact Nat.succ_pos _
      obtain ⟨t, row, e1, e2, e3⟩ := h3 0 _ (List.getElem?_eq_getElem hp0)
      refine ⟨_, rfl, ix_sq h1 (at_of (j := 0) rfl (List.getElem?_eq_getElem hp0)) ⟨t, _, by rw [e1], e3, ?_⟩⟩
      rw [List.length_map]
      have : widthOf M = row.length := by
        unfold widthOf
        rw [getD_of e2]
      rw [← this]
      exact k
    · have h00 : M = [] := by
        have : rs = [] := by
          cases rs with
          | nil => rfl
          | cons y ys => exact absurd rfl c
        subst rs
        exact List.eq_nil_of_length_eq_zero h2.symm
      subst h00
      exact k
  refine wid _ ?_
  clear wid
  generalize hW : widthOf M = W at *
  refine ⟨_, rfl, (W : Int), rfl, fun r0 hr0 => ?_⟩
  have s0 : Same H (upd H r0 (.rng 0 (W : Int))) := Same.new hr0
  refine ⟨_, rfl, p, rs, rfl, h1.same s0, r0, W, M.length, by rw [h2], upd_same, by omega, by omega, ?_⟩
  refine for_it (walk_comb hL) (fun i σ' H' => (∃ b3 b4 b5, σ' = [some (.ref p), some (.int (W : Int)), some (.int (comG M (L.take i))), b3, b4, b5]) ∧ Same H H') ⟨⟨_, _, _, rfl⟩, s0⟩ (fun _ _ _ _ _ => trivial) ?_ ?_
  · rintro i x1 σ' H1 H2 hi ⟨⟨b3, b4, b5, rfl⟩, s1⟩ ⟨t, js, rfl, ht, rfl, hjs⟩
    have s2 : Same H1 (upd H1 t (.tup (natsV js))) := Same.new ht
    have hch : chs W M.length i = some js := (hL i).trans hjs
    have hjl := (chs_le hch).2
    have hj6 := chs_lt hch
    have hsq : SqT K (upd H1 t (.tup (natsV js))) t (natsV js) := .inl (.inl upd_same)
    have s12 := s1.trans s2
    generalize upd H1 t (.tup (natsV js)) = H2 at *
    refine ⟨_, rfl, _, rfl, p, rs, rfl, h1.same s12, fun J hJ D hD => ?_⟩
    refine lcsD (walk_seq hJ) (fun i y H => ∃ t row, y = V.ref t ∧ t ≠ D ∧ M[i]? = some row ∧ H t = some (.lst ((js.map fun c => row.getD c 0).map V.int))) (fun i y H1 H2 s1 ⟨t, row, a1, a0, a2, a3⟩ => ⟨t, row, a1, a0, a2, s1 _ _ a3⟩)
      (fun i y H1 zs zs' hz' ⟨t, row, a1, a0, a2, a3⟩ => ⟨t, row, a1, a0, a2, by rw [upd_ne a0]; exact a3⟩) (by rw [h2]; omega) hD (fun H1 s1 => s1) ?_ fun ys H3 hyl hys s3 hD3 => ?_
    · rintro n x H3 H4 hn s3 ⟨zs, hz⟩ ⟨rfl, hx⟩ k hk
      obtain ⟨tr, row, rfl, e2, e3⟩ := h3 n x hx
      have hrow := e3.same (s12.trans s3)
      have hrl : row.length = W := hw row (List.mem_of_getElem? e2)
      refine ⟨rfl, _, rfl, t, rfl, ⟨_, seqT s3 hsq⟩, fun D2 hD2 => ?_⟩
      refine lcm (walk_tup (K := K) (a := t) (xs := natsV js)) ((js.map fun c => row.getD c 0).map V.int) (by rw [natsV_len, List.length_map, List.length_map]) (by rw [natsV_len]; omega) hD2 (fun H' s => seqT (s3.trans s) hsq) ?_ fun H5 s5 h5 => hk _ _ s5 ⟨D2, row, rfl, (ne_of_none hz hD2).symm, e2, h5⟩
      rintro m y u H5 H6 hm hy s5 ⟨rfl, hu⟩ k2 hk2
      obtain ⟨c, hc, rfl⟩ := natsV_at hu
      rw [List.getElem?_map, List.getElem?_map, hc] at hy
      obtain rfl := Option.some.inj hy
      have hcW := hj6 c (List.mem_of_getElem? hc)
      exact ⟨rfl, _, rfl, _, rfl, ix_sq (hrow.same s5) (at_of (j := c) rfl (getD_map (by omega))) (hk2 _ (Same.refl _))⟩
    · have hrw : RowsW js.length (subC M js) := fun row hr => by
        obtain ⟨a, _, rfl⟩ := List.mem_map.mp hr
        rw [List.length_map]
      have hsl : (subC M js).length = M.length := List.length_map ..
      have hms : MatS K H3 D (subC M js) := ⟨ys, .inl (SqL.of hD3), by rw [hyl, hsl, h2], fun n r hr => by
        obtain ⟨t, row, a1, a0, a2, a3⟩ := hys n r hr
        exact ⟨t, _, a1, by unfold subC; rw [List.getElem?_map, a2]; rfl, .inl (SqL.of a3)⟩⟩
      have hbd : ∀ row ∈ subC M js, ∀ x ∈ row, x.natAbs ≤ Bd := fun row hr x hx => by
        obtain ⟨a, ha, rfl⟩ := List.mem_map.mp hr
        obtain ⟨c, _, rfl⟩ := List.mem_map.mp hx
        rw [List.getD_eq_getElem?_getD]
        cases k : a[c]? with
        | none => exact Nat.zero_le _
        | some v => exact hB a ha v (List.mem_of_getElem? k)
      refine ⟨D, subC M js, bb, js.length, rfl, hms, hrw, clB_of hrw hB0 hbd (by rw [hsl]; exact hf), h0, hb, by omega, by omega, fun H4 s4 => ?_⟩
      refine ⟨_, _, rfl, ⟨some (.ref t), b4, b5, ?_⟩, (s12.trans s3).trans s4⟩
      rw [List.take_succ, hjs]
      unfold comG
      rw [List.foldl_append]
      rfl
  · rintro σ' H' ⟨⟨b3, b4, b5, rfl⟩, s1⟩
    rw [List.take_length]
    exact ⟨_, rfl, q H' s1⟩
end
end TL
namespace TL
open PySem L2

/-! ### steps of a reading -/
local macro_rules | `(tactic| walk_at "hp") => `(tactic| first | assumption | exact upd_same | (refine (upd_ne (by first | assumption | (exact Ne.symm (by assumption)))).trans ?_; walk_at "hp"))
local macro_rules | `(tactic| walk_at "ok") => `(tactic| first | (exact Or.inr ⟨by decide, by decide⟩) | (exact ⟨by decide, by decide⟩) | (exact ⟨by decide, by decide, by decide⟩) | (show _ ≠ _; omega) | (show _ ≠ _; decide) | (exact Or.inl ⟨by omega, by omega⟩) | decide)
local macro_rules | `(tactic| walk_at "sq") => `(tactic| first | assumption | exact SqL.of (by walk_at "hp") | exact SqT.of (by walk_at "hp"))
local macro_rules | `(tactic| walk_at "ty") => `(tactic| first | refine ⟨_, _, Value.type "int", Value.type "list", false, rfl, ClsV.ty _, TyX.base (TyOf.int _), kt_int_list, ?_⟩ | refine ⟨_, _, Value.type "bool", Value.type "list", false, rfl, ClsV.ty _, TyX.base (TyOf.bl _), kt_bool_list, ?_⟩ | refine ⟨_, _, Value.type "str", Value.type "list", false, rfl, ClsV.ty _, TyX.base (TyOf.str _), kt_str_list, ?_⟩ | refine ⟨_, _, Value.type "NoneType", Value.type "list", false, rfl, ClsV.ty _, TyX.base TyOf.non, kt_NoneType_list, ?_⟩ | refine ⟨_, _, Value.type "list", Value.type "list", true, rfl, ClsV.ty _, tyx_L (by walk_at "sq"), kt_list_list, ?_⟩ | refine ⟨_, _, Value.type "tuple", Value.type "list", false, rfl, ClsV.ty _, tyx_T (by walk_at "sq"), kt_tuple_list, ?_⟩ | refine ⟨_, _, Value.type "int", Value.type "tuple", false, rfl, ClsV.ty _, TyX.base (TyOf.int _), kt_int_tuple, ?_⟩ | refine ⟨_, _, Value.type "bool", Value.type "tuple", false, rfl, ClsV.ty _, TyX.base (TyOf.bl _), kt_bool_tuple, ?_⟩ | refine ⟨_, _, Value.type "str", Value.type "tuple", false, rfl, ClsV.ty _, TyX.base (TyOf.str _), kt_str_tuple, ?_⟩ | refine ⟨_, _, Value.type "NoneType", Value.type "tuple", false, rfl, ClsV.ty _, TyX.base TyOf.non, kt_NoneType_tuple, ?_⟩ | refine ⟨_, _, Value.type "list", Value.type "tuple", false, rfl, ClsV.ty _, tyx_L (by walk_at "sq"), kt_list_tuple, ?_⟩ | refine ⟨_, _, Value.type "tuple", Value.type "tuple", true, rfl, ClsV.ty _, tyx_T (by walk_at "sq"), kt_tuple_tuple, ?_⟩ | refine ⟨_, _, Value.type "int", Value.type "bool", false, rfl, ClsV.ty _, TyX.base (TyOf.int _), kt_int_bool, ?_⟩ | refine ⟨_, _, Value.type "bool", Value.type "bool", true, rfl, ClsV.ty _, TyX.base (TyOf.bl _), kt_bool_bool, ?_⟩ | refine ⟨_, _, Value.type "str", Value.type "bool", false, rfl, ClsV.ty _, TyX.base (TyOf.str _), kt_str_bool, ?_⟩ | refine ⟨_, _, Value.type "NoneType", Value.type "bool", false, rfl, ClsV.ty _, TyX.base TyOf.non, kt_NoneType_bool, ?_⟩ | refine ⟨_, _, Value.type "list", Value.type "bool", false, rfl, ClsV.ty _, tyx_L (by walk_at "sq"), kt_list_bool, ?_⟩ | refine ⟨_, _, Value.type "tuple", Value.type "bool", false, rfl, ClsV.ty _, tyx_T (by walk_at "sq"), kt_tuple_bool, ?_⟩ | refine ⟨_, _, Value.type "int", Value.type "int", true, rfl, ClsV.ty _, TyX.base (TyOf.int _), kt_int_int, ?_⟩ | refine ⟨_, _, Value.type "bool", Value.type "int", true, rfl, ClsV.ty _, TyX.base (TyOf.bl _), kt_bool_int, ?_⟩ | refine ⟨_, _, Value.type "str", Value.type "int", false, rfl, ClsV.ty _, TyX.base (TyOf.str _), kt_str_int, ?_⟩ | refine ⟨_, _, Value.type "NoneType", Value.type "int", false, rfl, ClsV.ty _, TyX.base TyOf.non, kt_NoneType_int, ?_⟩ | refine ⟨_, _, Value.type "list", Value.type "int", false, rfl, ClsV.ty _, tyx_L (by walk_at "sq"), kt_list_int, ?_⟩ | refine ⟨_, _, Value.type "tuple", Value.type "int", false, rfl, ClsV.ty _, tyx_T (by walk_at "sq"), kt_tuple_int, ?_⟩ | refine ⟨_, _, Value.type "int", Value.type "str", false, rfl, ClsV.ty _, TyX.base (TyOf.int _), kt_int_str, ?_⟩ | refine ⟨_, _, Value.type "bool", Value.type "str", false, rfl, ClsV.ty _, TyX.base (TyOf.bl _), kt_bool_str, ?_⟩ | refine ⟨_, _, Value.type "str", Value.type "str", true, rfl, ClsV.ty _, TyX.base (TyOf.str _), kt_str_str, ?_⟩ | refine ⟨_, _, Value.type "NoneType", Value.type "str", false, rfl, ClsV.ty _, TyX.base TyOf.non, kt_NoneType_str, ?_⟩ | refine ⟨_, _, Value.type "list", Value.type "str", false, rfl, ClsV.ty _, tyx_L (by walk_at "sq"), kt_list_str, ?_⟩ | refine ⟨_, _, Value.type "tuple", Value.type "str", false, rfl, ClsV.ty _, tyx_T (by walk_at "sq"), kt_tuple_str, ?_⟩)
local macro_rules | `(tactic| walk_at "go1") => `(tactic| first
  | (refine ⟨_, rfl, ?_⟩)
  | (refine ⟨_, _, rfl, rfl, ?_⟩)
  | (refine ⟨_, _, _, _, rfl, rfl, SqL.of (by walk_at "hp"), rfl, ?_⟩)
  | (refine Or.inl ⟨_, rfl, ?_⟩)
  | (refine ⟨rfl, ?_⟩)
  | (refine ⟨_, _, rfl, .inl (SqL.of (by walk_at "hp")), ?_⟩)
  | (refine ⟨_, _, rfl, Or.inl (by assumption), ?_⟩)
  | (refine ⟨_, _, rfl, Or.inr (by assumption), ?_⟩)
  | (refine ⟨(by walk_at "ok"), ?_⟩)
  | (refine ⟨_, _, _, _, rfl, rfl, (by walk_at "hp"), rfl, ?_⟩))
local macro_rules | `(tactic| walk_at "go") => `(tactic| repeat (walk_at "go1"))
local macro_rules | `(tactic| walk_at "gt") => `(tactic| repeat (first | walk_at "go1" | walk_at "ty"))

section
variable {P : Program} {w : World} {K : PySem.W.Frag} {mg : Str → Option Value} {base : Heap}
-- [0=_law_x, 1=_law_y] [0=_law_numbers, 1=_law_found, 2=_law_n] [0=_law_bag_here, 1=_law_things, 2=_law_rest, 3=_law_found, 4=_law_turn]
def spGcd : Sp := fun vs H Q _ => ∃ (x y : Nat), vs = [.int (x : Int), .int (y : Int)] ∧ ∀ H', Same H H' → Q (.int ((Nat.gcd x y : Nat) : Int)) H'
theorem ok_l_gcd (T : Tx K mg) : FnOk P w K mg base CX0 1 T.f_l_gcd T.d_l_gcd ["_law_x", "_law_y"] spGcd := by
  refine T.F_l_gcd.ok sc_l_gcd (fun vs H Q E h => ?_) (fun cdv A outer s H vs Q E hr h => ?_)
  · obtain ⟨x, y, rfl, _⟩ := h
    rfl
  obtain ⟨x, y, rfl, q⟩ := h
  have nd := sc_l_gcd.nd
  refine ⟨_, (pss_cons (ps_while PassesOwn.never (pt_cmpR op_gt (pv 1) pe_int (nomark _)) (pss_one (ps_par (i := 0) (j := 1) rfl nd rfl rfl (by decide) rfl rfl (pa_cons (pv 1) (pa_cons (pe_op op_mod (pe_callTy call_int1 (by rfl) T.z_int (by decide +kernel) (pa_cons (pv 0) pa_nil)) (pv 1)) pa_nil)) rfl)))
    (pss_one (ps_ret (pv 0)))), ?_⟩
  refine ⟨fun m σ H' => ∃ u v : Nat, m = v ∧ H' = H ∧ Nat.gcd u v = Nat.gcd x y ∧ σ = [some (.int (u : Int)), some (.int (v : Int))], ⟨y, x, y, rfl, rfl, rfl, rfl⟩, ?_⟩
  rintro m σ H2 ⟨u, v, rfl, rfl, hg, rfl⟩
  by_cases hv : 0 < m
  · refine ⟨_, rfl, _, _, rfl, rfl, true, congrArg V.bl (decide_eq_true (by omega)), ?_⟩
    refine ⟨fun σ' H' => H' = H2 ∧ σ' = [some (.int (m : Int)), some (.int ((u % m : Nat) : Int))], fun σ' H' ⟨a1, a2⟩ => ⟨u % m, Nat.mod_lt _ hv, m, u % m, rfl, a1, by rw [← hg, Nat.gcd_comm u m, Nat.gcd_rec m u, Nat.gcd_comm], a2⟩, ?_⟩
    refine ⟨_, rfl, _, rfl, .inl ⟨_, rfl, _, rfl, _, _, rfl, rfl, (by show (0 : Int) < (m : Int); omega), _, _, rfl, rfl, rfl⟩⟩
  · obtain rfl : m = 0 := by omega
    refine ⟨_, rfl, _, _, rfl, rfl, false, congrArg V.bl (decide_eq_false (by omega)), ?_⟩
    refine ⟨_, rfl, ?_⟩
    rw [Nat.gcd_zero_right] at hg
    rw [hg]
    exact q _ (Same.refl _)
def contG (ns : List Int) : Nat := ns.foldl (fun g n => Nat.gcd g n.natAbs) 0
theorem ok_content (T : Tx K mg) : FnOk P w K mg base CX0 2 T.f_l_content T.d_l_content ["_law_numbers"] (fun vs H Q _ => ∃ (a : Addr) (ns : List Int), vs = [.ref a] ∧ SqL K H a (ns.map V.int) ∧ ∀ H', Same H H' → Q (.int (contG ns : Int)) H') := by
  have G_l_gcd := ok_l_gcd (P := P) (w := w) (base := base) T
  refine T.F_l_content.ok sc_l_content (fun vs H Q E h => ?_) (fun cdv A outer s H vs Q E hr h => ?_)
  · obtain ⟨a, ns, rfl, _⟩ := h
    rfl
  obtain ⟨a, ns, rfl, ha, q⟩ := h
  have nd := sc_l_content.nd
  refine ⟨_, (pss_cons (ps_set (i := 1) nd rfl (Or.inl rfl) pe_int)
    (pss_cons (ps_for PassesOwn.never rfl (show PI _ _ _ (iList K _) from pi_list (pv 0)) (pg_name (i := 2) nd rfl (Or.inl rfl)) (pss_one (ps_set (i := 1) nd rfl (Or.inl rfl) (pe_call G_l_gcd hr (by rfl) T.m_l_gcd T.F_l_gcd.kp T.b_l_gcd .nil pass0 (pa_cons (pv 1) (pa_cons (pe_callB call_abs (by rfl) T.z_abs (by decide +kernel) (pa_cons (pv 2) pa_nil)) pa_nil))))))
    (pss_one (ps_ret (pv 1))))), ?_⟩
  refine ⟨_, rfl, a, rfl, ⟨_, ha⟩, for_it (walk_list (K := K) (a := a) (xs := ns.map V.int)) (fun i σ H' => (∃ b, σ = [some (.ref a), some (.int (contG (ns.take i) : Int)), b]) ∧ Same H H') ⟨⟨_, rfl⟩, Same.refl _⟩ (fun _ _ _ _ h => h.2.seq ha) ?_ ?_⟩
  · rintro i x σ H1 H2 hi ⟨⟨b, rfl⟩, s1⟩ ⟨rfl, hx⟩
    rw [List.getElem?_map] at hx
    obtain ⟨n, hn, rfl⟩ := Option.map_eq_some_iff.mp hx
    have ea : (if n < 0 then -n else n) = ((n.natAbs : Nat) : Int) := by split <;> omega
    have et : contG (ns.take (i + 1)) = Nat.gcd (contG (ns.take i)) n.natAbs := by
      unfold contG
      rw [List.take_succ, hn, List.foldl_append]
      rfl
    refine ⟨_, rfl, _, rfl, n, rfl, contG (ns.take i), n.natAbs, by rw [ea]; rfl, fun H3 s3 => ⟨⟨some (.int n), ?_⟩, s1.trans s3⟩⟩
    rw [et]
    rfl
  · rintro σ H1 ⟨⟨b, rfl⟩, s1⟩
    rw [List.length_map, List.take_length]
    exact ⟨_, rfl, q H1 s1⟩
/-- a list in another order, item by item popped -/
def spMixed (K : PySem.W.Frag) : Sp := fun vs H Q _ => ∃ (B : Bg) (a : Addr) (xs : List V), vs = [.ref B.b, .ref a] ∧ H a = some (.lst xs) ∧ a ≠ B.b ∧ xs.length ≤ 100 ∧ Bag B H ∧ ∀ t ys H', Bag B H' → Kb B.b H H' → H t = none → H' t = some (.lst ys) → ys.Perm xs → Q (.ref t) H'
theorem ok_mixed (T : Tx K mg) : FnOk P w K mg base CX0 2 T.f_l_mixed T.d_l_mixed ["_law_bag_here", "_law_things"] (spMixed K) := by
  have G_l_draw := ok_draw (P := P) (w := w) (base := base) T
  refine T.F_l_mixed.ok sc_l_mixed (fun vs H Q E h => ?_) (fun cdv A outer s H vs Q E hr h => ?_)
  · obtain ⟨B, a, xs, rfl, _⟩ := h
    rfl
  obtain ⟨B, a, xs, rfl, ha, hne, hz, hB, q⟩ := h
  have nd := sc_l_mixed.nd
  refine ⟨_, (pss_cons (ps_par (i := 2) (j := 3) rfl nd rfl rfl (by decide) rfl rfl (pa_cons (pe_callTy (show CallR _ _ (rListOf K) from call_list_of) (by rfl) T.z_list (by decide +kernel) (pa_cons (pv 1) pa_nil)) (pa_cons (pe_lst pa_nil) pa_nil)) rfl)
    (pss_cons (ps_for PassesOwn.never rfl (pi_range1 (by rfl) T.z_range (pa_cons (pe_callB (show CallR _ _ (rLenSq K) from call_len_seq) (by rfl) T.z_len (by decide +kernel) (pa_cons (pv 1) pa_nil)) pa_nil)) (pg_name (i := 4) nd rfl (Or.inl rfl)) (pss_one (ps_expr (pe_bm PySem.F.plainAttrs_list PySem.F.slot_list_append PySem.F.type_list_append mt_append (pv 3) (pa_cons (pe_bm PySem.F.plainAttrs_list PySem.F.slot_list_pop PySem.F.type_list_pop mt_popAt (pv 2) (pa_cons (pe_call G_l_draw hr (by rfl) T.m_l_draw T.F_l_draw.kp T.b_l_draw .nil pass0 (pa_cons (pv 0) (pa_cons (pe_callB (show CallR _ _ (rLenSq K) from call_len_seq) (by rfl) T.z_len (by decide +kernel) (pa_cons (pv 2) pa_nil)) pa_nil))) pa_nil)) pa_nil)))))
    (pss_one (ps_ret (pv 3))))), ?_⟩
  refine ⟨_, rfl, a, xs, rfl, .inl (SqL.of ha), fun R hR => ?_⟩
  have s1 := Same.new (o := .lst xs) hR
  refine ⟨by show 0 ≤ sizeLine; decide, fun F hF => ?_⟩
  have s2 := Same.new (o := .lst []) hF
  have s12 := s1.trans s2
  have hRF : R ≠ F := ne_of_none upd_same hF
  have hF0 : H F = none := s1.free hF
  have nR := hB.nb hR
  have nRL := hB.nL hR
  have nF := hB.nb hF0
  have nFL := hB.nL hF0
  have hR2 : (upd (upd H R (.lst xs)) F (.lst [])) R = some (.lst xs) := s2 _ _ upd_same
  have hF2 : (upd (upd H R (.lst xs)) F (.lst [])) F = some (.lst []) := upd_same
  have hB2 := hB.same s12
  have ha2 := s12 _ _ ha
  refine ⟨_, _, rfl, ?_⟩
  generalize upd (upd H R (.lst xs)) F (.lst []) = H2 at *
  refine ⟨_, rfl, a, xs, rfl, .inl (SqL.of ha2), (xs.length : Int), rfl, by omega, by omega, for_range (lo := 0) (n := ((xs.length : Nat) : Int).toNat) (fun i σ H' => (∃ b4, σ = [some (.ref B.b), some (.ref a), some (.ref R), some (.ref F), b4]) ∧ Bag B H' ∧ Kb B.b H H' ∧ ∃ rs fs, H' R = some (.lst rs) ∧ H' F = some (.lst fs) ∧ (fs ++ rs).Perm xs ∧ fs.length = i) ⟨⟨_, rfl⟩, hB2, Kb.same s12, xs, [], hR2, hF2, List.Perm.refl _, rfl⟩ ?_ ?_⟩
  · rintro i σ H3 hi ⟨⟨b4, rfl⟩, hB3, kb3, rs, fs, hR3, hF3, hp, hfl⟩
    have hlen := hp.length_eq
    rw [List.length_append] at hlen
    have hi' : i < xs.length := by omega
    have hrs : 0 < rs.length := by omega
    refine ⟨_, rfl, .inl ⟨rfl, _, SqL.of hF3⟩, ?_⟩
    refine ⟨_, rfl, .inl ⟨rfl, _, SqL.of hR3⟩, _, rfl, _, rfl, R, rs, rfl, .inl (SqL.of hR3), B, _, rfl, by omega, Nat.lt_of_le_of_lt (by omega : ((rs.length : Int)).natAbs ≤ 1000) (by decide), hB3, fun d H4 d0 d1 hB4 kb4 => ?_⟩
    have hR4 := kb4 _ _ hR3 nR
    have hF4 := kb4 _ _ hF3 nF
    have hd : d.toNat < rs.length := by omega
    obtain ⟨y, hy⟩ : ∃ y, rs[d.toNat]? = some y := ⟨_, List.getElem?_eq_getElem hd⟩
    have hlenp : (upd H4 R (.lst (rs.eraseIdx d.toNat))) F = some (.lst fs) := by rw [upd_ne hRF.symm]; exact hF4
    refine ⟨R, rs, d, d.toNat, y, rfl, rfl, hR4, by omega, by omega, seqIndex_of d0 (by omega), hy, ?_⟩
    refine ⟨F, fs, y, rfl, rfl, hlenp, Nat.lt_of_le_of_lt (by omega : fs.length ≤ 1000) (by decide), ?_⟩
    refine ⟨⟨_, rfl⟩, (hB4.upd nR nRL).upd nF nFL, fun c o h n => ?_, rs.eraseIdx d.toNat, fs ++ [y], by rw [upd_ne hRF]; exact upd_same, upd_same, ?_, by rw [List.length_append, hfl]; rfl⟩
    · rw [upd_ne (ne_of_none h hF0), upd_ne (ne_of_none h hR)]
      exact kb4 _ _ (kb3 _ _ h n) n
    · have e1 : rs = rs.take d.toNat ++ y :: rs.drop (d.toNat + 1) := by
        have h1 := List.drop_eq_getElem_cons hd
        rw [List.getElem?_eq_getElem hd] at hy
        rw [Option.some.inj hy] at h1
        rw [← h1, List.take_append_drop]
      have e2 : (y :: rs.eraseIdx d.toNat).Perm rs := by
        rw [List.eraseIdx_eq_take_drop_succ]
        conv => rhs; rw [e1]
        exact List.perm_middle.symm
      have e3 : (fs ++ [y] ++ rs.eraseIdx d.toNat).Perm (fs ++ rs) := by
        rw [List.append_assoc]
        exact List.Perm.append_left fs e2
      exact e3.trans hp
  · rintro σ H3 ⟨⟨b4, rfl⟩, hB3, kb3, rs, fs, hR3, hF3, hp, hfl⟩
    have hlen := hp.length_eq
    rw [List.length_append] at hlen
    have hr0 : rs = [] := List.eq_nil_of_length_eq_zero (by omega)
    rw [hr0, List.append_nil] at hp
    exact ⟨_, rfl, q F fs H3 hB3 kb3 hF0 hF3 hp⟩
end
end TL
namespace TL
open PySem L2

/-! ### steps of a reading -/
local macro_rules | `(tactic| walk_at "hp") => `(tactic| first | assumption | exact upd_same | (refine (upd_ne (by first | assumption | (exact Ne.symm (by assumption)))).trans ?_; walk_at "hp"))
local macro_rules | `(tactic| walk_at "ok") => `(tactic| first | (exact Or.inr ⟨by decide, by decide⟩) | (exact ⟨by decide, by decide⟩) | (exact ⟨by decide, by decide, by decide⟩) | (show _ ≠ _; omega) | (show _ ≠ _; decide) | (exact Or.inl ⟨by omega, by omega⟩) | decide)
local macro_rules | `(tactic| walk_at "sq") => `(tactic| first | assumption | exact SqL.of (by walk_at "hp") | exact SqT.of (by walk_at "hp"))
local macro_rules | `(tactic| walk_at "ty") => `(tactic| first | refine ⟨_, _, Value.type "int", Value.type "list", false, rfl, ClsV.ty _, TyX.base (TyOf.int _), kt_int_list, ?_⟩ | refine ⟨_, _, Value.type "bool", Value.type "list", false, rfl, ClsV.ty _, TyX.base (TyOf.bl _), kt_bool_list, ?_⟩ | refine ⟨_, _, Value.type "str", Value.type "list", false, rfl, ClsV.ty _, TyX.base (TyOf.str _), kt_str_list, ?_⟩ | refine ⟨_, _, Value.type "NoneType", Value.type "list", false, rfl, ClsV.ty _, TyX.base TyOf.non, kt_NoneType_list, ?_⟩ | refine ⟨_, _, Value.type "list", Value.type "list", true, rfl, ClsV.ty _, tyx_L (by walk_at "sq"), kt_list_list, ?_⟩ | refine ⟨_, _, Value.type "tuple", Value.type "list", false, rfl, ClsV.ty _, tyx_T (by walk_at "sq"), kt_tuple_list, ?_⟩ | refine ⟨_, _, Value.type "int", Value.type "tuple", false, rfl, ClsV.ty _, TyX.base (TyOf.int _), kt_int_tuple, ?_⟩ | refine ⟨_, _, Value.type "bool", Value.type "tuple", false, rfl, ClsV.ty _, TyX.base (TyOf.bl _), kt_bool_tuple, ?_⟩ | refine ⟨_, _, Value.type "str", Value.type "tuple", false, rfl, ClsV.ty _, TyX.base (TyOf.str _), kt_str_tuple, ?_⟩ | refine ⟨_, _, Value.type "NoneType", Value.type "tuple", false, rfl, ClsV.ty _, TyX.base TyOf.non, kt_NoneType_tuple, ?_⟩ | refine ⟨_, _, Value.type "list", Value.type "tuple", false, rfl, ClsV.ty _, tyx_L (by walk_at "sq"), kt_list_tuple, ?_⟩ | refine ⟨_, _, Value.type "tuple", Value.type "tuple", true, rfl, ClsV.ty _, tyx_T (by walk_at "sq"), kt_tuple_tuple, ?_⟩ | refine ⟨_, _, Value.type "int", Value.type "bool", false, rfl, ClsV.ty _, TyX.base (TyOf.int _), kt_int_bool, ?_⟩ | refine ⟨_, _, Value.type "bool", Value.type "bool", true, rfl, ClsV.ty _, TyX.base (TyOf.bl _), kt_bool_bool, ?_⟩ | refine ⟨_, _, Value.type "str", Value.type "bool", false, rfl, ClsV.ty _, TyX.base (TyOf.str _), kt_str_bool, ?_⟩ | refine ⟨_, _, Value.type "NoneType", Value.type "bool", false, rfl, ClsV.ty _, TyX.base TyOf.non, kt_NoneType_bool, ?_⟩ | refine ⟨_, _, Value.type "list", Value.type "bool", false, rfl, ClsV.ty _, tyx_L (by walk_at "sq"), kt_list_bool, ?_⟩ | refine ⟨_, _, Value.type "tuple", Value.type "bool", false, rfl, ClsV.ty _, tyx_T (by walk_at "sq"), kt_tuple_bool, ?_⟩ | refine ⟨_, _, Value.type "int", Value.type "int", true, rfl, ClsV.ty _, TyX.base (TyOf.int _), kt_int_int, ?_⟩ | refine ⟨_, _, Value.type "bool", Value.type "int", true, rfl, ClsV.ty _, TyX.base (TyOf.bl _), kt_bool_int, ?_⟩ | refine ⟨_, _, Value.type "str", Value.type "int", false, rfl, ClsV.ty _, TyX.base (TyOf.str _), kt_str_int, ?_⟩ | refine ⟨_, _, Value.type "NoneType", Value.type "int", false, rfl, ClsV.ty _, TyX.base TyOf.non, kt_NoneType_int, ?_⟩ | refine ⟨_, _, Value.type "list", Value.type "int", false, rfl, ClsV.ty _, tyx_L (by walk_at "sq"), kt_list_int, ?_⟩ | refine ⟨_, _, Value.type "tuple", Value.type "int", false, rfl, ClsV.ty _, tyx_T (by walk_at "sq"), kt_tuple_int, ?_⟩ | refine ⟨_, _, Value.type "int", Value.type "str", false, rfl, ClsV.ty _, TyX.base (TyOf.int _), kt_int_str, ?_⟩ | refine ⟨_, _, Value.type "bool", Value.type "str", false, rfl, ClsV.ty _, TyX.base (TyOf.bl _), kt_bool_str, ?_⟩ | refine ⟨_, _, Value.type "str", Value.type "str", true, rfl, ClsV.ty _, TyX.base (TyOf.str _), kt_str_str, ?_⟩ | refine ⟨_, _, Value.type "NoneType", Value.type "str", false, rfl, ClsV.ty _, TyX.base TyOf.non, kt_NoneType_str, ?_⟩ | refine ⟨_, _, Value.type "list", Value.type "str", false, rfl, ClsV.ty _, tyx_L (by walk_at "sq"), kt_list_str, ?_⟩ | refine ⟨_, _, Value.type "tuple", Value.type "str", false, rfl, ClsV.ty _, tyx_T (by walk_at "sq"), kt_tuple_str, ?_⟩)
local macro_rules | `(tactic| walk_at "go1") => `(tactic| first
  | (refine ⟨_, rfl, ?_⟩)
  | (refine ⟨_, _, rfl, rfl, ?_⟩)
  | (refine ⟨_, _, _, _, rfl, rfl, SqL.of (by walk_at "hp"), rfl, ?_⟩)
  | (refine Or.inl ⟨_, rfl, ?_⟩)
  | (refine ⟨rfl, ?_⟩)
  | (refine ⟨_, _, rfl, .inl (SqL.of (by walk_at "hp")), ?_⟩)
  | (refine ⟨_, _, rfl, Or.inl (by assumption), ?_⟩)
  | (refine ⟨_, _, rfl, Or.inr (by assumption), ?_⟩)
  | (refine ⟨(by walk_at "ok"), ?_⟩)
  | (refine ⟨_, _, _, _, rfl, rfl, (by walk_at "hp"), rfl, ?_⟩))
local macro_rules | `(tactic| walk_at "go") => `(tactic| repeat (walk_at "go1"))
local macro_rules | `(tactic| walk_at "gt") => `(tactic| repeat (first | walk_at "go1" | walk_at "ty"))

section
variable {P : Program} {w : World} {K : PySem.W.Frag} {mg : Str → Option Value} {base : Heap}
-- [0=_law_bag_here, 1=_law_lot_here, 2=_law_kind, 3=_law_strip]
theorem cp_goal {σ : L2.St} {H1 : Hp} {p D : Addr} {M : List (List Int)} {rs : List V} {i : Nat} {te : TE} {Qd : Hp → Prop} (h1 : H1 p = some (.lst rs)) (h2 : MatL H1 rs M) (hl : M.length ≤ 100) (hD : H1 D = none) (hw : ∀ u, wipe ((wipe σ [i]).set i (some u)) [i] = wipe σ [i])
    (hs : ∀ (t : Addr) (row : List Int) (H : Hp) (k : VK), H t = some (.lst (row.map V.int)) → (∃ zs, H D = some (.lst zs)) → (∀ u H', Same H H' → ((u ≠ D ∧ H' u = some (.lst (row.map V.int))) ∨ SqT K H' u (row.map V.int)) → k (.ref u) H') → te ((wipe σ [i]).set i (some (.ref t))) H k)
    (hd : ∀ H ys, Same H1 H → H D = some (.lst ys) → ys.length = M.length → (∀ (n : Nat) r, ys[n]? = some r → ∃ t row, r = .ref t ∧ M[n]? = some row ∧ Sq K H t (row.map V.int)) → Qd H) : LcGoal (Itl K p) (gName i) te [i] σ H1 D Qd := by
  refine lcsD (walk_list (K := K) (a := p) (xs := rs)) (fun n y H => ∃ u row, y = V.ref u ∧ M[n]? = some row ∧ ((u ≠ D ∧ H u = some (.lst (row.map V.int))) ∨ SqT K H u (row.map V.int))) (fun n y Ha Hb s ⟨u, row, a1, a2, a3⟩ => ⟨u, row, a1, a2, a3.elim (fun z => .inl ⟨z.1, s _ _ z.2⟩) (fun z => .inr (seqT s z))⟩)
    (fun n y Ha zs zs' hz' ⟨u, row, a1, a2, a3⟩ => ⟨u, row, a1, a2, a3.elim (fun z => .inl ⟨z.1, by rw [upd_ne z.1]; exact z.2⟩) (fun z => .inr (seqT_lst hz' z))⟩) (by rw [h2.1]; omega) hD (fun H s => SqL.of (s _ _ h1)) ?_ fun ys H2 hyl hys s2 hD2 => ?_
  · rintro n x Ha Hb hn sa hzs ⟨rfl, hx⟩ k hk
    obtain ⟨t, row, rfl, e2, e3⟩ := h2.2 n x hx
    exact ⟨hw _, hs t row _ k (sa _ _ e3) hzs fun u H' s' hu => hk _ H' s' ⟨u, row, rfl, e2, hu⟩⟩
  · refine hd H2 ys s2 hD2 (hyl.trans h2.1) fun n r hr => ?_
    obtain ⟨u, row, a1, a2, a3⟩ := hys n r hr
    exact ⟨u, row, a1, a2, a3.elim (fun z => .inl (SqL.of z.2)) .inr⟩
def spTaken (K : PySem.W.Frag) : Sp := fun vs H Q _ => ∃ (B : Bg) (p : Addr) (M : List (List Int)), vs = [.ref B.b, .ref p] ∧ Bag B H ∧ (∀ H', Kb B.b H H' → Mat H' p M) ∧ M.length ≤ 100 ∧ ∀ t H', Bag B H' → Kb B.b H H' → MatS K H' t M → Q (.ref t) H'
theorem ok_taken (T : Tx K mg) : FnOk P w K mg base CX0 2 T.f_l_taken T.d_l_taken ["_law_bag_here", "_law_lot_here"] (spTaken K) := by
  have G_l_draw := ok_draw (P := P) (w := w) (base := base) T
  refine T.F_l_taken.ok sc_l_taken (fun vs H Q E h => ?_) (fun cdv A outer s H vs Q E hr h => ?_)
  · obtain ⟨B, p, M, rfl, _⟩ := h
    rfl
  obtain ⟨B, p, M, rfl, hB, hM, hl, q⟩ := h
  have nd := sc_l_taken.nd
  refine ⟨_, (pss_cons (ps_set (i := 2) nd rfl (Or.inl rfl) (pe_call G_l_draw hr (by rfl) T.m_l_draw T.F_l_draw.kp T.b_l_draw .nil pass0 (pa_cons (pv 0) (pa_cons pe_int pa_nil))))
    (pss_cons (ps_if (pt_cmpR op_eq (pv 2) pe_int (nomark _)) (pss_one (ps_ret (pe_lc (own := [("_law_strip", 3)]) (g := (gName 3)) rfl nd (show PI _ _ _ (iList K _) from pi_list (pv 1)) (blkOk_by (own := [("_law_strip", 3)]) (N := N_l_taken) (sc := defScope s_l_taken) (by decide +kernel)) (fun _ _ _ _ _ => by exact (pg_name (i := 3) nd rfl (Or.inl rfl))) (fun _ _ _ _ _ => by exact pts_nil) (fun _ _ _ _ _ => by exact (pe_callTy (show CallR _ _ (rListOf K) from call_list_of) (by rfl) T.z_list (by decide +kernel) (pa_cons (pv 3) pa_nil)))))) pss_nil)
    (pss_one (ps_ret (pe_ifExp (pt_cmpR op_eq (pv 2) pe_int (nomark _)) (pe_lc (own := [("_law_strip", 3)]) (g := (gName 3)) rfl nd (show PI _ _ _ (iList K _) from pi_list (pv 1)) (blkOk_by (own := [("_law_strip", 3)]) (N := N_l_taken) (sc := defScope s_l_taken) (by decide +kernel)) (fun _ _ _ _ _ => by exact (pg_name (i := 3) nd rfl (Or.inl rfl))) (fun _ _ _ _ _ => by exact pts_nil) (fun _ _ _ _ _ => by exact (pe_callTy (show CallR _ _ (rTup1 K) from call_tup1) (by rfl) T.z_tuple (by decide +kernel) (pa_cons (pv 3) pa_nil)))) (pe_callTy (show CallR _ _ (rTup1 K) from call_tup1) (by rfl) T.z_tuple (by decide +kernel) (pa_cons (pe_lc (own := [("_law_strip", 3)]) (g := (gName 3)) rfl nd (show PI _ _ _ (iList K _) from pi_list (pv 1)) (blkOk_by (own := [("_law_strip", 3)]) (N := N_l_taken) (sc := defScope s_l_taken) (by decide +kernel)) (fun _ _ _ _ _ => by exact (pg_name (i := 3) nd rfl (Or.inl rfl))) (fun _ _ _ _ _ => by exact pts_nil) (fun _ _ _ _ _ => by exact (pe_callTy (show CallR _ _ (rListOf K) from call_list_of) (by rfl) T.z_list (by decide +kernel) (pa_cons (pv 3) pa_nil)))) pa_nil))))))), ?_⟩
  refine ⟨_, rfl, B, 3, rfl, by decide, by decide, hB, fun d H1 d0 d1 hB1 kb1 => ?_⟩
  obtain ⟨rs, h1, h2⟩ := (hM H1 kb1).ex
  have cpL : ∀ (σ : L2.St) (D : Addr) (hD : H1 D = none) (hσ : ∀ u, wipe ((wipe σ [3]).set 3 (some u)) [3] = wipe σ [3]) (h3 : ∀ u, ((wipe σ [3]).set 3 (some u))[3]? = some (some u)) (Qd : Hp → Prop), (∀ H ys, Same H1 H → H D = some (.lst ys) → ys.length = M.length → (∀ (n : Nat) r, ys[n]? = some r → ∃ t row, r = .ref t ∧ M[n]? = some row ∧ Sq K H t (row.map V.int)) → Qd H) → LcGoal (Itl K p) (gName 3) (tCB (rListOf K) (tCons (tVar 3) tNil)) [3] σ H1 D Qd := fun σ D hD hσ h3 Qd hd =>
    cp_goal h1 h2 hl hD hσ (fun t row H k ht ⟨zs, hz⟩ hk => ⟨_, h3 _, t, _, rfl, .inl (SqL.of ht), fun l hlf => hk l _ (Same.new hlf) (.inl ⟨(ne_of_none hz hlf).symm, upd_same⟩)⟩) hd
  refine ⟨_, rfl, rfl, _, rfl, ?_⟩
  refine ite2 (fun c1 => ?_) (fun c1 => ?_)
  · refine ⟨_, rfl, p, rfl, ⟨_, SqL.of h1⟩, fun D hD => ?_⟩
    exact cpL _ D hD (fun u => rfl) (fun u => rfl) _ fun H2 ys s2 hy hyl hys => q D H2 (hB1.same s2) (kb1.trans (Kb.same s2)) ⟨ys, .inl (SqL.of hy), hyl, hys⟩
  · refine ⟨_, rfl, rfl, _, rfl, ?_⟩
    refine ite2 (fun c2 => ?_) (fun c2 => ?_)
    · refine ⟨_, rfl, p, rfl, ⟨_, SqL.of h1⟩, fun D hD => ?_⟩
      exact cp_goal h1 h2 hl hD (fun u => rfl) (fun t row H k ht _ hk => ⟨_, rfl, t, _, rfl, .inl (SqL.of ht), fun u H' s' hu => hk u H' s' (.inr hu)⟩) fun H2 ys s2 hy hyl hys => q D H2 (hB1.same s2) (kb1.trans (Kb.same s2)) ⟨ys, .inl (SqL.of hy), hyl, hys⟩
    · refine ⟨_, rfl, p, rfl, ⟨_, SqL.of h1⟩, fun D hD => ?_⟩
      exact cpL _ D hD (fun u => rfl) (fun u => rfl) _ fun H2 ys s2 hy hyl hys => ⟨D, ys, rfl, .inl (SqL.of hy), fun t H3 s3 ht => q t H3 ((hB1.same s2).same s3) (kb1.trans (Kb.same (s2.trans s3))) ⟨ys, .inr ht, hyl, fun n r hr => by
        obtain ⟨u, row, a1, a2, a3⟩ := hys n r hr
        exact ⟨u, row, a1, a2, a3.same s3⟩⟩⟩
end
end TL
namespace TL
theorem sumN_ind {n t : Nat} (f : Nat → Int) (h : t < n) : sumN n (fun s => f s * (if s = t then 1 else 0)) = f t := by
  induction n with
  | zero => omega
  | succ n ih =>
    show sumN n _ + f n * (if n = t then 1 else 0) = f t
    by_cases e : n = t
    · subst e
      rw [if_pos rfl, sumN_congr (g := fun _ => 0) fun s hs => by rw [if_neg (by omega), Int.mul_zero], sumN_zero]
      omega
    · rw [if_neg e, ih (by omega)]
      omega
/-- a row that rests on the rows of A -/
def RestsOn (A : List Vec) (v : Vec) : Prop := ∃ (d : Int) (m : Nat → Int), d ≠ 0 ∧ ∀ j, d * v j = sumN A.length (fun t => rw_ A t j * m t)
theorem RestsOn.mem {A : List Vec} {t : Nat} (h : t < A.length) : RestsOn A (rw_ A t) := ⟨1, fun s => if s = t then 1 else 0, by decide, fun j => by rw [sumN_ind (fun s => rw_ A s j) h, Int.one_mul]⟩
inductive ClF (A : List Vec) : Nat → Frm → Prop
  | base (l : List Nat) {k : Nat} (hl : l.length = k) (h : ∀ t ∈ l, t < A.length) : ClF A k (Dt (l.map (rw_ A)))
  | zero {k : Nat} : ClF A k (fun _ => 0)
  | add {k : Nat} {F G : Frm} (a : ClF A k F) (b : ClF A k G) : ClF A k (fun cs => F cs + G cs)
  | mul {k : Nat} {F : Frm} (c : Int) (a : ClF A k F) : ClF A k (fun cs => c * F cs)
theorem ClF.step {A : List Vec} {k t : Nat} {F : Frm} (h : ClF A k F) (ht : t < A.length) : ClF A (k + 1) (WF F (rw_ A t)) := by
  induction h with
  | base l hl hh =>
    have e : WF (Dt (l.map (rw_ A))) (rw_ A t) = Dt ((l ++ [t]).map (rw_ A)) := by
      rw [List.map_append]
      exact (dt_snoc _ _).symm
    rw [e]
    refine .base _ (by rw [List.length_append, hl]; rfl) fun s hs => ?_
    rcases List.mem_append.mp hs with z | z
    · exact hh s z
    · rw [List.mem_singleton.mp z]
      exact ht
  | zero =>
    have e : WF (fun _ => 0) (rw_ A t) = fun _ => 0 := by
      funext cs
      exact wd_zero _ cs
    rw [e]
    exact .zero
  | @add k F G _ _ ia ib =>
    have e : WF (fun cs => F cs + G cs) (rw_ A t) = fun cs => WF F (rw_ A t) cs + WF G (rw_ A t) cs := by
      funext cs
      exact wd_add _ cs F G
    rw [e]
    exact .add ia ib
  | @mul k F c _ ia =>
    have e : WF (fun cs => c * F cs) (rw_ A t) = fun cs => c * WF F (rw_ A t) cs := by
      funext cs
      exact wd_mul _ c cs F
    rw [e]
    exact .mul c ia
theorem ClF.sum {A : List Vec} {k : Nat} {n : Nat} {m : Nat → Int} {F : Nat → Frm} (h : ∀ t, t < n → ClF A k (F t)) : ClF A k (fun cs => sumN n (fun t => m t * F t cs)) := by
  induction n with
  | zero => exact .zero
  | succ n ih => exact .add (ih fun t ht => h t (by omega)) (.mul _ (h n (by omega)))
theorem cl_of {A : List Vec} : ∀ X : List Vec, (∀ x ∈ X, RestsOn A x) → ∃ d : Int, d ≠ 0 ∧ ClF A X.length (fun cs => d * Dt X cs) := by
  refine rev_ind ?_ ?_
  · intro _
    refine ⟨1, by decide, ?_⟩
    exact .mul 1 (.base [] rfl fun t h => by cases h)
  · intro X x ih h
    obtain ⟨d1, n1, h1⟩ := ih fun y hy => h y (List.mem_append.mpr (.inl hy))
    obtain ⟨d2, m, n2, h2⟩ := h x (List.mem_append.mpr (.inr (List.mem_singleton.mpr rfl)))
    refine ⟨d2 * d1, Int.mul_ne_zero n2 n1, ?_⟩
    have e : (fun cs => d2 * d1 * Dt (X ++ [x]) cs) = fun cs => sumN A.length (fun t => m t * WF (fun cs => d1 * Dt X cs) (rw_ A t) cs) := by
      funext cs
      rw [dt_snoc]
      show d2 * d1 * Wd x cs (Dt X) = sumN A.length (fun t => m t * Wd (rw_ A t) cs (fun ds => d1 * Dt X ds))
      rw [← wd_comb]
      have e2 : (fun j => sumN A.length (fun t => rw_ A t j * m t)) = fun j => d2 * x j + 0 * x j := by
        funext j
        rw [← h2 j]
        omega
      rw [e2, wd_lin x x d2 0, wd_mul]
      grind
    rw [e, List.length_append]
    exact ClF.sum fun t ht => h1.step ht
theorem nodup_le : ∀ {n : Nat} {l : List Nat}, l.Nodup → (∀ t ∈ l, t < n) → l.length ≤ n
  | 0, l, _, h => by
    cases l with
    | nil => exact Nat.le_refl _
    | cons x xs => exact absurd (h x (List.mem_cons_self ..)) (by omega)
  | n + 1, l, hn, h => by
    have h2 : (l.erase n).length ≤ n := nodup_le (hn.erase n) fun t ht => by
      obtain ⟨h1, h3⟩ := hn.mem_erase_iff.mp ht
      have := h t h3
      omega
    rw [List.length_erase] at h2
    split at h2 <;> omega
theorem dup_split : ∀ {l : List Nat}, ¬ l.Nodup → ∃ a l1 l2 l3, l = l1 ++ a :: (l2 ++ a :: l3)
  | [], h => absurd List.nodup_nil h
  | a :: l, h => by
    by_cases z : a ∈ l
    · obtain ⟨l2, l3, rfl⟩ := List.append_of_mem z
      exact ⟨a, [], l2, l3, rfl⟩
    · have : ¬ l.Nodup := fun q => h (List.nodup_cons.mpr ⟨z, q⟩)
      obtain ⟨b, l1, l2, l3, rfl⟩ := dup_split this
      exact ⟨b, a :: l1, l2, l3, rfl⟩
theorem dt_dup (x : Vec) (L1 L2 L3 : List Vec) : Dt (L1 ++ x :: (L2 ++ x :: L3)) = fun _ => 0 := by
  have e : L1 ++ x :: (L2 ++ x :: L3) = ((L1 ++ x :: L2) ++ [x]) ++ L3 := by simp
  rw [e]
  unfold Dt
  rw [df_app]
  have : DF d0 ((L1 ++ x :: L2) ++ [x]) = fun _ => 0 := dt_mem (A := L1 ++ x :: L2) (by simp)
  rw [this, df_zero]
theorem ClF.many {A : List Vec} {k : Nat} {F : Frm} (h : ClF A k F) (hk : A.length < k) : F = fun _ => 0 := by
  induction h with
  | base l hl hh =>
    obtain ⟨a, l1, l2, l3, rfl⟩ := dup_split fun q => by
      have := nodup_le q hh
      omega
    simp only [List.map_append, List.map_cons]
    exact dt_dup _ _ _ _
  | zero => rfl
  | add _ _ ia ib =>
    rw [ia hk, ib hk]
    rfl
  | mul c _ ia =>
    rw [ia hk]
    funext cs
    exact Int.mul_zero c
/-- more rows than they rest on: no minor is left -/
theorem dt_dep {A X : List Vec} (h : ∀ x ∈ X, RestsOn A x) (hl : A.length < X.length) : Dt X = fun _ => 0 := by
  obtain ⟨d, hd, hc⟩ := cl_of X h
  have := hc.many hl
  funext cs
  have e : d * Dt X cs = 0 := congrFun this cs
  exact (Int.mul_eq_zero.mp e).resolve_left hd
theorem clr_span {M : List (List Int)} {w : Nat} (hw : RowsW w M) : ∃ A : List Vec, A.length = clrRank M ∧ (∀ x ∈ A, ∃ row ∈ M, x = vec row) ∧ (∀ row ∈ M, RestsOn A (vec row)) ∧ ∃ C : List Nat, C.length = clrRank M ∧ Dt A C ≠ 0 := by
  obtain ⟨B, C, hp, hr, hc, _, hd, hrest, _⟩ := clr_struct hw
  have hbl := hp.length_eq
  have hA : ((B.take (clrRank M)).map vec).length = clrRank M := by rw [List.length_map, List.length_take]; omega
  refine ⟨(B.take (clrRank M)).map vec, hA, fun x hx => ?_, fun row hrow => ?_, C, hc, hd⟩
  · obtain ⟨row, h1, rfl⟩ := List.mem_map.mp hx
    exact ⟨row, hp.mem_iff.mp (List.mem_of_mem_take h1), rfl⟩
  · obtain ⟨i, hi⟩ := List.mem_iff_getElem?.mp (hp.mem_iff.mpr hrow)
    have hiB := (List.getElem?_eq_some_iff.mp hi).1
    rcases Nat.lt_or_ge i (clrRank M) with z | z
    · have := RestsOn.mem (A := (B.take (clrRank M)).map vec) (t := i) (by omega)
      rw [map_take_rw (by omega) z, getD_of hi] at this
      exact this
    · obtain ⟨d, m, nd, h⟩ := hrest i z (by omega)
      refine ⟨d, m, nd, fun j => ?_⟩
      rw [← getD_of hi, h j, hA]
      exact sumN_congr fun t ht => by rw [map_take_rw (by omega) ht]
/-- a minor of m rows that is not 0: the rank is m or more -/
theorem rank_ge {M : List (List Int)} {w : Nat} (hw : RowsW w M) {X : List Vec} (hX : ∀ x ∈ X, ∃ row ∈ M, x = vec row) {cs : List Nat} (hd : Dt X cs ≠ 0) : X.length ≤ clrRank M := by
  obtain ⟨A, hA, _, hs, _⟩ := clr_span hw
  refine Nat.le_of_not_lt fun z => hd ?_
  exact congrFun (dt_dep (A := A) (fun x hx => by
    obtain ⟨row, h1, rfl⟩ := hX x hx
    exact hs row h1) (by omega)) cs
/-- all rows rest on m rows: the rank is m or less -/
theorem rank_le_of {M : List (List Int)} {w : Nat} (hw : RowsW w M) {A : List Vec} (h : ∀ row ∈ M, RestsOn A (vec row)) : clrRank M ≤ A.length := by
  obtain ⟨A', hA, hm, _, C, _, hd⟩ := clr_span hw
  refine Nat.le_of_not_lt fun z => hd ?_
  exact congrFun (dt_dep (A := A) (fun x hx => by
    obtain ⟨row, h1, rfl⟩ := hm x hx
    exact h row h1) (by omega)) C
end TL
namespace TL
/-! ### columns told by masks -/
def bitsOf (w m : Nat) : List Nat := (List.range w).filter fun j => m.testBit j
theorem mem_bits {w m j : Nat} : j ∈ bitsOf w m ↔ j < w ∧ m.testBit j = true := by
  unfold bitsOf
  rw [List.mem_filter, List.mem_range]
theorem bits_asc (w m : Nat) : (bitsOf w m).Pairwise (· < ·) := List.Pairwise.filter _ List.pairwise_lt_range
def gtN (cs : List Nat) (c : Nat) : Nat := (cs.filter fun d => decide (c < d)).length
/-- the expansion by a row, each column with the columns behind it -/
theorem wd_sum2 (x : Vec) : ∀ (cs : List Nat) (F : Frm), cs.Pairwise (· < ·) → Wd x cs F = (cs.map fun c => sgA (gtN cs c) * x c * F (cs.filter fun d => decide (d ≠ c))).sum
  | [], F, _ => rfl
  | c :: cs, F, h => by
    obtain ⟨h1, h2⟩ := List.pairwise_cons.mp h
    show Wd x cs (fun ds => F (c :: ds)) + sgA cs.length * x c * F cs = _
    rw [wd_sum2 x cs (fun ds => F (c :: ds)) h2, List.map_cons, List.sum_cons]
    have e1 : gtN (c :: cs) c = cs.length := by
      unfold gtN
      rw [List.filter_cons, if_neg (by simp), List.filter_eq_self.mpr fun d hd => decide_eq_true (h1 d hd)]
    have e2 : (c :: cs).filter (fun d => decide (d ≠ c)) = cs := by
      rw [List.filter_cons, if_neg (by simp), List.filter_eq_self.mpr fun d hd => decide_eq_true (by have := h1 d hd; omega)]
    rw [e1, e2, Int.add_comm]
    congr 2
    refine List.map_congr_left fun d hd => ?_
    have hcd := h1 d hd
    have e3 : gtN (c :: cs) d = gtN cs d := by
      unfold gtN
      rw [List.filter_cons, if_neg (by simp; omega)]
    have e4 : (c :: cs).filter (fun e => decide (e ≠ d)) = c :: cs.filter (fun e => decide (e ≠ d)) := by
      rw [List.filter_cons, if_pos (by simp; omega)]
    rw [e3, e4]
theorem sum_filter (f : Nat → Int) (p : Nat → Bool) : ∀ l : List Nat, ((l.filter p).map f).sum = (l.map fun j => if p j = true then f j else 0).sum
  | [] => rfl
  | a :: l => by
    rw [List.filter_cons, List.map_cons, List.sum_cons, ← sum_filter f p l]
    split
    · rw [List.map_cons, List.sum_cons]
    · omega
theorem sum_range (f : Nat → Int) (n : Nat) : ((List.range n).map f).sum = sumN n f := by
  induction n with
  | zero => rfl
  | succ n ih =>
    rw [List.range_succ, List.map_append, List.sum_append, ih]
    show _ + (f n + 0) = _
    rw [Int.add_zero]
    rfl
theorem bits_xor {w m j : Nat} (h : m.testBit j = true) : bitsOf w (m ^^^ 2 ^ j) = (bitsOf w m).filter fun d => decide (d ≠ j) := by
  unfold bitsOf
  rw [List.filter_filter]
  refine List.filter_congr fun d _ => ?_
  rw [Nat.testBit_xor, Nat.testBit_two_pow]
  by_cases e : j = d
  · subst e
    rw [h]
    simp
  · have e2 : d ≠ j := fun z => e z.symm
    simp [e, e2]
/-- how many of the bits of m lie above j -/
def abv (w m j : Nat) : Nat := ((List.range w).filter fun d => m.testBit d && decide (j < d)).length
theorem gt_abv {w m j : Nat} : gtN (bitsOf w m) j = abv w m j := by
  unfold gtN bitsOf abv
  rw [List.filter_filter]
  congr 1
  exact List.filter_congr fun d _ => Bool.and_comm _ _
theorem abv_xor {w m j : Nat} : abv w (m ^^^ 2 ^ j) j = abv w m j := by
  unfold abv
  congr 1
  refine List.filter_congr fun d _ => ?_
  by_cases e : j < d
  · rw [Nat.testBit_xor, Nat.testBit_two_pow, decide_eq_false (by omega), Bool.xor_false]
  · rw [decide_eq_false e, Bool.and_false, Bool.and_false]
/-- one more row, by masks -/
theorem wd_mask (x : Vec) (F : Frm) (w m : Nat) : Wd x (bitsOf w m) F = sumN w fun j => if m.testBit j = true then sgA (abv w (m ^^^ 2 ^ j) j) * x j * F (bitsOf w (m ^^^ 2 ^ j)) else 0 := by
  rw [wd_sum2 x _ F (bits_asc w m)]
  have e : ((bitsOf w m).map fun c => sgA (gtN (bitsOf w m) c) * x c * F ((bitsOf w m).filter fun d => decide (d ≠ c))) = (bitsOf w m).map fun j => sgA (abv w (m ^^^ 2 ^ j) j) * x j * F (bitsOf w (m ^^^ 2 ^ j)) := by
    refine List.map_congr_left fun c hc => ?_
    rw [gt_abv, abv_xor, bits_xor (mem_bits.mp hc).2]
  rw [e]
  unfold bitsOf
  rw [sum_filter, sum_range]
theorem or_xor {m j : Nat} (h : m.testBit j = false) : m ||| 2 ^ j = m ^^^ 2 ^ j := by
  refine Nat.eq_of_testBit_eq fun i => ?_
  rw [Nat.testBit_or, Nat.testBit_xor, Nat.testBit_two_pow]
  by_cases e : j = i
  · subst e
    rw [h]
    simp
  · simp [e]
theorem xor_xor {m j : Nat} : m ^^^ 2 ^ j ^^^ 2 ^ j = m := by
  rw [Nat.xor_assoc, Nat.xor_self, Nat.xor_zero]
theorem or_at {m j : Nat} : (m ||| 2 ^ j).testBit j = true := by
  rw [Nat.testBit_or, Nat.testBit_two_pow]
  simp
/-- what is put at a mask m by the mask k's turn at j -/
def putAt (x : Vec) (f : Nat → Int) (w : Nat) (m k j : Nat) : Int := if k.testBit j = false ∧ m = k ||| 2 ^ j then sgA (abv w k j) * x j * f k else 0
theorem putAt_eq (x : Vec) (f : Nat → Int) (w : Nat) {m k j : Nat} : putAt x f w m k j = if m.testBit j = true then (if k = m ^^^ 2 ^ j then sgA (abv w k j) * x j * f k else 0) else 0 := by
  unfold putAt
  by_cases hm : m.testBit j = true
  · rw [if_pos hm]
    by_cases hk : k = m ^^^ 2 ^ j
    · rw [if_pos hk, if_pos]
      subst hk
      have : (m ^^^ 2 ^ j).testBit j = false := by
        rw [Nat.testBit_xor, hm, Nat.testBit_two_pow]
        simp
      refine ⟨this, ?_⟩
      rw [or_xor this, xor_xor]
    · rw [if_neg hk, if_neg]
      rintro ⟨h1, h2⟩
      apply hk
      rw [h2, or_xor h1, xor_xor]
  · rw [if_neg hm, if_neg]
    rintro ⟨h1, h2⟩
    rw [h2] at hm
    exact hm or_at
theorem sum_one (g : Nat → Int) (k0 : Nat) : ∀ {ks : List Nat}, ks.Nodup → (ks.map fun k => if k = k0 then g k else 0).sum = if k0 ∈ ks then g k0 else 0
  | [], _ => by simp
  | a :: ks, h => by
    obtain ⟨h1, h2⟩ := List.nodup_cons.mp h
    rw [List.map_cons, List.sum_cons, sum_one g k0 h2]
    by_cases e : a = k0
    · subst e
      rw [if_pos rfl, if_neg h1, if_pos (List.mem_cons_self ..)]
      omega
    · rw [if_neg e]
      by_cases e2 : k0 ∈ ks
      · rw [if_pos e2, if_pos (List.mem_cons_of_mem _ e2)]
        omega
      · rw [if_neg e2, if_neg]
        · rfl
        · intro z
          rcases List.mem_cons.mp z with z | z
          · exact e z.symm
          · exact e2 z
theorem sum_swap (g : Nat → Nat → Int) (n : Nat) : ∀ ks : List Nat, (ks.map fun k => sumN n (g k)).sum = sumN n fun j => (ks.map fun k => g k j).sum
  | [] => by
    show (0 : Int) = sumN n fun _ => 0
    rw [sumN_zero]
  | a :: ks => by
    rw [List.map_cons, List.sum_cons, sum_swap g n ks]
    have : (fun j => ((a :: ks).map fun k => g k j).sum) = fun j => g a j + (ks.map fun k => g k j).sum := funext fun j => by rw [List.map_cons, List.sum_cons]
    rw [this, sumN_add]
/-- all that is put at m -/
theorem put_all (x : Vec) (F : Frm) (f : Nat → Int) (w m : Nat) {ks : List Nat} (hn : ks.Nodup) (hf : ∀ k, (k ∈ ks → f k = F (bitsOf w k)) ∧ (k ∉ ks → k < 2 ^ w → F (bitsOf w k) = 0)) (hm : m < 2 ^ w) :
    (ks.map fun k => sumN w (putAt x f w m k)).sum = Wd x (bitsOf w m) F := by
  rw [sum_swap, wd_mask]
  refine sumN_congr fun j hj => ?_
  have e : (ks.map fun k => putAt x f w m k j) = ks.map fun k => if k = m ^^^ 2 ^ j then (if m.testBit j = true then sgA (abv w k j) * x j * f k else 0) else 0 := by
    refine List.map_congr_left fun k _ => ?_
    rw [putAt_eq]
    split <;> split <;> rfl
  rw [e, sum_one (fun k => if m.testBit j = true then sgA (abv w k j) * x j * f k else 0) _ hn]
  by_cases hb : m.testBit j = true
  · rw [if_pos hb, if_pos hb]
    by_cases hk : (m ^^^ 2 ^ j) ∈ ks
    · rw [if_pos hk, (hf _).1 hk]
    · rw [if_neg hk, (hf _).2 hk (Nat.xor_lt_two_pow hm (Nat.pow_lt_pow_right (by decide) hj)), Int.mul_zero]
  · rw [if_neg hb, if_neg hb]
    split <;> rfl
theorem cnt_step (m n : Nat) : ∀ wd : Nat, ((List.range wd).filter fun d => m.testBit d && decide (n ≤ d)).length = (if n < wd ∧ m.testBit n = true then 1 else 0) + ((List.range wd).filter fun d => m.testBit d && decide (n < d)).length
  | 0 => by simp
  | wd + 1 => by
    rw [List.range_succ, List.filter_append, List.length_append, List.filter_append, List.length_append, cnt_step m n wd]
    by_cases e : n = wd
    · subst e
      cases h : m.testBit n
      · simp [h]
      · simp [h]
        omega
    · by_cases e2 : n < wd
      · have a1 : decide (n ≤ wd) = true := decide_eq_true (by omega)
        have a2 : decide (n < wd) = true := decide_eq_true (by omega)
        cases h : m.testBit wd <;> cases h2 : m.testBit n <;> simp [h, h2, a1, a2, e2, Nat.lt_succ_of_lt e2] <;> omega
      · have a1 : decide (n ≤ wd) = false := decide_eq_false (by omega)
        have a2 : decide (n < wd) = false := decide_eq_false (by omega)
        have a3 : ¬ n < wd + 1 := by omega
        simp [a1, a2, e2, a3]
/-- the sign at j, from the top: i columns are through -/
def sgT (wd m i : Nat) : Int := sgA ((List.range wd).filter fun d => m.testBit d && decide (wd - i ≤ d)).length
theorem sgT_zero {wd m : Nat} : sgT wd m 0 = 1 := by
  unfold sgT
  rw [List.filter_eq_nil_iff.mpr]
  · rfl
  · intro d hd
    have := List.mem_range.mp hd
    rw [decide_eq_false (by omega), Bool.and_false]
    exact Bool.false_ne_true
theorem sgT_at {wd m i : Nat} (h : i < wd) : sgT wd m i = sgA (abv wd m (wd - 1 - i)) := by
  unfold sgT abv
  congr 2
  refine List.filter_congr fun d _ => ?_
  congr 1
  exact decide_eq_decide.mpr (by omega)
theorem sgT_succ {wd m i : Nat} (h : i < wd) : sgT wd m (i + 1) = if m.testBit (wd - 1 - i) = true then - sgT wd m i else sgT wd m i := by
  rw [sgT_at h]
  unfold sgT
  rw [show wd - (i + 1) = wd - 1 - i by omega, cnt_step]
  show sgA (_ + abv wd m (wd - 1 - i)) = _
  by_cases e : m.testBit (wd - 1 - i) = true
  · rw [if_pos ⟨by omega, e⟩, if_pos e, Nat.add_comm]
    rfl
  · rw [if_neg (fun z => e z.2), if_neg e, Nat.zero_add]
theorem sumN_rev (f : Nat → Int) : ∀ n, sumN n (fun s => f (n - 1 - s)) = sumN n f
  | 0 => rfl
  | n + 1 => by
    rw [sumN_front]
    show f (n + 1 - 1 - 0) + sumN n (fun t => f (n + 1 - 1 - (t + 1))) = sumN n f + f n
    have : (fun t => f (n + 1 - 1 - (t + 1))) = fun t => f (n - 1 - t) := funext fun t => by rw [show n + 1 - 1 - (t + 1) = n - 1 - t by omega]
    rw [this, sumN_rev f n, show n + 1 - 1 - 0 = n by omega]
    omega
theorem bits_full (n : Nat) : bitsOf n (2 ^ n - 1) = List.range n := by
  unfold bitsOf
  refine List.filter_eq_self.mpr fun j hj => ?_
  rw [Nat.testBit_two_pow_sub_one]
  exact decide_eq_true (List.mem_range.mp hj)
theorem bits_zero (w : Nat) : bitsOf w 0 = [] := by
  unfold bitsOf
  refine List.filter_eq_nil_iff.mpr fun j _ => ?_
  simp
/-- a determinant with fewer rows than columns, or more -/
theorem dt_len : ∀ (A : List Vec) (cs : List Nat), cs.length ≠ A.length → Dt A cs = 0 := by
  refine rev_ind ?_ ?_
  · intro cs h
    cases cs with
    | nil => exact absurd rfl h
    | cons c cs => rfl
  · intro A x ih cs h
    rw [dt_snoc]
    show Wd x cs (Dt A) = 0
    rw [wd_full]
    refine (sumN_congr fun t ht => ?_).trans sumN_zero
    rw [ih _ (fun z => h ?_), Int.mul_zero]
    rw [List.length_eraseIdx_of_lt ht] at z
    rw [List.length_append, List.length_singleton]
    omega
end TL
namespace TL
open PySem PySem.Spec PyProof.Rows L2
/-! ### dicts of ints; bits of numbers that are not below 0 -/
theorem u1 {k : Nat} {A : Around} (r : Room k A) : A.units + 1 < cLine := by
  have := r.units
  omega
theorem band_nat (a b : Nat) : Builtin.bitAnd (a : Int) (b : Int) = ((a &&& b : Nat) : Int) := by
  unfold Builtin.bitAnd
  rw [decide_eq_true (Int.natCast_nonneg a), decide_eq_true (Int.natCast_nonneg b)]
  rfl
theorem bor_nat (a b : Nat) : Builtin.bitOr (a : Int) (b : Int) = ((a ||| b : Nat) : Int) := bitOr_nn (Int.natCast_nonneg _) (Int.natCast_nonneg _)
theorem op_andNat {X : Cx} : OpR X (binaryOp .BitAnd) (fun x y H Q => ∃ a b : Nat, x = .int (a : Int) ∧ y = .int (b : Int) ∧ Q (.int ((a &&& b : Nat) : Int)) H) := by
  intro pins s σ H x y v u Q I rx ry h
  obtain ⟨a, b, rfl, rfl, q⟩ := h
  rw [← band_nat] at q
  exact op_and pins s σ H _ _ v u Q I rx ry ⟨_, _, rfl, rfl, q⟩
theorem op_orNat {X : Cx} : OpR X (binaryOp .BitOr) (fun x y H Q => ∃ a b : Nat, x = .int (a : Int) ∧ y = .int (b : Int) ∧ Q (.int ((a ||| b : Nat) : Int)) H) := by
  intro pins s σ H x y v u Q I rx ry h
  obtain ⟨a, b, rfl, rfl, q⟩ := h
  rw [← bor_nat] at q
  exact op_or pins s σ H _ _ v u Q I rx ry ⟨_, _, rfl, rfl, q⟩
/-- 1 << k -/
theorem op_shl1 {X : Cx} : OpR X (binaryOp .LShift) (fun x y H Q => ∃ k : Nat, x = .int 1 ∧ y = .int (k : Int) ∧ k ≤ 1000000 ∧ Q (.int ((2 ^ k : Nat) : Int)) H) := by
  intro pins s σ H x y v u Q I rx ry h
  obtain ⟨k, rfl, rfl, hk, q⟩ := h
  refine op_shlN pins s σ H _ _ v u Q I rx ry ⟨1, k, rfl, rfl, shl_ok (n := 1) (by decide) (by omega), ?_⟩
  rw [Int.one_mul, ← PySem.W.kbt_cast]
  exact q
theorem and_ne {m j : Nat} : (((m &&& 2 ^ j : Nat) : Int) != 0) = m.testBit j := by
  have e : m &&& 2 ^ j = if m.testBit j then 2 ^ j else 0 := by
    refine Nat.eq_of_testBit_eq fun i => ?_
    rw [Nat.testBit_and, Nat.testBit_two_pow]
    by_cases h : j = i
    · subst h
      cases hm : m.testBit j
      · simp
      · simp
    · rw [decide_eq_false h, Bool.and_false]
      split
      · rw [Nat.testBit_two_pow, decide_eq_false h]
      · simp
  rw [e]
  have : (2 : Nat) ^ j ≠ 0 := Nat.ne_of_gt (Nat.pow_pos (by decide))
  cases m.testBit j
  · rfl
  · simp only [if_true]
    exact bne_iff_ne.mpr (fun z => this (by omega))
/-- a dict of ints: the keys, numbers not below 0, in their order; what stands at them -/
def nK (k : Nat) : Key := .inl (k : Int)
def DI (H : Hp) (a : Addr) (ks : List Nat) (f : Nat → Int) : Prop := H a = some (.dK (ks.map fun k => (nK k, V.int (f k)))) ∧ ks.Nodup
theorem nK_inj {a b : Nat} (h : nK a = nK b) : a = b := by
  unfold nK at h
  injection h with h
  omega
theorem valV_nat (f : Nat → Int) (k : Nat) : ∀ ks : List Nat, valV (ks.map fun k => (nK k, V.int (f k))) (nK k) = if k ∈ ks then some (.int (f k)) else none
  | [] => by simp [valV_nil]
  | a :: ks => by
    rw [List.map_cons]
    by_cases e : a = k
    · subst e
      rw [valV_pos rfl, if_pos (List.mem_cons_self ..)]
    · rw [valV_neg (fun z => e (nK_inj z)), valV_nat f k ks]
      by_cases e2 : k ∈ ks
      · rw [if_pos e2, if_pos (List.mem_cons_of_mem _ e2)]
      · rw [if_neg e2, if_neg]
        intro z
        rcases List.mem_cons.mp z with z | z
        · exact e z.symm
        · exact e2 z
theorem any_nat (f : Nat → Int) (k : Nat) (ks : List Nat) : ((ks.map fun k => (nK k, V.int (f k))).any fun kv => decide (kv.1 = nK k)) = decide (k ∈ ks) := by
  rw [valV_any, valV_nat]
  split <;> simp [*]
theorem put_nat (f : Nat → Int) (k : Nat) (v : Int) (ks : List Nat) : putK (ks.map fun k => (nK k, V.int (f k))) (nK k) (.int v) = (if k ∈ ks then ks else ks ++ [k]).map fun j => (nK j, V.int (if j = k then v else f j)) := by
  by_cases e : k ∈ ks
  · rw [if_pos e]
    unfold putK
    rw [any_nat, if_pos (decide_eq_true e), List.map_map]
    refine List.map_congr_left fun j hj => ?_
    show (if nK j = nK k then _ else _) = _
    by_cases h : j = k
    · subst h
      rw [if_pos rfl, if_pos rfl]
    · rw [if_neg (fun z => h (nK_inj z)), if_neg h]
  · rw [if_neg e, putK_new _ (by rw [valV_nat, if_neg e]), List.map_append]
    congr 1
    · refine List.map_congr_left fun j hj => ?_
      rw [if_neg (fun z => e (by rw [← z]; exact hj))]
    · show [(nK k, V.int v)] = [(nK k, V.int (if k = k then v else f k))]
      rw [if_pos rfl]
theorem DI.put {H : Hp} {a : Addr} {ks : List Nat} {f : Nat → Int} (h : DI H a ks f) (hl : ks.length < 1000000) {k : Nat} {v : Int} : ∃ H', DPut H a (.int (k : Int)) (.int v) H' ∧ H' = upd H a (.dK ((if k ∈ ks then ks else ks ++ [k]).map fun j => (nK j, V.int (if j = k then v else f j)))) ∧ DI H' a (if k ∈ ks then ks else ks ++ [k]) (fun j => if j = k then v else f j) := by
  refine ⟨_, DPut.k (k := nK k) h.1 (by rw [List.length_map, sizeLine_eq]; omega), by rw [put_nat], by rw [put_nat]; exact upd_same, ?_⟩
  by_cases e : k ∈ ks
  · rw [if_pos e]
    exact h.2
  · rw [if_neg e]
    exact List.nodup_append.mpr ⟨h.2, List.nodup_cons.mpr ⟨by simp, List.nodup_nil⟩, fun x hx y hy z => by
      rw [List.mem_singleton.mp hy] at z
      subst z
      exact e hx⟩
theorem DI.get {H : Hp} {a : Addr} {ks : List Nat} {f : Nat → Int} (h : DI H a ks f) {k : Nat} (hk : k ∈ ks) : DGet H a (.int (k : Int)) (some (.int (f k))) := by
  have := DGet.k (k := nK k) h.1
  rw [valV_nat, if_pos hk] at this
  exact this
theorem DI.isD {H : Hp} {a : Addr} {ks : List Nat} {f : Nat → Int} (h : DI H a ks f) : IsD H a := .inl ⟨_, .inl h.1⟩
theorem DI.get0 {H : Hp} {a : Addr} {ks : List Nat} {f : Nat → Int} (h : DI H a ks f) {k : Nat} {Q : VK} (q : Q (.int (if k ∈ ks then f k else 0)) H) : ∃ o, DGet H a (.int (k : Int)) o ∧ Q (o.getD (.int 0)) H := by
  refine ⟨_, DGet.k (k := nK k) h.1, ?_⟩
  rw [valV_nat]
  by_cases e : k ∈ ks
  · rw [if_pos e] at q ⊢
    exact q
  · rw [if_neg e] at q ⊢
    exact q
theorem DI.same {H H' : Hp} {a : Addr} {ks : List Nat} {f : Nat → Int} (h : DI H a ks f) (s : Same H H') : DI H' a ks f := ⟨s _ _ h.1, h.2⟩
end TL
namespace TL
open PySem L2

/-! ### steps of a reading -/
local macro_rules | `(tactic| walk_at "hp") => `(tactic| first | assumption | exact upd_same | (refine (upd_ne (by first | assumption | (exact Ne.symm (by assumption)))).trans ?_; walk_at "hp"))
local macro_rules | `(tactic| walk_at "ok") => `(tactic| first | (exact Or.inr ⟨by decide, by decide⟩) | (exact ⟨by decide, by decide⟩) | (exact ⟨by decide, by decide, by decide⟩) | (show _ ≠ _; omega) | (show _ ≠ _; decide) | (exact Or.inl ⟨by omega, by omega⟩) | decide)
local macro_rules | `(tactic| walk_at "sq") => `(tactic| first | assumption | exact SqL.of (by walk_at "hp") | exact SqT.of (by walk_at "hp"))
local macro_rules | `(tactic| walk_at "ty") => `(tactic| first | refine ⟨_, _, Value.type "int", Value.type "list", false, rfl, ClsV.ty _, TyX.base (TyOf.int _), kt_int_list, ?_⟩ | refine ⟨_, _, Value.type "bool", Value.type "list", false, rfl, ClsV.ty _, TyX.base (TyOf.bl _), kt_bool_list, ?_⟩ | refine ⟨_, _, Value.type "str", Value.type "list", false, rfl, ClsV.ty _, TyX.base (TyOf.str _), kt_str_list, ?_⟩ | refine ⟨_, _, Value.type "NoneType", Value.type "list", false, rfl, ClsV.ty _, TyX.base TyOf.non, kt_NoneType_list, ?_⟩ | refine ⟨_, _, Value.type "list", Value.type "list", true, rfl, ClsV.ty _, tyx_L (by walk_at "sq"), kt_list_list, ?_⟩ | refine ⟨_, _, Value.type "tuple", Value.type "list", false, rfl, ClsV.ty _, tyx_T (by walk_at "sq"), kt_tuple_list, ?_⟩ | refine ⟨_, _, Value.type "int", Value.type "tuple", false, rfl, ClsV.ty _, TyX.base (TyOf.int _), kt_int_tuple, ?_⟩ | refine ⟨_, _, Value.type "bool", Value.type "tuple", false, rfl, ClsV.ty _, TyX.base (TyOf.bl _), kt_bool_tuple, ?_⟩ | refine ⟨_, _, Value.type "str", Value.type "tuple", false, rfl, ClsV.ty _, TyX.base (TyOf.str _), kt_str_tuple, ?_⟩ | refine ⟨_, _, Value.type "NoneType", Value.type "tuple", false, rfl, ClsV.ty _, TyX.base TyOf.non, kt_NoneType_tuple, ?_⟩ | refine ⟨_, _, Value.type "list", Value.type "tuple", false, rfl, ClsV.ty _, tyx_L (by walk_at "sq"), kt_list_tuple, ?_⟩ | refine ⟨_, _, Value.type "tuple", Value.type "tuple", true, rfl, ClsV.ty _, tyx_T (by walk_at "sq"), kt_tuple_tuple, ?_⟩ | refine ⟨_, _, Value.type "int", Value.type "bool", false, rfl, ClsV.ty _, TyX.base (TyOf.int _), kt_int_bool, ?_⟩ | refine ⟨_, _, Value.type "bool", Value.type "bool", true, rfl, ClsV.ty _, TyX.base (TyOf.bl _), kt_bool_bool, ?_⟩ | refine ⟨_, _, Value.type "str", Value.type "bool", false, rfl, ClsV.ty _, TyX.base (TyOf.str _), kt_str_bool, ?_⟩ | refine ⟨_, _, Value.type "NoneType", Value.type "bool", false, rfl, ClsV.ty _, TyX.base TyOf.non, kt_NoneType_bool, ?_⟩ | refine ⟨_, _, Value.type "list", Value.type "bool", false, rfl, ClsV.ty _, tyx_L (by walk_at "sq"), kt_list_bool, ?_⟩ | refine ⟨_, _, Value.type "tuple", Value.type "bool", false, rfl, ClsV.ty _, tyx_T (by walk_at "sq"), kt_tuple_bool, ?_⟩ | refine ⟨_, _, Value.type "int", Value.type "int", true, rfl, ClsV.ty _, TyX.base (TyOf.int _), kt_int_int, ?_⟩ | refine ⟨_, _, Value.type "bool", Value.type "int", true, rfl, ClsV.ty _, TyX.base (TyOf.bl _), kt_bool_int, ?_⟩ | refine ⟨_, _, Value.type "str", Value.type "int", false, rfl, ClsV.ty _, TyX.base (TyOf.str _), kt_str_int, ?_⟩ | refine ⟨_, _, Value.type "NoneType", Value.type "int", false, rfl, ClsV.ty _, TyX.base TyOf.non, kt_NoneType_int, ?_⟩ | refine ⟨_, _, Value.type "list", Value.type "int", false, rfl, ClsV.ty _, tyx_L (by walk_at "sq"), kt_list_int, ?_⟩ | refine ⟨_, _, Value.type "tuple", Value.type "int", false, rfl, ClsV.ty _, tyx_T (by walk_at "sq"), kt_tuple_int, ?_⟩ | refine ⟨_, _, Value.type "int", Value.type "str", false, rfl, ClsV.ty _, TyX.base (TyOf.int _), kt_int_str, ?_⟩ | refine ⟨_, _, Value.type "bool", Value.type "str", false, rfl, ClsV.ty _, TyX.base (TyOf.bl _), kt_bool_str, ?_⟩ | refine ⟨_, _, Value.type "str", Value.type "str", true, rfl, ClsV.ty _, TyX.base (TyOf.str _), kt_str_str, ?_⟩ | refine ⟨_, _, Value.type "NoneType", Value.type "str", false, rfl, ClsV.ty _, TyX.base TyOf.non, kt_NoneType_str, ?_⟩ | refine ⟨_, _, Value.type "list", Value.type "str", false, rfl, ClsV.ty _, tyx_L (by walk_at "sq"), kt_list_str, ?_⟩ | refine ⟨_, _, Value.type "tuple", Value.type "str", false, rfl, ClsV.ty _, tyx_T (by walk_at "sq"), kt_tuple_str, ?_⟩)
local macro_rules | `(tactic| walk_at "go1") => `(tactic| first
  | (refine ⟨_, rfl, ?_⟩)
  | (refine ⟨_, _, rfl, rfl, ?_⟩)
  | (refine ⟨_, _, _, _, rfl, rfl, SqL.of (by walk_at "hp"), rfl, ?_⟩)
  | (refine Or.inl ⟨_, rfl, ?_⟩)
  | (refine ⟨rfl, ?_⟩)
  | (refine ⟨_, _, rfl, .inl (SqL.of (by walk_at "hp")), ?_⟩)
  | (refine ⟨_, _, rfl, Or.inl (by assumption), ?_⟩)
  | (refine ⟨_, _, rfl, Or.inr (by assumption), ?_⟩)
  | (refine ⟨(by walk_at "ok"), ?_⟩)
  | (refine ⟨_, _, _, _, rfl, rfl, (by walk_at "hp"), rfl, ?_⟩))
local macro_rules | `(tactic| walk_at "go") => `(tactic| repeat (walk_at "go1"))
local macro_rules | `(tactic| walk_at "gt") => `(tactic| repeat (first | walk_at "go1" | walk_at "ty"))

section
variable {P : Program} {w : World} {K : PySem.W.Frag} {mg : Str → Option Value} {base : Heap}
-- [0=_law_lot_here, 1=_law_wide, 2=_law_found, 3=_law_strip, 4=_law_more, 5=_law_mask, 6=_law_sign, 7=_law_j, 8=_law_bit]
/-- all minors of the rows, told by masks -/
def MinOf (M : List (List Int)) (wd : Nat) (ks : List Nat) (f : Nat → Int) : Prop := ∀ k, (k ∈ ks → k < 2 ^ wd ∧ f k = Dt (M.map vec) (bitsOf wd k)) ∧ (k ∉ ks → k < 2 ^ wd → Dt (M.map vec) (bitsOf wd k) = 0)
def spMinors : Sp := fun vs H Q _ => ∃ (p : Addr) (M : List (List Int)) (wd Bd bb : Nat), vs = [.ref p, .int (wd : Int)] ∧ Mat H p M ∧ RowsW wd M ∧ M.length ≤ 10 ∧ wd ≤ 10 ∧ 0 < Bd ∧ Bd < 2 ^ 100 ∧ (∀ row ∈ M, ∀ x ∈ row, x.natAbs ≤ Bd) ∧ fb Bd (M.length + 1) < 2 ^ bb ∧ 0 < bb ∧ bb < 9000 ∧ ∀ a ks f H', Same H H' → DI H' a ks f → MinOf M wd ks f → Q (.ref a) H'
theorem ok_minors (T : Tx K mg) : FnOk P w K mg base CX0 1 T.f_l_minors T.d_l_minors ["_law_lot_here", "_law_wide"] spMinors := by
  refine T.F_l_minors.ok sc_l_minors (fun vs H Q E h => ?_) (fun cdv A outer s H vs Q E hr h => ?_)
  · obtain ⟨p, M, wd, Bd, bb, rfl, _⟩ := h
    rfl
  obtain ⟨p, M, wd, Bd, bb, rfl, hM, hw, hl, hwd, hB0, hB1, hB, hf, hb0, hb, q⟩ := h
  have nd := sc_l_minors.nd
  obtain ⟨rs, h1, h2⟩ := hM.ex
  refine ⟨_, (pss_cons (ps_set (i := 2) nd rfl (Or.inl rfl) (pe_disp (pps_cons pe_int pe_int pps_nil) rfl rfl (List.cons_ne_nil _ _) (by decide)))
    (pss_cons (ps_for PassesOwn.never rfl (show PI _ _ _ (iList K _) from pi_list (pv 0)) (pg_name (i := 3) nd rfl (Or.inl rfl)) (pss_cons (ps_set (i := 4) nd rfl (Or.inl rfl) pe_dnewK)
    (pss_cons (ps_for PassesOwn.never rfl (show PI _ _ _ (iList K _) from pi_list (pe_callTy (call_list_dK rfl) (by rfl) T.z_list (by decide +kernel) (pa_cons (pv 2) pa_nil))) (pg_name (i := 5) nd rfl (Or.inl rfl)) (pss_cons (ps_set (i := 6) nd rfl (Or.inl rfl) pe_int)
    (pss_one (ps_for PassesOwn.never rfl (pi_range3 (by rfl) T.z_range (pa_cons (pe_op op_sub (pv 1) pe_int) (pa_cons (pe_un un_neg pe_int) (pa_cons (pe_un un_neg pe_int) pa_nil)))) (pg_name (i := 7) nd rfl (Or.inl rfl)) (pss_cons (ps_set (i := 8) nd rfl (Or.inl rfl) (pe_op op_shl1 pe_int (pv 7)))
    (pss_one (ps_if (pt_truth (pe_op op_andNat (pv 5) (pv 8)) (by intro _; rfl)) (pss_one (ps_set (i := 6) nd rfl (Or.inl rfl) (pe_un un_neg (pv 6)))) (pss_one (ps_if (PW.pt (pw_and (pt_cmpR op_ne (pe_dget (u1 hr) (pv 2) (pv 5) (fun _ _ => rfl)) pe_int (nomark _)) (pw_and1 (pt_cmpR op_ne (pe_ix (show IxR _ (rIxL K) from ix_list) (pv 3) (pv 7) (fun _ _ => rfl)) pe_int (nomark _))))) (pss_one (ps_dput (u1 hr) (pv 4) (pe_op op_orNat (pv 5) (pv 8)) (pe_op op_add (pe_dget2 (u1 hr) (pv 4) (pe_op op_orNat (pv 5) (pv 8)) pe_int ⟨rfl, rfl, rfl, rfl⟩) (pe_op op_mulW (pe_op op_mul (pv 6) (pe_ix (show IxR _ (rIxL K) from ix_list) (pv 3) (pv 7) (fun _ _ => rfl))) (pe_dget (u1 hr) (pv 2) (pv 5) (fun _ _ => rfl)))) rfl)) pss_nil)))))))))
    (pss_one (ps_set (i := 2) nd rfl (Or.inl rfl) (pv 4))))))
    (pss_one (ps_ret (pv 2))))), ?_⟩
  intro a ha
  refine ⟨upd_same, [(nK 0, .int 1)], rfl, by decide, ?_⟩
  have s1 : Same H (upd (upd H a (.dK [])) a (.dK (mergeK [] [(nK 0, .int 1)]))) := (Same.new ha).upd_new ha
  have d1 : DI (upd (upd H a (.dK [])) a (.dK (mergeK [] [(nK 0, .int 1)]))) a [0] (fun _ => 1) := ⟨upd_same, by simp⟩
  have m1 : MinOf (M.take 0) wd [0] (fun _ => 1) := fun k => ⟨fun hk => by
    rw [List.mem_singleton.mp hk]
    exact ⟨Nat.pow_pos (by decide), by rw [bits_zero]; rfl⟩, fun hk hk2 => by
    have hk0 : k ≠ 0 := fun z => hk (List.mem_singleton.mpr z)
    obtain ⟨j, hj⟩ := Nat.exists_testBit_of_ne_zero hk0
    have hj2 : j < wd := Nat.lt_of_not_le fun z => by
      rw [Nat.testBit_lt_two_pow (Nat.lt_of_lt_of_le hk2 (Nat.pow_le_pow_right (by decide) z))] at hj
      cases hj
    have := mem_bits.mpr ⟨hj2, hj⟩
    show d0 (bitsOf wd k) = 0
    cases e : bitsOf wd k with
    | nil => rw [e] at this; cases this
    | cons c cs => rfl⟩
  generalize upd (upd H a (.dK [])) a (.dK (mergeK [] [(nK 0, .int 1)])) = H1 at *
  refine ⟨_, rfl, p, rfl, ⟨_, SqL.of (s1 _ _ h1)⟩, for_it (walk_list (K := K) (a := p) (xs := rs)) (fun i σ' H' => ∃ a ks f, (∃ b3 b4 b5 b6 b7 b8, σ' = [some (.ref p), some (.int (wd : Int)), some (.ref a), b3, b4, b5, b6, b7, b8]) ∧ Same H H' ∧ DI H' a ks f ∧ MinOf (M.take i) wd ks f) ⟨a, [0], fun _ => 1, ⟨_, _, _, _, _, _, rfl⟩, s1, d1, m1⟩ (fun i σ' H' _ h => by obtain ⟨_, _, _, _, h, _⟩ := h; exact SqL.of (h _ _ h1)) ?_ ?_⟩
  · clear d1 m1 ha s1 a
    rintro i x σ' H2 H2' hi ⟨a, ks, f, ⟨b3, b4, b5, b6, b7, b8, rfl⟩, s2, d2, m2⟩ ⟨rfl, hx⟩
    obtain ⟨t, row, rfl, e2, e3⟩ := h2.2 i _ hx
    have hrow : row.length = wd := hw row (List.mem_of_getElem? e2)
    have ht2 := s2 _ _ e3
    have hiM : i < M.length := by rw [← h2.1]; exact hi
    refine fun D hD => ?_
    have s3 := s2.upd_new (o := .dK []) (s2.free hD)
    have d3 := d2.same (Same.new (o := .dK []) hD)
    have dD : DI (upd H2' D (.dK [])) D [] (fun _ => 0) := ⟨upd_same, List.nodup_nil⟩
    have ht3 := Same.new (o := .dK []) hD _ _ ht2
    have aD : a ≠ D := ne_of_none d2.1 hD
    generalize upd H2' D (.dK []) = H3 at *
    refine ⟨_, rfl, a, _, rfl, d3.1, fun L hL => ?_⟩
    have aL : a ≠ L := ne_of_none d3.1 hL
    have DL : D ≠ L := ne_of_none dD.1 hL
    have s4 := s3.upd_new (o := .lst ((ks.map fun k => (nK k, V.int (f k))).map fun kv => kV kv.1)) (s3.free hL)
    have d4 := d3.same (Same.new (o := .lst ((ks.map fun k => (nK k, V.int (f k))).map fun kv => kV kv.1)) hL)
    have dD4 := dD.same (Same.new (o := .lst ((ks.map fun k => (nK k, V.int (f k))).map fun kv => kV kv.1)) hL)
    have ht4 := Same.new (o := .lst ((ks.map fun k => (nK k, V.int (f k))).map fun kv => kV kv.1)) hL _ _ ht3
    have eL : ((ks.map fun k => (nK k, V.int (f k))).map fun kv => kV kv.1) = natsV ks := by
      rw [List.map_map]
      rfl
    rw [eL] at s4 d4 dD4 ht4 ⊢
    have hL4 : (upd H3 L (.lst (natsV ks))) L = some (.lst (natsV ks)) := upd_same
    generalize upd H3 L (.lst (natsV ks)) = H4 at *
    have tD : t ≠ D := fun z => by
      subst z
      rw [dD4.1] at ht4
      cases ht4
    have sameK : ∀ {H'}, Kb D H4 H' → Same H H' := fun kb c o h => kb _ _ (s4 _ _ h) (fun z => by
      subst z
      have := s2 _ _ h
      rw [hD] at this
      cases this)
    have key : ∀ k ∈ ks, k < 2 ^ wd ∧ (f k).natAbs < 2 ^ bb := fun k hk => by
      obtain ⟨a1, a2⟩ := (m2 k).1 hk
      refine ⟨a1, ?_⟩
      rw [a2]
      by_cases e : (bitsOf wd k).length = ((M.take i).map vec).length
      · refine Nat.lt_of_le_of_lt (Nat.le_trans (dt_bound (B := Bd) _ _ e fun x hx j => ?_) (fb_le hB0 ?_)) hf
        · obtain ⟨r, hr, rfl⟩ := List.mem_map.mp hx
          unfold vec
          rw [List.getD_eq_getElem?_getD]
          cases k2 : r[j]? with
          | none => exact Nat.zero_le _
          | some y => exact hB r (List.mem_of_mem_take hr) y (List.mem_of_getElem? k2)
        · rw [List.length_map, List.length_take]
          omega
      · rw [dt_len _ _ e]
        exact Nat.pow_pos (by decide)
    have kl : ∀ ks2 : List Nat, ks2.Nodup → (∀ m ∈ ks2, m < 2 ^ wd) → ks2.length < 1000000 := fun ks2 h1 h2 => by
      have a1 := nodup_le h1 h2
      have a2 : 2 ^ wd ≤ 2 ^ 10 := Nat.pow_le_pow_right (by decide) hwd
      omega
    have hRg : RgC ((wd : Int) - 1) (-1) (-1) wd := by
      have := RgC.neg (i := (wd : Int) - 1) (j := -1) (by omega) (by omega) (by decide) (by decide)
      rwa [show ((wd : Int) - 1 - (-1)).toNat = wd by omega] at this
    refine ⟨L, rfl, ⟨_, SqL.of hL4⟩, for_it (walk_list (K := K) (a := L) (xs := natsV ks)) (fun n σ' H' => ∃ ks2 g, (∃ b5 b6 b7 b8, σ' = [some (.ref p), some (.int (wd : Int)), some (.ref a), some (.ref t), some (.ref D), b5, b6, b7, b8]) ∧ Kb D H4 H' ∧ DI H' D ks2 g ∧ (∀ m ∈ ks2, m < 2 ^ wd) ∧ ∀ m, m < 2 ^ wd → (if m ∈ ks2 then g m else 0) = ((ks.take n).map fun k => sumN wd (putAt (vec row) f wd m k)).sum) ⟨[], fun _ => 0, ⟨_, _, _, _, rfl⟩, Kb.refl _ _, dD4, fun m hm => (by cases hm), fun m _ => by rw [if_neg (by simp)]; rfl⟩ (fun n σ' H' _ h => by obtain ⟨_, _, _, h, _⟩ := h; exact SqL.of (h _ _ hL4 (Ne.symm DL))) ?_ ?_⟩
    · rintro n x σ' H5 H5' hn ⟨ks2, g, ⟨b5, b6, b7, b8, rfl⟩, kb, dg, hk2, hval⟩ ⟨rfl, hx⟩
      obtain ⟨k, hk, rfl⟩ := natsV_at hx
      have hkm : k ∈ ks := List.mem_of_getElem? hk
      obtain ⟨hk1, hkb⟩ := key k hkm
      have etk : ks.take (n + 1) = ks.take n ++ [k] := by rw [List.take_succ, hk]; rfl
      refine ⟨_, rfl, _, _, rfl, rfl, _, rfl, _, rfl, _, _, _, wd, rfl, hRg, for_rangeC (lo := (wd : Int) - 1) (c := -1) (n := wd) (fun s σ' H' => ∃ ks2 g, (∃ b7 b8, σ' = [some (.ref p), some (.int (wd : Int)), some (.ref a), some (.ref t), some (.ref D), some (.int (k : Int)), some (.int (sgT wd k s)), b7, b8]) ∧ Kb D H4 H' ∧ DI H' D ks2 g ∧ (∀ m ∈ ks2, m < 2 ^ wd) ∧ ∀ m, m < 2 ^ wd → (if m ∈ ks2 then g m else 0) = ((ks.take n).map fun k => sumN wd (putAt (vec row) f wd m k)).sum + sumN s fun u => putAt (vec row) f wd m k (wd - 1 - u)) ⟨ks2, g, ⟨_, _, by rw [sgT_zero]; rfl⟩, kb, dg, hk2, fun m hm => by rw [hval m hm]; show _ = _ + 0; omega⟩ ?_ ?_⟩
      · clear dg hval hk2 kb g ks2
        rintro s σ' H6 hs ⟨ks2, g, ⟨b7, b8, rfl⟩, kb, dg, hk2, hval⟩
        have ej : (wd : Int) - 1 + (s : Int) * (-1) = ((wd - 1 - s : Nat) : Int) := by omega
        have hst := sgT_succ (m := k) hs
        have hsa := sgT_at (m := k) hs
        have hj : wd - 1 - s < wd := by omega
        obtain ⟨j, ejs⟩ : ∃ j, wd - 1 - s = j := ⟨_, rfl⟩
        rw [ejs] at ej hst hsa hj
        have est : ∀ m, (sumN (s + 1) fun u => putAt (vec row) f wd m k (wd - 1 - u)) = (sumN s fun u => putAt (vec row) f wd m k (wd - 1 - u)) + putAt (vec row) f wd m k j := fun m => by
          show _ + putAt (vec row) f wd m k (wd - 1 - s) = _
          rw [ejs]
        rw [ej]
        have hsg : (sgT wd k s).natAbs = 1 := by rw [hsa]; exact sgA_abs _
        have ht6 := kb _ _ ht4 tD
        have da := d4
        have d6 : DI H6 a ks f := ⟨kb _ _ d4.1 aD, d4.2⟩
        have hbit : 2 ^ j < 2 ^ wd := Nat.pow_lt_pow_right (by decide) hj
        refine ⟨_, rfl, j, rfl, rfl, by omega, ?_⟩
        refine ⟨_, rfl, _, rfl, k, 2 ^ j, rfl, rfl, _, rfl, ?_⟩
        rw [and_ne]
        refine ite2 (fun c => ?_) (fun c => ?_)
        · refine ⟨_, rfl, _, rfl, ?_⟩
          rw [if_pos c] at hst
          refine ⟨ks2, g, ⟨_, _, by rw [hst]; rfl⟩, kb, dg, hk2, fun m hm => ?_⟩
          have e0 : putAt (vec row) f wd m k j = 0 := if_neg (fun z => by rw [c] at z; cases z.1)
          rw [hval m hm, est, e0]
          omega
        · rw [if_neg c] at hst
          have c' : k.testBit j = false := by
            cases h : k.testBit j
            · rfl
            · exact absurd h c
          have non : vec row j = 0 ∨ f k = 0 → ∀ m, putAt (vec row) f wd m k j = 0 := fun h m => by
            unfold putAt
            split
            · rcases h with h | h <;> rw [h] <;> simp
            · rfl
          have skip : vec row j = 0 ∨ f k = 0 → ∃ ks2 g, (∃ b7 b8, [some (V.ref p), some (V.int (wd : Int)), some (V.ref a), some (V.ref t), some (V.ref D), some (V.int (k : Int)), some (V.int (sgT wd k s)), some (V.int (j : Int)), some (V.int ((2 ^ j : Nat) : Int))] = [some (.ref p), some (.int (wd : Int)), some (.ref a), some (.ref t), some (.ref D), some (.int (k : Int)), some (.int (sgT wd k (s + 1))), b7, b8]) ∧ Kb D H4 H6 ∧ DI H6 D ks2 g ∧ (∀ m ∈ ks2, m < 2 ^ wd) ∧ ∀ m, m < 2 ^ wd → (if m ∈ ks2 then g m else 0) = ((ks.take n).map fun k => sumN wd (putAt (vec row) f wd m k)).sum + sumN (s + 1) fun u => putAt (vec row) f wd m k (wd - 1 - u) := fun h =>
            ⟨ks2, g, ⟨_, _, by rw [hst]⟩, kb, dg, hk2, fun m hm => by rw [hval m hm, est, non h]; omega⟩
          refine ⟨_, rfl, _, rfl, a, _, rfl, d6.get hkm, rfl, _, rfl, ?_⟩
          refine ite2 (fun c1 => ?_) (fun c1 => ?_)
          · refine ⟨_, rfl, _, rfl, _, _, _, _, rfl, rfl, SqL.of ht6, at_of (j := j) rfl (getD_map (by omega)), rfl, _, rfl, ?_⟩
            refine ite2 (fun c2 => ?_) (fun c2 => ?_)
            · have vx : vec row j = row.getD j 0 := rfl
              have hrb : (row.getD j 0).natAbs ≤ Bd := by
                rw [List.getD_eq_getElem?_getD, List.getElem?_eq_getElem (by omega : j < row.length)]
                exact hB row (List.mem_of_getElem? e2) _ (List.getElem_mem _)
              obtain ⟨H7, p1, p2, p3⟩ := dg.put (kl ks2 dg.2 hk2) (k := k ||| 2 ^ j) (v := (if k ||| 2 ^ j ∈ ks2 then g (k ||| 2 ^ j) else 0) + sgT wd k s * row.getD j 0 * f k)
              refine ⟨_, rfl, D, rfl, dg.isD, _, rfl, _, rfl, k, 2 ^ j, rfl, rfl, ?_⟩
              obtain ⟨o, ho, e0⟩ := dg.get0 (k := k ||| 2 ^ j) (Q := fun v _ => v = .int (if k ||| 2 ^ j ∈ ks2 then g (k ||| 2 ^ j) else 0)) rfl
              refine ⟨o, ho, ?_⟩
              rw [e0]
              refine ⟨_, rfl, _, rfl, _, rfl, _, _, _, _, rfl, rfl, SqL.of ht6, at_of (j := j) rfl (getD_map (by omega)), _, _, rfl, rfl, cm (by omega), ?_⟩
              refine ⟨_, rfl, _, rfl, a, _, rfl, d6.get hkm, _, _, rfl, rfl, ?_, ?_⟩
              · refine wide_mul (a := 100) (b := bb) ?_ hkb (by decide) hb0 (by omega)
                rw [Int.natAbs_mul, hsg, Nat.one_mul]
                exact Nat.lt_of_le_of_lt hrb hB1
              refine ⟨_, _, rfl, rfl, _, rfl, _, rfl, _, rfl, k, 2 ^ j, rfl, rfl, D, H7, rfl, p1, ?_⟩
              refine ⟨_, _, ⟨_, _, by rw [hst]; rfl⟩, by rw [p2]; exact kb.trans Kb.at, p3, fun m hm => ?_, fun m hm => ?_⟩
              · by_cases e : k ||| 2 ^ j ∈ ks2
                · rw [if_pos e] at hm
                  exact hk2 m hm
                · rw [if_neg e] at hm
                  rcases List.mem_append.mp hm with hm | hm
                  · exact hk2 m hm
                  · rw [List.mem_singleton.mp hm]
                    exact Nat.or_lt_two_pow hk1 hbit
              · have h0 := hval m hm
                rw [est]
                by_cases e : m = k ||| 2 ^ j
                · have ep : putAt (vec row) f wd m k j = sgT wd k s * row.getD j 0 * f k := by
                    unfold putAt
                    rw [if_pos ⟨c', e⟩, hsa]
                    rfl
                  have em : m ∈ (if k ||| 2 ^ j ∈ ks2 then ks2 else ks2 ++ [k ||| 2 ^ j]) := by
                    split
                    · rename_i h
                      rw [e]
                      exact h
                    · rw [e]
                      exact List.mem_append_right _ (List.mem_singleton.mpr rfl)
                  rw [if_pos em, if_pos e, ep, ← e, h0]
                  omega
                · have ep : putAt (vec row) f wd m k j = 0 := if_neg (fun z => e z.2)
                  have em : (m ∈ (if k ||| 2 ^ j ∈ ks2 then ks2 else ks2 ++ [k ||| 2 ^ j])) ↔ m ∈ ks2 := by
                    split
                    · exact Iff.rfl
                    · rw [List.mem_append, List.mem_singleton]
                      exact ⟨fun h => h.resolve_right e, .inl⟩
                  rw [if_neg e, ep, ← Int.add_assoc, ← h0, Int.add_zero]
                  by_cases e3 : m ∈ ks2
                  · rw [if_pos (em.mpr e3), if_pos e3]
                  · rw [if_neg (fun z => e3 (em.mp z)), if_neg e3]
            · exact skip (.inl (Decidable.not_not.mp (eq_zero c2)))
          · exact iteF' (c := false) rfl <| skip (.inr (Decidable.not_not.mp (eq_zero c1)))
      · rintro σ' H6 ⟨ks2, g, ⟨b7, b8, rfl⟩, kb, dg, hk2, hval⟩
        refine ⟨ks2, g, ⟨_, _, _, _, rfl⟩, kb, dg, hk2, fun m hm => ?_⟩
        rw [hval m hm, sumN_rev (putAt (vec row) f wd m k), etk, List.map_append, List.sum_append]
        simp only [List.map_cons, List.map_nil, List.sum_cons, List.sum_nil]
        omega
    · rintro σ' H5 ⟨ks2, g, ⟨b5, b6, b7, b8, rfl⟩, kb, dg, hk2, hval⟩
      have e1 : (natsV ks).length = ks.length := natsV_len ks
      rw [e1, List.take_length] at hval
      refine ⟨_, rfl, D, ks2, g, ⟨_, _, _, _, _, _, rfl⟩, sameK kb, dg, fun m => ?_⟩
      have eM : (M.take (i + 1)).map vec = (M.take i).map vec ++ [vec row] := by
        rw [List.take_succ, e2, List.map_append]
        rfl
      have all : ∀ m, m < 2 ^ wd → (if m ∈ ks2 then g m else 0) = Dt ((M.take (i + 1)).map vec) (bitsOf wd m) := fun m hm => by
        rw [hval m hm, eM, dt_snoc]
        exact put_all (vec row) (Dt ((M.take i).map vec)) f wd m d2.2 (fun k => ⟨fun h => ((m2 k).1 h).2, (m2 k).2⟩) hm
      refine ⟨fun hm => ⟨hk2 m hm, ?_⟩, fun hm hlt => ?_⟩
      · have := all m (hk2 m hm)
        rwa [if_pos hm] at this
      · have := all m hlt
        rw [if_neg hm] at this
        exact this.symm
  · rintro σ' H2 ⟨a, ks, f, ⟨b3, b4, b5, b6, b7, b8, rfl⟩, s2, d2, m2⟩
    rw [List.take_of_length_le (Nat.le_of_eq h2.1.symm)] at m2
    exact ⟨_, rfl, q a ks f H2 s2 d2 m2⟩
end
end TL
namespace TL
/-! ### the choices of columns, by masks -/
def cmb : Nat → Nat → Nat → List (List Nat)
  | _, _, 0 => [[]]
  | 0, _, _ + 1 => []
  | k + 1, lo, n + 1 => (cmb k (lo + 1) n).map (lo :: ·) ++ cmb k (lo + 1) (n + 1)
theorem chs_cmb' : ∀ w, w < 7 → ∀ n, n < 7 → ∀ i, i < (cmb w 0 n).length + 1 → chs w n i = (cmb w 0 n)[i]? := by decide +kernel
theorem chs_cmb {w n : Nat} (hw : w ≤ 6) (hn : n ≤ 6) : ∀ i, chs w n i = (cmb w 0 n)[i]? := chs_of (chs_cmb' w (by omega) n (by omega))
theorem cmb_mask' : ∀ w, w < 7 → ∀ n, n < 7 → ((cmb w 0 n).all fun cs => decide (cs.length = n) && (List.range (2 ^ w)).any fun m => decide (bitsOf w m = cs)) = true := by decide +kernel
theorem mask_cmb' : ∀ w, w < 7 → ((List.range (2 ^ w)).all fun m => (cmb w 0 (bitsOf w m).length).contains (bitsOf w m)) = true := by decide +kernel
theorem cmb_mask {w n : Nat} (hw : w ≤ 6) (hn : n ≤ 6) {cs : List Nat} (h : cs ∈ cmb w 0 n) : cs.length = n ∧ ∃ m, m < 2 ^ w ∧ bitsOf w m = cs := by
  have := List.all_eq_true.mp (cmb_mask' w (by omega) n (by omega)) cs h
  rw [Bool.and_eq_true] at this
  obtain ⟨m, h1, h2⟩ := List.any_eq_true.mp this.2
  exact ⟨of_decide_eq_true this.1, m, List.mem_range.mp h1, of_decide_eq_true h2⟩
theorem mask_cmb {w m : Nat} (hw : w ≤ 6) (hm : m < 2 ^ w) : bitsOf w m ∈ cmb w 0 (bitsOf w m).length := by
  have := List.all_eq_true.mp (mask_cmb' w (by omega)) m (List.mem_range.mpr hm)
  exact List.contains_iff_mem.mp this
/-- columns that are picked -/
theorem wd_map (c : Nat → Nat) (x : Vec) : ∀ (ds : List Nat) (F : Frm), Wd (fun j => x (c j)) ds (fun es => F (es.map c)) = Wd x (ds.map c) F
  | [], _ => rfl
  | d :: ds, F => by
    show Wd (fun j => x (c j)) ds (fun es => F (c d :: es.map c)) + sgA ds.length * x (c d) * F (ds.map c) = Wd x (ds.map c) (fun es => F (c d :: es)) + sgA (ds.map c).length * x (c d) * F (ds.map c)
    rw [wd_map c x ds (fun es => F (c d :: es)), List.length_map]
theorem df_map (c : Nat → Nat) : ∀ (A : List Vec) (F : Frm) (ds : List Nat), DF (fun es => F (es.map c)) (A.map fun x j => x (c j)) ds = DF F A (ds.map c)
  | [], _, _ => rfl
  | x :: A, F, ds => by
    show DF (fun cs => Wd (fun j => x (c j)) cs (fun es => F (es.map c))) (A.map fun x j => x (c j)) ds = DF (WF F x) A (ds.map c)
    rw [← df_map c A (WF F x) ds]
    congr 1
    funext cs
    exact wd_map c x cs F
theorem dt_map (c : Nat → Nat) (A : List Vec) (ds : List Nat) : Dt (A.map fun x j => x (c j)) ds = Dt A (ds.map c) := by
  have e : (fun es : List Nat => d0 (es.map c)) = d0 := funext fun es => by cases es <;> rfl
  have := df_map c A d0 ds
  rw [e] at this
  exact this
theorem pick_range (cs : List Nat) : (List.range cs.length).map (fun j => cs.getD j 0) = cs := by
  refine List.ext_getElem (by rw [List.length_map, List.length_range]) fun i a b => ?_
  rw [List.getElem_map, List.getElem_range, List.getD_eq_getElem?_getD, List.getElem?_eq_getElem b]
  rfl
def pickM (M : List (List Int)) (cs : List Nat) : List (List Int) := M.map fun row => cs.map fun c => row.getD c 0
theorem dt_pick (M : List (List Int)) (cs : List Nat) : Dt ((pickM M cs).map vec) (List.range cs.length) = Dt (M.map vec) cs := by
  have h1 := dt_map (fun j => cs.getD j 0) (M.map vec) (List.range cs.length)
  rw [pick_range] at h1
  rw [← h1]
  refine df_congr (P := fun c => c < cs.length) _ _ d0 d0 (by unfold pickM; simp) (fun t c ht hp => ?_) (fun _ _ => rfl) _ (fun c h => List.mem_range.mp h)
  unfold pickM at ht ⊢
  rw [List.length_map, List.length_map] at ht
  unfold rw_
  rw [List.getD_eq_getElem?_getD, List.getD_eq_getElem?_getD, List.getElem?_map, List.getElem?_map, List.getElem?_map, List.getElem?_map, List.getElem?_eq_getElem ht]
  show vec (cs.map fun c => M[t].getD c 0) c = vec M[t] (cs.getD c 0)
  unfold vec
  rw [List.getD_eq_getElem?_getD (l := cs.map _), List.getElem?_map, List.getD_eq_getElem?_getD (l := cs), List.getElem?_eq_getElem hp]
  rfl
end TL
namespace TL
open PySem L2

/-! ### steps of a reading -/
local macro_rules | `(tactic| walk_at "hp") => `(tactic| first | assumption | exact upd_same | (refine (upd_ne (by first | assumption | (exact Ne.symm (by assumption)))).trans ?_; walk_at "hp"))
local macro_rules | `(tactic| walk_at "ok") => `(tactic| first | (exact Or.inr ⟨by decide, by decide⟩) | (exact ⟨by decide, by decide⟩) | (exact ⟨by decide, by decide, by decide⟩) | (show _ ≠ _; omega) | (show _ ≠ _; decide) | (exact Or.inl ⟨by omega, by omega⟩) | decide)
local macro_rules | `(tactic| walk_at "sq") => `(tactic| first | assumption | exact SqL.of (by walk_at "hp") | exact SqT.of (by walk_at "hp"))
local macro_rules | `(tactic| walk_at "ty") => `(tactic| first | refine ⟨_, _, Value.type "int", Value.type "list", false, rfl, ClsV.ty _, TyX.base (TyOf.int _), kt_int_list, ?_⟩ | refine ⟨_, _, Value.type "bool", Value.type "list", false, rfl, ClsV.ty _, TyX.base (TyOf.bl _), kt_bool_list, ?_⟩ | refine ⟨_, _, Value.type "str", Value.type "list", false, rfl, ClsV.ty _, TyX.base (TyOf.str _), kt_str_list, ?_⟩ | refine ⟨_, _, Value.type "NoneType", Value.type "list", false, rfl, ClsV.ty _, TyX.base TyOf.non, kt_NoneType_list, ?_⟩ | refine ⟨_, _, Value.type "list", Value.type "list", true, rfl, ClsV.ty _, tyx_L (by walk_at "sq"), kt_list_list, ?_⟩ | refine ⟨_, _, Value.type "tuple", Value.type "list", false, rfl, ClsV.ty _, tyx_T (by walk_at "sq"), kt_tuple_list, ?_⟩ | refine ⟨_, _, Value.type "int", Value.type "tuple", false, rfl, ClsV.ty _, TyX.base (TyOf.int _), kt_int_tuple, ?_⟩ | refine ⟨_, _, Value.type "bool", Value.type "tuple", false, rfl, ClsV.ty _, TyX.base (TyOf.bl _), kt_bool_tuple, ?_⟩ | refine ⟨_, _, Value.type "str", Value.type "tuple", false, rfl, ClsV.ty _, TyX.base (TyOf.str _), kt_str_tuple, ?_⟩ | refine ⟨_, _, Value.type "NoneType", Value.type "tuple", false, rfl, ClsV.ty _, TyX.base TyOf.non, kt_NoneType_tuple, ?_⟩ | refine ⟨_, _, Value.type "list", Value.type "tuple", false, rfl, ClsV.ty _, tyx_L (by walk_at "sq"), kt_list_tuple, ?_⟩ | refine ⟨_, _, Value.type "tuple", Value.type "tuple", true, rfl, ClsV.ty _, tyx_T (by walk_at "sq"), kt_tuple_tuple, ?_⟩ | refine ⟨_, _, Value.type "int", Value.type "bool", false, rfl, ClsV.ty _, TyX.base (TyOf.int _), kt_int_bool, ?_⟩ | refine ⟨_, _, Value.type "bool", Value.type "bool", true, rfl, ClsV.ty _, TyX.base (TyOf.bl _), kt_bool_bool, ?_⟩ | refine ⟨_, _, Value.type "str", Value.type "bool", false, rfl, ClsV.ty _, TyX.base (TyOf.str _), kt_str_bool, ?_⟩ | refine ⟨_, _, Value.type "NoneType", Value.type "bool", false, rfl, ClsV.ty _, TyX.base TyOf.non, kt_NoneType_bool, ?_⟩ | refine ⟨_, _, Value.type "list", Value.type "bool", false, rfl, ClsV.ty _, tyx_L (by walk_at "sq"), kt_list_bool, ?_⟩ | refine ⟨_, _, Value.type "tuple", Value.type "bool", false, rfl, ClsV.ty _, tyx_T (by walk_at "sq"), kt_tuple_bool, ?_⟩ | refine ⟨_, _, Value.type "int", Value.type "int", true, rfl, ClsV.ty _, TyX.base (TyOf.int _), kt_int_int, ?_⟩ | refine ⟨_, _, Value.type "bool", Value.type "int", true, rfl, ClsV.ty _, TyX.base (TyOf.bl _), kt_bool_int, ?_⟩ | refine ⟨_, _, Value.type "str", Value.type "int", false, rfl, ClsV.ty _, TyX.base (TyOf.str _), kt_str_int, ?_⟩ | refine ⟨_, _, Value.type "NoneType", Value.type "int", false, rfl, ClsV.ty _, TyX.base TyOf.non, kt_NoneType_int, ?_⟩ | refine ⟨_, _, Value.type "list", Value.type "int", false, rfl, ClsV.ty _, tyx_L (by walk_at "sq"), kt_list_int, ?_⟩ | refine ⟨_, _, Value.type "tuple", Value.type "int", false, rfl, ClsV.ty _, tyx_T (by walk_at "sq"), kt_tuple_int, ?_⟩ | refine ⟨_, _, Value.type "int", Value.type "str", false, rfl, ClsV.ty _, TyX.base (TyOf.int _), kt_int_str, ?_⟩ | refine ⟨_, _, Value.type "bool", Value.type "str", false, rfl, ClsV.ty _, TyX.base (TyOf.bl _), kt_bool_str, ?_⟩ | refine ⟨_, _, Value.type "str", Value.type "str", true, rfl, ClsV.ty _, TyX.base (TyOf.str _), kt_str_str, ?_⟩ | refine ⟨_, _, Value.type "NoneType", Value.type "str", false, rfl, ClsV.ty _, TyX.base TyOf.non, kt_NoneType_str, ?_⟩ | refine ⟨_, _, Value.type "list", Value.type "str", false, rfl, ClsV.ty _, tyx_L (by walk_at "sq"), kt_list_str, ?_⟩ | refine ⟨_, _, Value.type "tuple", Value.type "str", false, rfl, ClsV.ty _, tyx_T (by walk_at "sq"), kt_tuple_str, ?_⟩)
local macro_rules | `(tactic| walk_at "go1") => `(tactic| first
  | (refine ⟨_, rfl, ?_⟩)
  | (refine ⟨_, _, rfl, rfl, ?_⟩)
  | (refine ⟨_, _, _, _, rfl, rfl, SqL.of (by walk_at "hp"), rfl, ?_⟩)
  | (refine Or.inl ⟨_, rfl, ?_⟩)
  | (refine ⟨rfl, ?_⟩)
  | (refine ⟨_, _, rfl, .inl (SqL.of (by walk_at "hp")), ?_⟩)
  | (refine ⟨_, _, rfl, Or.inl (by assumption), ?_⟩)
  | (refine ⟨_, _, rfl, Or.inr (by assumption), ?_⟩)
  | (refine ⟨(by walk_at "ok"), ?_⟩)
  | (refine ⟨_, _, _, _, rfl, rfl, (by walk_at "hp"), rfl, ?_⟩))
local macro_rules | `(tactic| walk_at "go") => `(tactic| repeat (walk_at "go1"))
local macro_rules | `(tactic| walk_at "gt") => `(tactic| repeat (first | walk_at "go1" | walk_at "ty"))

section
variable {P : Program} {w : World} {K : PySem.W.Frag} {mg : Str → Option Value} {base : Heap}
-- [0=_law_lot_here] [0=_law_lot_here, 1=_law_wide, 2=_law_found*, 3=_law_mask]
theorem cast_pred (n : Nat) : ((2 ^ n : Nat) : Int) - 1 = ((2 ^ n - 1 : Nat) : Int) := by
  have : 0 < 2 ^ n := Nat.pow_pos (by decide)
  omega
def MB (Bd bb n : Nat) (M : List (List Int)) : Prop := 0 < Bd ∧ Bd < 2 ^ 100 ∧ (∀ row ∈ M, ∀ x ∈ row, x.natAbs ≤ Bd) ∧ fb Bd (n + 1) < 2 ^ bb ∧ 0 < bb ∧ bb < 9000
def spLDet : Sp := fun vs H Q _ => ∃ (p : Addr) (M : List (List Int)) (Bd bb : Nat), vs = [.ref p] ∧ Mat H p M ∧ RowsW M.length M ∧ M.length ≤ 10 ∧ MB Bd bb M.length M ∧ ∀ H', Same H H' → Q (.int (Dt (M.map vec) (List.range M.length))) H'
theorem ok_ldet (T : Tx K mg) : FnOk P w K mg base CX0 2 T.f_l_determinant T.d_l_determinant ["_law_lot_here"] spLDet := by
  have G_l_minors := ok_minors (P := P) (w := w) (base := base) T
  refine T.F_l_determinant.ok sc_l_determinant (fun vs H Q E h => ?_) (fun cdv A outer s H vs Q E hr h => ?_)
  · obtain ⟨p, M, Bd, bb, rfl, _⟩ := h
    rfl
  obtain ⟨p, M, Bd, bb, rfl, hM, hw, hl, ⟨b1, b2, b3, b4, b5, b6⟩, q⟩ := h
  have nd := sc_l_determinant.nd
  obtain ⟨rs, h1, h2⟩ := hM.ex
  refine ⟨_, (pss_one (ps_ret (pe_dget2 (u1 hr) (pe_call G_l_minors hr (by rfl) T.m_l_minors T.F_l_minors.kp T.b_l_minors .nil pass0 (pa_cons (pv 0) (pa_cons (pe_callB (show CallR _ _ (rLenSq K) from call_len_seq) (by rfl) T.z_len (by decide +kernel) (pa_cons (pv 0) pa_nil)) pa_nil))) (pe_op op_sub (pe_op op_shl1 pe_int (pe_callB (show CallR _ _ (rLenSq K) from call_len_seq) (by rfl) T.z_len (by decide +kernel) (pa_cons (pv 0) pa_nil))) pe_int) pe_int ⟨rfl, rfl, rfl, rfl⟩))), ?_⟩
  refine ⟨_, rfl, _, rfl, p, rs, rfl, .inl (SqL.of h1), p, M, M.length, Bd, bb, by rw [h2.1]; rfl, hM, hw, hl, hl, b1, b2, b3, b4, b5, b6, fun a ks f H1 s1 d1 m1 => ?_⟩
  refine ⟨a, rfl, d1.isD, ?_⟩
  refine ⟨_, rfl, p, rs, rfl, .inl (SqL.of (s1 _ _ h1)), M.length, rfl, by rw [h2.1], by omega, ?_⟩
  refine ⟨_, _, rfl, rfl, ?_⟩
  dsimp only
  rw [cast_pred]
  obtain ⟨o, ho, e0⟩ := d1.get0 (k := 2 ^ M.length - 1) (Q := fun v _ => v = .int (if 2 ^ M.length - 1 ∈ ks then f (2 ^ M.length - 1) else 0)) rfl
  refine ⟨o, ho, ?_⟩
  rw [e0]
  have := q H1 s1
  have e1 : (if 2 ^ M.length - 1 ∈ ks then f (2 ^ M.length - 1) else 0) = Dt (M.map vec) (List.range M.length) := by
    rw [← bits_full]
    by_cases e : 2 ^ M.length - 1 ∈ ks
    · rw [if_pos e]
      exact ((m1 _).1 e).2
    · rw [if_neg e]
      exact ((m1 _).2 e (by have : 0 < 2 ^ M.length := Nat.pow_pos (by decide); omega)).symm
  rw [e1]
  exact this
/-- the greatest divisor of all minors -/
def GcdOf (M : List (List Int)) (wd : Nat) (g : Nat) : Prop := ∀ d : Nat, d ∣ g ↔ ∀ m, m < 2 ^ wd → d ∣ (Dt (M.map vec) (bitsOf wd m)).natAbs
theorem cont_dvd (d : Nat) : ∀ (ns : List Int) (g : Nat), d ∣ ns.foldl (fun g n => Nat.gcd g n.natAbs) g ↔ d ∣ g ∧ ∀ n ∈ ns, d ∣ n.natAbs
  | [], g => by simp
  | n :: ns, g => by
    show d ∣ ns.foldl _ (Nat.gcd g n.natAbs) ↔ _
    rw [cont_dvd d ns, Nat.dvd_gcd_iff]
    simp only [List.mem_cons, forall_eq_or_imp, and_assoc]
def spLCom : Sp := fun vs H Q _ => ∃ (p : Addr) (M : List (List Int)) (wd Bd bb : Nat), vs = [.ref p, .int (wd : Int)] ∧ Mat H p M ∧ RowsW wd M ∧ M.length ≤ 10 ∧ wd ≤ 10 ∧ MB Bd bb M.length M ∧ ∀ g H', Same H H' → GcdOf M wd g → Q (.int ((g : Nat) : Int)) H'
theorem ok_lcom (T : Tx K mg) : FnOk P w K mg base CX0 3 T.f_l_common T.d_l_common ["_law_lot_here", "_law_wide"] spLCom := by
  have G_l_minors := ok_minors (P := P) (w := w) (base := base) T
  have G_l_content := ok_content (P := P) (w := w) (base := base) T
  refine T.F_l_common.ok sc_l_common (fun vs H Q E h => ?_) (fun cdv A outer s H vs Q E hr h => ?_)
  · obtain ⟨p, M, wd, Bd, bb, rfl, _⟩ := h
    rfl
  obtain ⟨p, M, wd, Bd, bb, rfl, hM, hw, hl, hwd, ⟨b1, b2, b3, b4, b5, b6⟩, q⟩ := h
  have nd := sc_l_common.nd
  refine ⟨_, (pss_cons (ps_set (i := 2) nd rfl (Or.inr rfl) (pe_call G_l_minors (hr.mono (by decide)) (by rfl) T.m_l_minors T.F_l_minors.kp T.b_l_minors .nil pass0 (pa_cons (pv 0) (pa_cons (pv 1) pa_nil))))
    (pss_one (ps_ret (pe_call G_l_content hr (by rfl) T.m_l_content T.F_l_content.kp T.b_l_content .nil pass0 (pa_cons (pe_lc (own := [("_law_mask", 3)]) (g := (gName 3)) rfl nd (show PI _ _ _ (iList K _) from pi_list (pe_callTy (call_list_dK rfl) (by rfl) T.z_list (by decide +kernel) (pa_cons (pv 2) pa_nil))) (blkOk_by (own := [("_law_mask", 3)]) (N := N_l_common) (sc := defScope s_l_common) (by decide +kernel)) (fun _ _ _ _ _ => by exact (pg_name (i := 3) nd rfl (Or.inl rfl))) (fun _ _ _ _ _ => by exact pts_nil) (fun _ _ _ _ _ => by exact (pe_dget (u1 hr) (pv 2) (pv 3) (fun _ _ => rfl)))) pa_nil))))), ?_⟩
  refine ⟨_, rfl, _, rfl, p, M, wd, Bd, bb, rfl, hM, hw, hl, hwd, b1, b2, b3, b4, b5, b6, fun a ks f H1 s1 d1 m1 => ?_⟩
  refine ⟨_, rfl, a, _, rfl, d1.1, fun L hL => ?_⟩
  have eL : ((ks.map fun k => (nK k, V.int (f k))).map fun kv => kV kv.1) = natsV ks := by
    rw [List.map_map]
    rfl
  rw [eL]
  have s2 : Same H1 (upd H1 L (.lst (natsV ks))) := Same.new hL
  have hL2 : (upd H1 L (.lst (natsV ks))) L = some (.lst (natsV ks)) := upd_same
  have kl : ks.length < 1000000 := by
    have a1 := nodup_le d1.2 (fun m hm => ((m1 m).1 hm).1)
    have a2 : 2 ^ wd ≤ 2 ^ 10 := Nat.pow_le_pow_right (by decide) hwd
    omega
  have kl2 : ks.length ≤ 1024 := by
    have a1 := nodup_le d1.2 (fun m hm => ((m1 m).1 hm).1)
    have a2 : 2 ^ wd ≤ 2 ^ 10 := Nat.pow_le_pow_right (by decide) hwd
    omega
  have d2 := d1.same s2
  have s12 := s1.trans s2
  generalize upd H1 L (.lst (natsV ks)) = H2 at *
  refine ⟨L, rfl, ⟨_, SqL.of hL2⟩, fun D hD => ?_⟩
  refine lcm (walk_list (K := K) (a := L) (xs := natsV ks)) ((ks.map f).map V.int) (by rw [natsV_len, List.length_map, List.length_map]) (by rw [natsV_len]; omega) hD (fun H' s => SqL.of (s _ _ hL2)) ?_ fun H3 s3 h3 => ?_
  · rintro n y x H3 H4 hn hy s3 ⟨rfl, hx⟩ k hk
    obtain ⟨m, hm, rfl⟩ := natsV_at hx
    rw [List.getElem?_map, List.getElem?_map, hm] at hy
    obtain rfl := Option.some.inj hy
    exact ⟨rfl, _, rfl, _, rfl, a, _, rfl, (d2.same s3).get (List.mem_of_getElem? hm), hk _ (Same.refl _)⟩
  · refine ⟨D, ks.map f, rfl, SqL.of h3, fun H4 s4 => ?_⟩
    refine q _ H4 ((s12.trans s3).trans s4) fun d => ?_
    unfold contG
    rw [cont_dvd]
    refine ⟨fun ⟨_, h⟩ m hm => ?_, fun h => ⟨Nat.dvd_zero d, fun n hn => ?_⟩⟩
    · by_cases e : m ∈ ks
      · rw [← ((m1 m).1 e).2]
        exact h _ (List.mem_map.mpr ⟨m, e, rfl⟩)
      · rw [(m1 m).2 e hm]
        exact Nat.dvd_zero d
    · obtain ⟨m, hm, rfl⟩ := List.mem_map.mp hn
      have := (m1 m).1 hm
      rw [this.2]
      exact h m this.1
theorem detV_dt {M : List (List Int)} {n : Nat} (hw : RowsW n M) (hl : M.length = n) : detV M = Dt (M.map vec) (List.range n) := by
  unfold detV
  by_cases e : clrRank M = M.length
  · rw [if_pos e]
    exact clr_det_full hw hl e
  · rw [if_neg e]
    by_cases h : Dt (M.map vec) (List.range n) = 0
    · exact h.symm
    · exfalso
      have h1 := rank_ge hw (X := M.map vec) (fun x hx => by
        obtain ⟨row, hr, rfl⟩ := List.mem_map.mp hx
        exact ⟨row, hr, rfl⟩) h
      rw [List.length_map] at h1
      obtain ⟨B, C, k1, k2, _⟩ := clr_struct hw
      omega
/-- the program's common minor is the law's -/
theorem com_gcd {M : List (List Int)} {wd g : Nat} (hw : RowsW wd M) (h6 : wd ≤ 6) (hl : M.length ≤ 6) (hg : GcdOf M wd g) : comG M (cmb wd 0 M.length) = (g : Int) := by
  have hd : ∀ (d : Nat) (L : List (List Nat)) (g0 : Int), d ∣ (L.foldl (fun g cs => ((Nat.gcd g.natAbs (detV (subC M cs)).natAbs : Nat) : Int)) g0).natAbs ↔ d ∣ g0.natAbs ∧ ∀ cs ∈ L, d ∣ (detV (subC M cs)).natAbs := fun d L => by
    induction L with
    | nil => intro g0; simp
    | cons cs L ih =>
      intro g0
      show d ∣ (L.foldl _ ((Nat.gcd g0.natAbs (detV (subC M cs)).natAbs : Nat) : Int)).natAbs ↔ _
      rw [ih, Int.natAbs_natCast, Nat.dvd_gcd_iff]
      simp only [List.mem_cons, forall_eq_or_imp, and_assoc]
  have h0 : 0 ≤ comG M (cmb wd 0 M.length) := by
    unfold comG
    generalize cmb wd 0 M.length = L
    have : ∀ g0 : Int, 0 ≤ g0 → 0 ≤ L.foldl (fun g cs => ((Nat.gcd g.natAbs (detV (subC M cs)).natAbs : Nat) : Int)) g0 := by
      induction L with
      | nil => exact fun g0 h => h
      | cons cs L ih => exact fun g0 h => ih _ (Int.natCast_nonneg _)
    exact this 0 (Int.le_refl _)
  have key : ∀ d : Nat, d ∣ (comG M (cmb wd 0 M.length)).natAbs ↔ d ∣ g := fun d => by
    unfold comG
    rw [hd, hg d]
    have dv : ∀ cs ∈ cmb wd 0 M.length, detV (subC M cs) = Dt (M.map vec) cs := fun cs hcs => by
      obtain ⟨e1, m, e2, e3⟩ := cmb_mask h6 hl hcs
      have hr : RowsW M.length (subC M cs) := fun row hr => by
        obtain ⟨a, _, rfl⟩ := List.mem_map.mp hr
        rw [List.length_map, e1]
      have hsl : (subC M cs).length = M.length := List.length_map ..
      have := detV_dt hr hsl
      rw [this]
      have := dt_pick M cs
      rw [e1] at this
      exact this
    refine ⟨fun ⟨_, h⟩ m hm => ?_, fun h => ⟨Nat.dvd_zero d, fun cs hcs => ?_⟩⟩
    · by_cases e : (bitsOf wd m).length = M.length
      · have hc := mask_cmb h6 hm
        rw [e] at hc
        rw [← dv _ hc]
        exact h _ hc
      · rw [dt_len _ _ (by rw [List.length_map]; exact e)]
        exact Nat.dvd_zero d
    · rw [dv cs hcs]
      obtain ⟨e1, m, e2, e3⟩ := cmb_mask h6 hl hcs
      rw [← e3]
      exact h m e2
  have e : (comG M (cmb wd 0 M.length)).natAbs = g := Nat.dvd_antisymm ((key _).mp (Nat.dvd_refl _)) ((key _).mpr (Nat.dvd_refl _))
  omega
end
end TL
namespace TL
/-! ### staircases of whole vectors: there is one for each lattice -/
/-- r's places at the leads of rs are reduced -/
def Red (r : Nat → Int) (rs : List (Nat → Int)) : Prop := ∀ s ∈ rs, ∀ m, (∀ j, j < m → s j = 0) → s m ≠ 0 → 0 ≤ r m ∧ r m < s m
/-- a staircase whose first lead is b or more -/
def Stc : Nat → List (Nat → Int) → Prop
  | _, [] => True
  | b, r :: rs => ∃ l, b ≤ l ∧ (∀ j, j < l → r j = 0) ∧ 0 < r l ∧ Stc (l + 1) rs ∧ Red r rs
/-- the whole sums of the rows -/
def Spn : List (Nat → Int) → (Nat → Int) → Prop
  | [], v => ∀ j, v j = 0
  | r :: rs, v => ∃ c : Int, Spn rs (fun j => v j - c * r j)
theorem Spn.zero : ∀ (S : List (Nat → Int)), Spn S (fun _ => 0)
  | [] => fun _ => rfl
  | r :: rs => ⟨0, by
    have := Spn.zero rs
    simpa using this⟩
theorem Spn.congr {S : List (Nat → Int)} {u v : Nat → Int} (h : ∀ j, u j = v j) (k : Spn S u) : Spn S v := by
  have : u = v := funext h
  rw [← this]
  exact k
theorem Spn.add : ∀ {S : List (Nat → Int)} {u v : Nat → Int}, Spn S u → Spn S v → Spn S (fun j => u j + v j)
  | [], u, v, h, k => fun j => by
    have := h j
    have := k j
    show u j + v j = 0
    omega
  | r :: rs, u, v, ⟨c, h⟩, ⟨d, k⟩ => ⟨c + d, (Spn.add h k).congr fun j => by
    show u j - c * r j + (v j - d * r j) = u j + v j - (c + d) * r j
    rw [Int.add_mul]
    omega⟩
theorem Spn.mul : ∀ {S : List (Nat → Int)} {u : Nat → Int} (k : Int), Spn S u → Spn S (fun j => k * u j)
  | [], u, k, h => fun j => by
    show k * u j = 0
    rw [h j, Int.mul_zero]
  | r :: rs, u, k, ⟨c, h⟩ => ⟨k * c, (Spn.mul k h).congr fun j => by rw [Int.mul_sub, Int.mul_assoc]⟩
theorem Spn.head (r : Nat → Int) (rs : List (Nat → Int)) : Spn (r :: rs) r := ⟨1, (Spn.zero rs).congr fun j => by omega⟩
theorem Spn.tail {r : Nat → Int} {rs : List (Nat → Int)} {v : Nat → Int} (h : Spn rs v) : Spn (r :: rs) v := ⟨0, h.congr fun j => by omega⟩
theorem Spn.mem {r : Nat → Int} : ∀ {S : List (Nat → Int)}, r ∈ S → Spn S r
  | s :: S, h => by
    rcases List.mem_cons.mp h with rfl | h
    · exact Spn.head _ _
    · exact (Spn.mem h).tail
/-- a span lies in another when its rows do -/
theorem Spn.sub : ∀ {S T : List (Nat → Int)}, (∀ r ∈ S, Spn T r) → ∀ {v : Nat → Int}, Spn S v → Spn T v
  | [], T, _, v, h => (Spn.zero T).congr fun j => (h j).symm
  | r :: rs, T, g, v, ⟨c, h⟩ => ((Spn.sub (fun x hx => g x (List.mem_cons_of_mem _ hx)) h).add ((g r (List.mem_cons_self ..)).mul c)).congr fun j => by omega
theorem Spn.below : ∀ {S : List (Nat → Int)} {b : Nat} {v : Nat → Int}, Stc b S → Spn S v → ∀ j, j < b → v j = 0
  | [], b, v, _, h, j, _ => h j
  | r :: rs, b, v, ⟨l, hl, h0, hp, hs, _⟩, ⟨c, h⟩, j, hj => by
    have h1 := Spn.below hs h j (by omega)
    have h2 := h0 j (by omega)
    rw [h2, Int.mul_zero] at h1
    omega
theorem Stc.le {b c : Nat} {S : List (Nat → Int)} (h : Stc b S) (hc : c ≤ b) : Stc c S := by
  cases S with
  | nil => trivial
  | cons r rs =>
    obtain ⟨l, hl, k⟩ := h
    exact ⟨l, by omega, k⟩
/-- what is small at all leads is nothing -/
theorem Spn.small : ∀ {S : List (Nat → Int)} {b : Nat} {d : Nat → Int}, Stc b S → Spn S d → (∀ s ∈ S, ∀ m, (∀ j, j < m → s j = 0) → s m ≠ 0 → (d m).natAbs < (s m).natAbs) → ∀ j, d j = 0
  | [], b, d, _, h, _, j => h j
  | r :: rs, b, d, ⟨l, hl, h0, hp, hs, _⟩, ⟨c, h⟩, g, j => by
    have h1 := Spn.below hs h l (by omega)
    have h2 := g r (List.mem_cons_self ..) l h0 (by omega)
    have hc : c = 0 := by
      rcases Int.lt_trichotomy c 0 with z | z | z
      · exfalso
        have e : d l = c * r l := by omega
        rw [e, Int.natAbs_mul] at h2
        have : 1 * (r l).natAbs ≤ c.natAbs * (r l).natAbs := Nat.mul_le_mul_right _ (by omega)
        omega
      · exact z
      · exfalso
        have e : d l = c * r l := by omega
        rw [e, Int.natAbs_mul] at h2
        have : 1 * (r l).natAbs ≤ c.natAbs * (r l).natAbs := Nat.mul_le_mul_right _ (by omega)
        omega
    subst hc
    have h3 : Spn rs d := h.congr fun j => by omega
    exact Spn.small hs h3 (fun s hs => g s (List.mem_cons_of_mem _ hs)) j
theorem Spn.drop {r : Nat → Int} {rs : List (Nat → Int)} {l : Nat} {v : Nat → Int} (hs : Stc (l + 1) rs) (hp : 0 < r l) (h : Spn (r :: rs) v) (hv : v l = 0) : Spn rs v := by
  obtain ⟨c, h⟩ := h
  have h1 := Spn.below hs h l (by omega)
  have h2 : c * r l = 0 := by omega
  rcases Int.mul_eq_zero.mp h2 with z | z
  · subst z
    exact h.congr fun j => by omega
  · omega
theorem str_uniq : ∀ {S T : List (Nat → Int)} {b : Nat}, Stc b S → Stc b T → (∀ v, Spn S v ↔ Spn T v) → S = T
  | [], [], _, _, _, _ => rfl
  | [], t :: ts, _, _, ⟨l, _, _, hp, _⟩, e => by
    have := (e t).mpr (Spn.head t ts) l
    omega
  | r :: rs, [], _, ⟨l, _, _, hp, _⟩, _, e => by
    have := (e r).mp (Spn.head r rs) l
    omega
  | r :: rs, t :: ts, b, ⟨l, hl, h0, hp, hs, hr⟩, ⟨m, hm, k0, kp, ks, kr⟩, e => by
    have e1 : m ≤ l := by
      rcases Nat.lt_or_ge l m with z | z
      · have := Spn.below (b := m) (S := t :: ts) ⟨m, Nat.le_refl _, k0, kp, ks, kr⟩ ((e r).mp (Spn.head r rs)) l z
        omega
      · exact z
    have e2 : l ≤ m := by
      rcases Nat.lt_or_ge m l with z | z
      · have := Spn.below (b := l) (S := r :: rs) ⟨l, Nat.le_refl _, h0, hp, hs, hr⟩ ((e t).mpr (Spn.head t ts)) m z
        omega
      · exact z
    obtain rfl : l = m := by omega
    have e3 : ∀ v, Spn rs v ↔ Spn ts v := fun v => ⟨fun h => Spn.drop ks kp ((e v).mp h.tail) (Spn.below hs h l (by omega)), fun h => Spn.drop hs hp ((e v).mpr h.tail) (Spn.below ks h l (by omega))⟩
    have e4 : rs = ts := str_uniq hs ks e3
    subst e4
    have hlt : r l = t l := by
      obtain ⟨c, h⟩ := (e r).mp (Spn.head r rs)
      obtain ⟨d, k⟩ := (e t).mpr (Spn.head t rs)
      have h1 : r l - c * t l = 0 := Spn.below hs h l (by omega)
      have k1 : t l - d * r l = 0 := Spn.below hs k l (by omega)
      have c1 : 0 < c := by
        rcases Int.lt_or_le 0 c with z | z
        · exact z
        · have : c * t l ≤ 0 := Int.mul_nonpos_of_nonpos_of_nonneg z (by omega)
          omega
      have d1 : 0 < d := by
        rcases Int.lt_or_le 0 d with z | z
        · exact z
        · have : d * r l ≤ 0 := Int.mul_nonpos_of_nonpos_of_nonneg z (by omega)
          omega
      have c2 : 1 * t l ≤ c * t l := Int.mul_le_mul_of_nonneg_right (by omega) (by omega)
      have d2 : 1 * r l ≤ d * r l := Int.mul_le_mul_of_nonneg_right (by omega) (by omega)
      omega
    have hd : Spn rs (fun j => r j - t j) := by
      obtain ⟨c, h⟩ := (e r).mp (Spn.head r rs)
      refine Spn.drop hs kp (r := t) ⟨c - 1, h.congr fun j => ?_⟩ (by show r l - t l = 0; omega)
      show r j - c * t j = r j - t j - (c - 1) * t j
      rw [Int.sub_mul]
      omega
    have hz := Spn.small hs hd fun s hs m h1 h2 => by
      have a1 := hr s hs m h1 h2
      have a2 := kr s hs m h1 h2
      show (r m - t m).natAbs < _
      omega
    have : r = t := funext fun j => by
      have := hz j
      omega
    rw [this]
end TL
namespace TL
def vecL (v : List Int) : Nat → Int := fun j => v.getD j 0
/-- the first place that is not 0 -/
def leadOf : List Int → Option Nat
  | [] => none
  | x :: xs => if x ≠ 0 then some 0 else (leadOf xs).map (· + 1)
def lessL (v : List Int) (t : Int) (r : List Int) : List Int := List.zipWith (fun own item => own - t * item) v r
theorem lead_none : ∀ {v : List Int}, leadOf v = none → ∀ j, vecL v j = 0
  | [], _, j => rfl
  | x :: xs, h, j => by
    unfold leadOf at h
    by_cases c : x ≠ 0
    · rw [if_pos c] at h
      cases h
    · rw [if_neg c] at h
      have h2 : leadOf xs = none := by
        cases e : leadOf xs with
        | none => rfl
        | some i => rw [e] at h; cases h
      cases j with
      | zero => exact Decidable.not_not.mp c
      | succ j => exact lead_none h2 j
theorem lead_some : ∀ {v : List Int} {l : Nat}, leadOf v = some l → (∀ j, j < l → vecL v j = 0) ∧ vecL v l ≠ 0 ∧ l < v.length
  | [], _, h => by cases h
  | x :: xs, l, h => by
    unfold leadOf at h
    by_cases c : x ≠ 0
    · rw [if_pos c] at h
      cases h
      exact ⟨fun j hj => by omega, c, Nat.succ_pos _⟩
    · rw [if_neg c] at h
      obtain ⟨i, hi, rfl⟩ := Option.map_eq_some_iff.mp h
      obtain ⟨h1, h2, h3⟩ := lead_some hi
      refine ⟨fun j hj => ?_, h2, Nat.succ_lt_succ h3⟩
      cases j with
      | zero => exact Decidable.not_not.mp c
      | succ j => exact h1 j (by omega)
theorem less_len {v r : List Int} {t : Int} (h : v.length = r.length) : (lessL v t r).length = v.length := by
  unfold lessL
  rw [List.length_zipWith]
  omega
theorem less_vec {v r : List Int} {t : Int} (h : v.length = r.length) : vecL (lessL v t r) = fun j => vecL v j - t * vecL r j := by
  funext j
  unfold vecL lessL
  rw [List.getD_eq_getElem?_getD, List.getD_eq_getElem?_getD, List.getD_eq_getElem?_getD, List.getElem?_zipWith]
  rcases Nat.lt_or_ge j v.length with z | z
  · rw [List.getElem?_eq_getElem z, List.getElem?_eq_getElem (by omega)]
    rfl
  · rw [List.getElem?_eq_none z, List.getElem?_eq_none (by omega)]
    show (0 : Int) = 0 - t * 0
    omega
theorem fmod_lt (a : Int) {b : Int} (hb : b ≠ 0) : (a - a.fdiv b * b).natAbs < b.natAbs := by
  have h := Int.mul_fdiv_add_fmod a b
  rw [Int.mul_comm] at h
  have e : a - a.fdiv b * b = a.fmod b := by omega
  rw [e]
  rcases Int.lt_or_gt_of_ne hb with c | c
  · have h1 := Int.fmod_nonneg_of_pos (-a) (b := -b) (by omega)
    have h2 := Int.fmod_lt_of_pos (-a) (b := -b) (by omega)
    have h3 : (-a).fmod (-b) = - a.fmod b := Int.neg_fmod_neg ..
    omega
  · have h1 := Int.fmod_nonneg_of_pos a c
    have h2 := Int.fmod_lt_of_pos a c
    omega
/-- Euclid on two rows, as the program does it; fuel: the size of the second's place -/
def dvd2 (l : Nat) : Nat → List Int → List Int → List Int × List Int
  | 0, row, vec => (row, vec)
  | n + 1, row, vec => if vecL vec l ≠ 0 then dvd2 l n vec (lessL row ((vecL row l).fdiv (vecL vec l)) vec) else (row, vec)
theorem dvd2_ok {w l : Nat} : ∀ (n : Nat) (row vec : List Int), row.length = w → vec.length = w → (vecL vec l).natAbs ≤ n → (vecL row l ≠ 0 ∨ vecL vec l ≠ 0) → (∀ j, j < l → vecL row j = 0) → (∀ j, j < l → vecL vec j = 0) →
    ∃ r v, dvd2 l n row vec = (r, v) ∧ r.length = w ∧ v.length = w ∧ vecL v l = 0 ∧ vecL r l ≠ 0 ∧ (∀ j, j < l → vecL r j = 0) ∧ (∀ j, j < l → vecL v j = 0) ∧ ∀ S u, Spn (vecL r :: vecL v :: S) u ↔ Spn (vecL row :: vecL vec :: S) u
  | 0, row, vec, hr, hv, hn, h0, z1, z2 => by
    refine ⟨row, vec, rfl, hr, hv, by omega, by omega, z1, z2, fun S u => Iff.rfl⟩
  | n + 1, row, vec, hr, hv, hn, h0, z1, z2 => by
    unfold dvd2
    by_cases c : vecL vec l ≠ 0
    · rw [if_pos c]
      have e := less_vec (v := row) (r := vec) (t := (vecL row l).fdiv (vecL vec l)) (by omega)
      have hl := less_len (v := row) (r := vec) (t := (vecL row l).fdiv (vecL vec l)) (by omega)
      have hb := fmod_lt (vecL row l) c
      have e1 : vecL (lessL row ((vecL row l).fdiv (vecL vec l)) vec) l = vecL row l - (vecL row l).fdiv (vecL vec l) * vecL vec l := by rw [e]
      obtain ⟨r, v, a1, a2, a3, a4, a5, a6, a7, a8⟩ := dvd2_ok n vec (lessL row ((vecL row l).fdiv (vecL vec l)) vec) hv (by omega) (by rw [e1]; omega) (.inl c) z2 (fun j hj => by rw [e]; show vecL row j - _ * vecL vec j = 0; rw [z1 j hj, z2 j hj]; omega)
      refine ⟨r, v, a1, a2, a3, a4, a5, a6, a7, fun S u => (a8 S u).trans ?_⟩
      rw [e]
      generalize (vecL row l).fdiv (vecL vec l) = t
      constructor
      · refine Spn.sub fun x hx => ?_
        rcases List.mem_cons.mp hx with rfl | hx
        · exact (Spn.head _ _).tail
        · rcases List.mem_cons.mp hx with rfl | hx
          · exact ((Spn.head (vecL row) _).add (((Spn.head (vecL vec) S).tail).mul (-t))).congr fun j => by
              show vecL row j + -t * vecL vec j = vecL row j - t * vecL vec j
              rw [Int.neg_mul]
              omega
          · exact (Spn.mem hx).tail.tail
      · refine Spn.sub fun x hx => ?_
        rcases List.mem_cons.mp hx with rfl | hx
        · exact (((Spn.head (fun j => vecL row j - t * vecL vec j) S).tail).add ((Spn.head (vecL vec) _).mul t)).congr fun j => by
            show vecL row j - t * vecL vec j + t * vecL vec j = vecL row j
            omega
        · rcases List.mem_cons.mp hx with rfl | hx
          · exact Spn.head _ _
          · exact (Spn.mem hx).tail.tail
    · rw [if_neg c]
      exact ⟨row, vec, rfl, hr, hv, by omega, by omega, z1, z2, fun S u => Iff.rfl⟩
/-! ### a vector put into stairs -/
def Ech : Nat → List (Nat → Int) → Prop
  | _, [] => True
  | b, r :: rs => ∃ l, b ≤ l ∧ (∀ j, j < l → r j = 0) ∧ r l ≠ 0 ∧ Ech (l + 1) rs
theorem Ech.le {b c : Nat} {S : List (Nat → Int)} (h : Ech b S) (hc : c ≤ b) : Ech c S := by
  cases S with
  | nil => trivial
  | cons r rs =>
    obtain ⟨l, hl, k⟩ := h
    exact ⟨l, by omega, k⟩
theorem Spn.cons {r : Nat → Int} {A B : List (Nat → Int)} (h : ∀ u, Spn A u ↔ Spn B u) (u : Nat → Int) : Spn (r :: A) u ↔ Spn (r :: B) u := ⟨fun ⟨c, k⟩ => ⟨c, (h _).mp k⟩, fun ⟨c, k⟩ => ⟨c, (h _).mpr k⟩⟩
theorem Spn.swap {a b : Nat → Int} {S : List (Nat → Int)} (u : Nat → Int) : Spn (a :: b :: S) u ↔ Spn (b :: a :: S) u := by
  have g : ∀ (a b : Nat → Int), ∀ x ∈ a :: b :: S, Spn (b :: a :: S) x := fun a b x hx => by
    rcases List.mem_cons.mp hx with rfl | hx
    · exact (Spn.head _ _).tail
    · rcases List.mem_cons.mp hx with rfl | hx
      · exact Spn.head _ _
      · exact (Spn.mem hx).tail.tail
  exact ⟨Spn.sub (g a b), Spn.sub (g b a)⟩
theorem Spn.nought {a : Nat → Int} {S : List (Nat → Int)} (h : ∀ j, a j = 0) (u : Nat → Int) : Spn (a :: S) u ↔ Spn S u := ⟨fun ⟨c, k⟩ => k.congr fun j => by rw [h j]; omega, fun k => k.tail⟩
def withV : List (List Int) → List Int → List (List Int)
  | [], v => match leadOf v with
    | none => []
    | some _ => [v]
  | r :: rs, v => match leadOf v with
    | none => r :: withV rs v
    | some own => match leadOf r with
      | none => r :: withV rs v
      | some lead => if lead < own then r :: withV rs v else if own < lead then v :: withV rs r else (dvd2 lead (vecL v lead).natAbs r v).1 :: withV rs (dvd2 lead (vecL v lead).natAbs r v).2
theorem lead_uniq {v : List Int} {l m : Nat} (h : leadOf v = some l) (z : ∀ j, j < m → vecL v j = 0) (n : vecL v m ≠ 0) : l = m := by
  obtain ⟨h1, h2, _⟩ := lead_some h
  rcases Nat.lt_trichotomy l m with c | c | c
  · exact absurd (z l c) h2
  · exact c
  · exact absurd (h1 m c) n
theorem withV_ok {w : Nat} : ∀ (S : List (List Int)) (v : List Int) (b : Nat), (∀ r ∈ S, r.length = w) → v.length = w → Ech b (S.map vecL) → (∀ j, j < b → vecL v j = 0) →
    (∀ r ∈ withV S v, r.length = w) ∧ Ech b ((withV S v).map vecL) ∧ ∀ u, Spn ((withV S v).map vecL) u ↔ Spn (vecL v :: S.map vecL) u
  | [], v, b, hS, hv, he, hz => by
    unfold withV
    cases h : leadOf v with
    | none =>
      dsimp only
      refine ⟨fun r hr => (by cases hr), trivial, fun u => ?_⟩
      exact (Spn.nought (lead_none h) u).symm
    | some l =>
      dsimp only
      obtain ⟨h1, h2, _⟩ := lead_some h
      refine ⟨fun r hr => by rw [List.mem_singleton.mp hr]; exact hv, ⟨l, ?_, h1, h2, trivial⟩, fun u => Iff.rfl⟩
      rcases Nat.lt_or_ge l b with c | c
      · exact absurd (hz l c) h2
      · exact c
  | r :: rs, v, b, hS, hv, ⟨l, hl, h0, hp, he⟩, hz => by
    have hr := hS r (List.mem_cons_self ..)
    have hrs : ∀ x ∈ rs, x.length = w := fun x hx => hS x (List.mem_cons_of_mem _ hx)
    -- r stays
    have stay : (∀ j, j < l + 1 → vecL v j = 0) → (∀ x ∈ r :: withV rs v, x.length = w) ∧ Ech b ((r :: withV rs v).map vecL) ∧ ∀ u, Spn ((r :: withV rs v).map vecL) u ↔ Spn (vecL v :: (r :: rs).map vecL) u := fun hz' => by
      obtain ⟨a1, a2, a3⟩ := withV_ok rs v (l + 1) hrs hv he hz'
      refine ⟨fun x hx => ?_, ⟨l, hl, h0, hp, a2⟩, fun u => (Spn.cons a3 u).trans (Spn.swap u)⟩
      rcases List.mem_cons.mp hx with rfl | hx
      · exact hr
      · exact a1 x hx
    unfold withV
    cases h : leadOf v with
    | none => exact stay fun j _ => lead_none h j
    | some own =>
      obtain ⟨h1, h2, _⟩ := lead_some h
      have hob : b ≤ own := by
        rcases Nat.lt_or_ge own b with c | c
        · exact absurd (hz own c) h2
        · exact c
      cases k : leadOf r with
      | none => exact absurd (lead_none k l) hp
      | some lead =>
        obtain rfl := lead_uniq k h0 hp
        dsimp only
        by_cases c1 : lead < own
        · rw [if_pos c1]
          exact stay fun j hj => h1 j (by omega)
        · rw [if_neg c1]
          by_cases c2 : own < lead
          · rw [if_pos c2]
            obtain ⟨a1, a2, a3⟩ := withV_ok rs r (own + 1) hrs hr (he.le (by omega)) (fun j hj => h0 j (by omega))
            refine ⟨fun x hx => ?_, ⟨own, hob, h1, h2, a2⟩, fun u => Spn.cons a3 u⟩
            rcases List.mem_cons.mp hx with rfl | hx
            · exact hv
            · exact a1 x hx
          · rw [if_neg c2]
            obtain rfl : own = lead := by omega
            obtain ⟨r', v', e, b1, b2, b3, b4, b5, b6, b7⟩ := dvd2_ok (vecL v own).natAbs r v hr hv (Nat.le_refl _) (.inl hp) h0 h1
            rw [e]
            dsimp only
            obtain ⟨a1, a2, a3⟩ := withV_ok rs v' (own + 1) hrs b2 he (fun j hj => by
              rcases Nat.lt_or_ge j own with z | z
              · exact b6 j z
              · obtain rfl : j = own := by omega
                exact b3)
            refine ⟨fun x hx => ?_, ⟨own, hl, b5, b4, a2⟩, fun u => ((Spn.cons a3 u).trans (b7 _ u)).trans (Spn.swap u)⟩
            rcases List.mem_cons.mp hx with rfl | hx
            · exact b1
            · exact a1 x hx
end TL
namespace TL
/-! ### the rows settled: positive leads, reduced above -/
def StrI : Nat → Nat → List (Nat → Int) → Prop
  | b, c, [] => True
  | b, c, r :: rs => ∃ l, b ≤ l ∧ l < c ∧ (∀ j, j < l → r j = 0) ∧ 0 < r l ∧ StrI (l + 1) c rs ∧ Red r rs
theorem StrI.str : ∀ {S : List (Nat → Int)} {b c : Nat}, StrI b c S → Stc b S
  | [], _, _, _ => trivial
  | r :: rs, b, c, ⟨l, h1, h2, h3, h4, h5, h6⟩ => ⟨l, h1, h3, h4, h5.str, h6⟩
theorem StrI.lead : ∀ {S : List (Nat → Int)} {b c : Nat} {s : Nat → Int}, StrI b c S → s ∈ S → ∃ l, b ≤ l ∧ l < c ∧ (∀ j, j < l → s j = 0) ∧ 0 < s l
  | r :: rs, b, c, s, ⟨l, h1, h2, h3, h4, h5, h6⟩, hs => by
    rcases List.mem_cons.mp hs with rfl | hs
    · exact ⟨l, h1, h2, h3, h4⟩
    · obtain ⟨m, g1, g⟩ := h5.lead hs
      exact ⟨m, by omega, g⟩
theorem StrI.le {S : List (Nat → Int)} {b c d : Nat} (h : StrI b c S) (hd : c ≤ d) : StrI b d S := by
  induction S generalizing b with
  | nil => trivial
  | cons r rs ih =>
    obtain ⟨l, h1, h2, h3, h4, h5, h6⟩ := h
    exact ⟨l, h1, by omega, h3, h4, ih h5, h6⟩
/-- an upper row, reduced at the place m of row -/
def redF (row : Nat → Int) (m : Nat) (up : Nat → Int) : Nat → Int := fun j => up j - (up m).fdiv (row m) * row j
theorem red_fmod (a : Int) {b : Int} (hb : 0 < b) : 0 ≤ a - a.fdiv b * b ∧ a - a.fdiv b * b < b := by
  have h := Int.mul_fdiv_add_fmod a b
  rw [Int.mul_comm] at h
  have h1 := Int.fmod_nonneg_of_pos a hb
  have h2 := Int.fmod_lt_of_pos a hb
  omega
theorem redF_low {row up : Nat → Int} {m j : Nat} (h : row j = 0) : redF row m up j = up j := by
  unfold redF
  rw [h]
  omega
theorem lead_same {s : Nat → Int} {l m : Nat} (h1 : ∀ j, j < l → s j = 0) (h2 : s l ≠ 0) (h3 : ∀ j, j < m → s j = 0) (h4 : s m ≠ 0) : l = m := by
  rcases Nat.lt_trichotomy l m with c | c | c
  · exact absurd (h3 l c) h2
  · exact c
  · exact absurd (h1 m c) h4
theorem strI_snoc {row : Nat → Int} {m : Nat} (z : ∀ j, j < m → row j = 0) (hp : 0 < row m) : ∀ {S : List (Nat → Int)} {b c : Nat}, StrI b c S → c ≤ m → b ≤ m → StrI b (m + 1) (S.map (redF row m) ++ [row])
  | [], b, c, _, _, hb => ⟨m, hb, Nat.lt_succ_self m, z, hp, trivial, fun s hs => by cases hs⟩
  | r :: rs, b, c, ⟨l, h1, h2, h3, h4, h5, h6⟩, hc, hb => by
    have low : ∀ (up : Nat → Int) j, j < m → redF row m up j = up j := fun up j hj => redF_low (z j hj)
    refine ⟨l, h1, by omega, fun j hj => by rw [low r j (by omega)]; exact h3 j hj, by rw [low r l (by omega)]; exact h4, strI_snoc z hp h5 hc (by omega), fun s' hs' k k1 k2 => ?_⟩
    rcases List.mem_append.mp hs' with hs' | hs'
    · obtain ⟨s, hs, rfl⟩ := List.mem_map.mp hs'
      obtain ⟨ls, g1, g2, g3, g4⟩ := h5.lead hs
      have e : ls = k := lead_same (s := redF row m s) (fun j hj => by rw [low s j (by omega)]; exact g3 j hj) (by rw [low s ls (by omega)]; omega) k1 k2
      subst e
      rw [low r ls (by omega), low s ls (by omega)]
      exact h6 s hs ls g3 (by omega)
    · rw [List.mem_singleton.mp hs'] at k1 k2 ⊢
      have e : m = k := lead_same z (by omega) k1 k2
      subst e
      exact red_fmod (r m) hp
/-- the rows settled one by one -/
def settle : List (List Int) → List (List Int) → List (List Int)
  | acc, [] => acc
  | acc, row :: rest =>
    let m := (leadOf row).getD 0
    let row' := if vecL row m < 0 then row.map (- ·) else row
    settle (acc.map (fun up => lessL up ((vecL up m).fdiv (vecL row' m)) row') ++ [row']) rest
theorem vec_neg (v : List Int) : vecL (v.map (- ·)) = fun j => - vecL v j := by
  funext j
  unfold vecL
  rw [List.getD_eq_getElem?_getD, List.getD_eq_getElem?_getD, List.getElem?_map]
  cases v[j]? with
  | none => rfl
  | some u => rfl
/-- the span of a list is that of its rows, in any order -/
theorem Spn.iff {S T : List (Nat → Int)} (h : ∀ r ∈ S, Spn T r) (k : ∀ r ∈ T, Spn S r) (u : Nat → Int) : Spn S u ↔ Spn T u := ⟨Spn.sub h, Spn.sub k⟩
theorem settle_ok {w : Nat} : ∀ (rest acc : List (List Int)) (c : Nat), (∀ r ∈ acc, r.length = w) → (∀ r ∈ rest, r.length = w) → StrI 0 c (acc.map vecL) → Ech c (rest.map vecL) →
    (∀ r ∈ settle acc rest, r.length = w) ∧ Stc 0 ((settle acc rest).map vecL) ∧ ∀ u, Spn ((settle acc rest).map vecL) u ↔ Spn ((acc ++ rest).map vecL) u
  | [], acc, c, ha, _, hs, _ => by
    rw [List.append_nil]
    exact ⟨ha, hs.str, fun u => Iff.rfl⟩
  | row :: rest, acc, c, ha, hr, hs, ⟨l, hl, h0, hp, he⟩ => by
    have hrow := hr row (List.mem_cons_self ..)
    have hm : (leadOf row).getD 0 = l := by
      cases k : leadOf row with
      | none => exact absurd (lead_none k l) hp
      | some m => exact lead_uniq k h0 hp
    unfold settle
    rw [hm]
    dsimp only
    generalize e : (if vecL row l < 0 then row.map (- ·) else row) = row'
    have hrow' : row'.length = w := by
      rw [← e]
      split
      · rw [List.length_map]; exact hrow
      · exact hrow
    have hsg : (∀ j, vecL row' j = vecL row j) ∨ (∀ j, vecL row' j = - vecL row j) := by
      rw [← e]
      split
      · exact .inr fun j => by rw [vec_neg]
      · exact .inl fun j => rfl
    have h0' : ∀ j, j < l → vecL row' j = 0 := fun j hj => by
      have := h0 j hj
      rcases hsg with g | g <;> rw [g] <;> omega
    have hp' : 0 < vecL row' l := by
      rw [← e]
      split
      · rw [vec_neg]
        show 0 < - vecL row l
        omega
      · omega
    have em : ∀ up ∈ acc, vecL (lessL up ((vecL up l).fdiv (vecL row' l)) row') = redF (vecL row') l (vecL up) := fun up hu => by
      rw [less_vec (by rw [ha up hu, hrow'])]
      rfl
    have emap : (acc.map (fun up => lessL up ((vecL up l).fdiv (vecL row' l)) row') ++ [row']).map vecL = (acc.map vecL).map (redF (vecL row') l) ++ [vecL row'] := by
      rw [List.map_append, List.map_map, List.map_map]
      congr 1
      exact List.map_congr_left fun up hu => em up hu
    obtain ⟨a1, a2, a3⟩ := settle_ok rest (acc.map (fun up => lessL up ((vecL up l).fdiv (vecL row' l)) row') ++ [row']) (l + 1) (fun x hx => by
      rcases List.mem_append.mp hx with hx | hx
      · obtain ⟨up, hu, rfl⟩ := List.mem_map.mp hx
        rw [less_len (by rw [ha up hu, hrow'])]
        exact ha up hu
      · rw [List.mem_singleton.mp hx]
        exact hrow') (fun x hx => hr x (List.mem_cons_of_mem _ hx)) (by
      rw [emap]
      exact strI_snoc h0' hp' hs hl (Nat.zero_le _)) he
    refine ⟨a1, a2, fun u => (a3 u).trans ?_⟩
    rw [List.map_append, emap, List.map_append, List.map_cons]
    have r1 : ∀ T : List (Nat → Int), Spn T (vecL row') → Spn T (vecL row) := fun T h => by
      rcases hsg with g | g
      · exact h.congr g
      · exact (h.mul (-1)).congr fun j => by show -1 * vecL row' j = vecL row j; rw [g]; omega
    have r2 : ∀ T : List (Nat → Int), Spn T (vecL row) → Spn T (vecL row') := fun T h => by
      rcases hsg with g | g
      · exact h.congr fun j => (g j).symm
      · exact (h.mul (-1)).congr fun j => by show -1 * vecL row j = vecL row' j; rw [g]; omega
    refine Spn.iff (fun x hx => ?_) (fun x hx => ?_) u
    · have hrow2 : Spn (acc.map vecL ++ vecL row :: rest.map vecL) (vecL row') := r2 _ (Spn.mem (List.mem_append_right _ (List.mem_cons_self ..)))
      rcases List.mem_append.mp hx with hx | hx
      · rcases List.mem_append.mp hx with hx | hx
        · obtain ⟨up, hu, rfl⟩ := List.mem_map.mp hx
          have h1 : Spn (acc.map vecL ++ vecL row :: rest.map vecL) up := Spn.mem (List.mem_append_left _ hu)
          exact (h1.add (hrow2.mul (-((up l).fdiv (vecL row' l))))).congr fun j => by
            show up j + -((up l).fdiv (vecL row' l)) * vecL row' j = up j - (up l).fdiv (vecL row' l) * vecL row' j
            rw [Int.neg_mul]
            omega
        · rw [List.mem_singleton.mp hx]
          exact hrow2
      · exact Spn.mem (List.mem_append_right _ (List.mem_cons_of_mem _ hx))
    · have hrow2 : Spn ((acc.map vecL).map (redF (vecL row') l) ++ [vecL row'] ++ rest.map vecL) (vecL row') := Spn.mem (List.mem_append_left _ (List.mem_append_right _ (List.mem_singleton.mpr rfl)))
      rcases List.mem_append.mp hx with hx | hx
      · have h1 : Spn ((acc.map vecL).map (redF (vecL row') l) ++ [vecL row'] ++ rest.map vecL) (redF (vecL row') l x) := Spn.mem (List.mem_append_left _ (List.mem_append_left _ (List.mem_map.mpr ⟨x, hx, rfl⟩)))
        exact (h1.add (hrow2.mul ((x l).fdiv (vecL row' l)))).congr fun j => by
          show x j - (x l).fdiv (vecL row' l) * vecL row' j + (x l).fdiv (vecL row' l) * vecL row' j = x j
          omega
      · rcases List.mem_cons.mp hx with rfl | hx
        · exact r1 _ hrow2
        · exact Spn.mem (List.mem_append_right _ hx)
end TL
namespace TL
theorem Stc.ech : ∀ {S : List (Nat → Int)} {b : Nat}, Stc b S → Ech b S
  | [], _, _ => trivial
  | r :: rs, b, ⟨l, h1, h2, h3, h4, _⟩ => ⟨l, h1, h2, by omega, h4.ech⟩
theorem Stc.zero {S : List (Nat → Int)} {b : Nat} (h : Stc b S) : Stc 0 S := h.le (Nat.zero_le _)
/-- what is left of a vector on stairs -/
def remV : List (List Int) → List Int → List Int
  | [], v => v
  | r :: rs, v => remV rs (lessL v ((vecL v ((leadOf r).getD 0)).fdiv (vecL r ((leadOf r).getD 0))) r)
theorem remV_ok {w : Nat} : ∀ (S : List (List Int)) (v : List Int) (b : Nat), (∀ r ∈ S, r.length = w) → v.length = w → Stc b (S.map vecL) → (remV S v).length = w ∧ ((∀ j, vecL (remV S v) j = 0) ↔ Spn (S.map vecL) (vecL v))
  | [], v, b, _, hv, _ => ⟨hv, Iff.rfl⟩
  | r :: rs, v, b, hS, hv, ⟨l, hl, h0, hp, hs, hr⟩ => by
    have hrl := hS r (List.mem_cons_self ..)
    have hm : (leadOf r).getD 0 = l := by
      cases k : leadOf r with
      | none => have := lead_none k l; omega
      | some m => exact lead_uniq k h0 (by omega)
    unfold remV
    rw [hm]
    obtain ⟨a1, a2⟩ := remV_ok rs (lessL v ((vecL v l).fdiv (vecL r l)) r) (l + 1) (fun x hx => hS x (List.mem_cons_of_mem _ hx)) (by rw [less_len (by omega)]; exact hv) hs
    refine ⟨a1, a2.trans ?_⟩
    rw [less_vec (by omega)]
    constructor
    · intro h
      exact ⟨_, h⟩
    · rintro ⟨c, h⟩
      have h1 : vecL v l - c * vecL r l = 0 := Spn.below hs h l (by omega)
      have e : (vecL v l).fdiv (vecL r l) = c := by
        rw [show vecL v l = c * vecL r l by omega]
        exact Int.mul_fdiv_cancel _ (by omega)
      rw [e]
      exact h
/-- the staircase of vectors; those that lie within are left out -/
def stairStep (S : List (List Int)) (v : List Int) : List (List Int) := if (remV S v).all (· == 0) then S else settle [] (withV S v)
def stairsOf (vs : List (List Int)) : List (List Int) := vs.foldl stairStep []
theorem all_zero {v : List Int} : v.all (· == 0) = true ↔ ∀ j, vecL v j = 0 := by
  rw [List.all_eq_true]
  constructor
  · intro h j
    unfold vecL
    rw [List.getD_eq_getElem?_getD]
    cases k : v[j]? with
    | none => rfl
    | some x => exact eq_of_beq (h x (List.mem_of_getElem? k))
  · intro h x hx
    obtain ⟨j, hj⟩ := List.mem_iff_getElem?.mp hx
    have := h j
    unfold vecL at this
    rw [List.getD_eq_getElem?_getD, hj] at this
    exact beq_iff_eq.mpr this
theorem step_ok {w : Nat} {S : List (List Int)} {v : List Int} (hS : ∀ r ∈ S, r.length = w) (hv : v.length = w) (hs : Stc 0 (S.map vecL)) :
    (∀ r ∈ stairStep S v, r.length = w) ∧ Stc 0 ((stairStep S v).map vecL) ∧ ∀ u, Spn ((stairStep S v).map vecL) u ↔ Spn (vecL v :: S.map vecL) u := by
  have hr := remV_ok S v 0 hS hv hs
  unfold stairStep
  by_cases c : (remV S v).all (· == 0) = true
  · rw [if_pos c]
    refine ⟨hS, hs, fun u => Spn.iff (fun x hx => (Spn.mem hx).tail) (fun x hx => ?_) u⟩
    rcases List.mem_cons.mp hx with rfl | hx
    · exact hr.2.mp (all_zero.mp c)
    · exact Spn.mem hx
  · rw [if_neg c]
    obtain ⟨a1, a2, a3⟩ := withV_ok S v 0 hS hv hs.ech (fun j hj => by omega)
    obtain ⟨b1, b2, b3⟩ := settle_ok (withV S v) [] 0 (fun r hr => by cases hr) a1 trivial a2
    exact ⟨b1, b2, fun u => (b3 u).trans (a3 u)⟩
theorem fold_ok {w : Nat} : ∀ (vs S : List (List Int)), (∀ v ∈ vs, v.length = w) → (∀ r ∈ S, r.length = w) → Stc 0 (S.map vecL) →
    (∀ r ∈ vs.foldl stairStep S, r.length = w) ∧ Stc 0 ((vs.foldl stairStep S).map vecL) ∧ ∀ u, Spn ((vs.foldl stairStep S).map vecL) u ↔ Spn (S.map vecL ++ vs.map vecL) u
  | [], S, _, hS, hs => by
    rw [List.map_nil, List.append_nil]
    exact ⟨hS, hs, fun u => Iff.rfl⟩
  | v :: vs, S, hv, hS, hs => by
    obtain ⟨a1, a2, a3⟩ := step_ok hS (hv v (List.mem_cons_self ..)) hs
    obtain ⟨b1, b2, b3⟩ := fold_ok vs (stairStep S v) (fun x hx => hv x (List.mem_cons_of_mem _ hx)) a1 a2
    refine ⟨b1, b2, fun u => (b3 u).trans (Spn.iff (fun x hx => ?_) (fun x hx => ?_) u)⟩
    · rcases List.mem_append.mp hx with hx | hx
      · refine Spn.sub (S := vecL v :: S.map vecL) (fun y hy => ?_) ((a3 x).mp (Spn.mem hx))
        rcases List.mem_cons.mp hy with rfl | hy
        · exact Spn.mem (List.mem_append_right _ (List.mem_cons_self ..))
        · exact Spn.mem (List.mem_append_left _ hy)
      · exact Spn.mem (List.mem_append_right _ (List.mem_cons_of_mem _ hx))
    · rcases List.mem_append.mp hx with hx | hx
      · exact Spn.sub (fun y hy => Spn.mem (List.mem_append_left _ hy)) ((a3 x).mpr (Spn.mem hx).tail)
      · rcases List.mem_cons.mp hx with rfl | hx
        · exact Spn.sub (fun y hy => Spn.mem (List.mem_append_left _ hy)) ((a3 _).mpr (Spn.head _ _))
        · exact Spn.mem (List.mem_append_right _ hx)
theorem stairs_ok {w : Nat} {vs : List (List Int)} (h : ∀ v ∈ vs, v.length = w) : (∀ r ∈ stairsOf vs, r.length = w) ∧ Stc 0 ((stairsOf vs).map vecL) ∧ ∀ u, Spn ((stairsOf vs).map vecL) u ↔ Spn (vs.map vecL) u :=
  fold_ok vs [] h (fun r hr => by cases hr) trivial
theorem vecL_inj {w : Nat} {a b : List Int} (ha : a.length = w) (hb : b.length = w) (h : vecL a = vecL b) : a = b := by
  refine List.ext_getElem (by omega) fun j h1 h2 => ?_
  have := congrFun h j
  unfold vecL at this
  rw [List.getD_eq_getElem?_getD, List.getD_eq_getElem?_getD, List.getElem?_eq_getElem h1, List.getElem?_eq_getElem h2] at this
  exact this
theorem vecL_maps {w : Nat} : ∀ {A B : List (List Int)}, (∀ r ∈ A, r.length = w) → (∀ r ∈ B, r.length = w) → A.map vecL = B.map vecL → A = B
  | [], [], _, _, _ => rfl
  | [], b :: bs, _, _, h => by cases h
  | a :: as, [], _, _, h => by cases h
  | a :: as, b :: bs, ha, hb, h => by
    rw [List.map_cons, List.map_cons, List.cons.injEq] at h
    rw [vecL_inj (ha a (List.mem_cons_self ..)) (hb b (List.mem_cons_self ..)) h.1, vecL_maps (fun r hr => ha r (List.mem_cons_of_mem _ hr)) (fun r hr => hb r (List.mem_cons_of_mem _ hr)) h.2]
/-- two staircases of one span are one -/
theorem stairs_one {w : Nat} {A B : List (List Int)} (ha : ∀ r ∈ A, r.length = w) (hb : ∀ r ∈ B, r.length = w) (sa : Stc 0 (A.map vecL)) (sb : Stc 0 (B.map vecL)) (h : ∀ u, Spn (A.map vecL) u ↔ Spn (B.map vecL) u) : A = B := vecL_maps ha hb (str_uniq sa sb h)
/-- the staircase tells the lattice -/
theorem stairs_same {w : Nat} {vs us : List (List Int)} (hv : ∀ v ∈ vs, v.length = w) (hu : ∀ v ∈ us, v.length = w) : stairsOf vs = stairsOf us ↔ ∀ u, Spn (vs.map vecL) u ↔ Spn (us.map vecL) u := by
  obtain ⟨a1, a2, a3⟩ := stairs_ok hv
  obtain ⟨b1, b2, b3⟩ := stairs_ok hu
  constructor
  · intro h u
    rw [← a3, ← b3, h]
  · intro h
    exact stairs_one a1 b1 a2 b2 fun u => ((a3 u).trans (h u)).trans (b3 u).symm
end TL
namespace TL
theorem vec_is (v : List Int) : vec v = vecL v := rfl
theorem RestsOn.nil (A : List Vec) : RestsOn A (fun _ => 0) := ⟨1, fun _ => 0, by decide, fun j => by
  have : (fun t => rw_ A t j * (0 : Int)) = fun _ => 0 := funext fun t => Int.mul_zero _
  rw [this, sumN_zero]
  rfl⟩
theorem RestsOn.comb {A : List Vec} {u v : Vec} (h : RestsOn A u) (k : RestsOn A v) (c : Int) : RestsOn A (fun j => u j + c * v j) := by
  obtain ⟨d, m, hd, h⟩ := h
  obtain ⟨e, n, he, k⟩ := k
  refine ⟨d * e, fun t => e * m t + d * c * n t, Int.mul_ne_zero hd he, fun j => ?_⟩
  have e1 : (fun t => rw_ A t j * (e * m t + d * c * n t)) = fun t => e * (rw_ A t j * m t) + d * c * (rw_ A t j * n t) := by
    funext t
    grind
  rw [e1, sumN_add, sumN_mul, sumN_mul, ← h j, ← k j]
  grind
/-- a whole sum of rows that rest on A rests on A -/
theorem Spn.rests {A : List Vec} : ∀ {S : List (Nat → Int)} {v : Nat → Int}, (∀ r ∈ S, RestsOn A r) → Spn S v → RestsOn A v
  | [], v, _, h => by
    have : v = fun _ => 0 := funext h
    rw [this]
    exact RestsOn.nil A
  | r :: rs, v, g, ⟨c, h⟩ => by
    have h1 := Spn.rests (fun x hx => g x (List.mem_cons_of_mem _ hx)) h
    have h2 := h1.comb (g r (List.mem_cons_self ..)) c
    have e : (fun j => (v j - c * r j) + c * r j) = v := funext fun j => by omega
    rw [e] at h2
    exact h2
/-- what lies within has no greater rank -/
theorem rank_sub {A B : List (List Int)} {w : Nat} (ha : RowsW w A) (hb : RowsW w B) (h : ∀ row ∈ A, Spn (B.map vecL) (vecL row)) : clrRank A ≤ clrRank B := by
  obtain ⟨C, hl, _, hr, _⟩ := clr_span hb
  rw [← hl]
  refine rank_le_of ha fun row hrow => ?_
  refine Spn.rests (fun r hr' => ?_) (h row hrow)
  obtain ⟨x, hx, rfl⟩ := List.mem_map.mp hr'
  exact hr x hx
theorem rank_same {A B : List (List Int)} {w : Nat} (ha : RowsW w A) (hb : RowsW w B) (h : ∀ u, Spn (A.map vecL) u ↔ Spn (B.map vecL) u) : clrRank A = clrRank B :=
  Nat.le_antisymm (rank_sub ha hb fun row hr => (h _).mp (Spn.mem (List.mem_map.mpr ⟨row, hr, rfl⟩))) (rank_sub hb ha fun row hr => (h _).mpr (Spn.mem (List.mem_map.mpr ⟨row, hr, rfl⟩)))
theorem ech_dt : ∀ (rest A : List Vec) (cs : List Nat) (b : Nat), Dt A cs ≠ 0 → (∀ c ∈ cs, c < b) → Ech b rest → ∃ ds, Dt (A ++ rest) ds ≠ 0
  | [], A, cs, b, h, _, _ => ⟨cs, by rw [List.append_nil]; exact h⟩
  | r :: rs, A, cs, b, h, hc, ⟨l, hl, h0, hp, he⟩ => by
    have e : Dt (A ++ [r]) (cs ++ [l]) = r l * Dt A cs := by
      rw [dt_snoc]
      exact wd_block fun c hcc => h0 c (Nat.lt_of_lt_of_le (hc c hcc) hl)
    have := ech_dt rs (A ++ [r]) (cs ++ [l]) (l + 1) (by rw [e]; exact Int.mul_ne_zero hp h) (fun c hcc => by
      rcases List.mem_append.mp hcc with q | q
      · have := hc c q
        omega
      · rw [List.mem_singleton.mp q]
        omega) he
    rw [List.append_assoc] at this
    exact this
/-- the rank of stairs is their number -/
theorem ech_rank {S : List (List Int)} {w b : Nat} (hw : RowsW w S) (h : Ech b (S.map vecL)) : clrRank S = S.length := by
  obtain ⟨_, _, _, hle, _⟩ := clr_struct hw
  obtain ⟨ds, hd⟩ := ech_dt (S.map vecL) [] [] b (show d0 [] ≠ 0 by decide) (fun c hc => by cases hc) h
  have := rank_ge hw (X := S.map vecL) (fun x hx => by
    obtain ⟨row, h1, rfl⟩ := List.mem_map.mp hx
    exact ⟨row, h1, rfl⟩) hd
  rw [List.length_map] at this
  omega
/-- the rank is the number of stairs -/
theorem rank_stairs {vs : List (List Int)} {w : Nat} (h : RowsW w vs) : clrRank vs = (stairsOf vs).length := by
  obtain ⟨a1, a2, a3⟩ := stairs_ok (w := w) h
  rw [← ech_rank a1 a2.ech]
  exact rank_same h a1 fun u => (a3 u).symm
end TL
namespace TL
/-! ### the rank by Euclid on the rows, column by column -/
theorem dvd2_any {w l : Nat} (row vec : List Int) (hr : row.length = w) (hv : vec.length = w) (z1 : ∀ j, j < l → vecL row j = 0) (z2 : ∀ j, j < l → vecL vec j = 0) :
    ∃ r v, dvd2 l (vecL vec l).natAbs row vec = (r, v) ∧ r.length = w ∧ v.length = w ∧ vecL v l = 0 ∧ (∀ j, j < l → vecL r j = 0) ∧ (∀ j, j < l → vecL v j = 0) ∧ ∀ S u, Spn (vecL r :: vecL v :: S) u ↔ Spn (vecL row :: vecL vec :: S) u := by
  by_cases c : vecL row l ≠ 0 ∨ vecL vec l ≠ 0
  · obtain ⟨r, v, a1, a2, a3, a4, a5, a6, a7, a8⟩ := dvd2_ok (vecL vec l).natAbs row vec hr hv (Nat.le_refl _) c z1 z2
    exact ⟨r, v, a1, a2, a3, a4, a6, a7, a8⟩
  · have h1 : vecL vec l = 0 := Decidable.not_not.mp fun z => c (.inr z)
    rw [h1]
    exact ⟨row, vec, rfl, hr, hv, h1, z1, z2, fun S u => Iff.rfl⟩
def eucCol (j : Nat) : List Int → List (List Int) → List Int × List (List Int)
  | h, [] => (h, [])
  | h, r :: rs => ((eucCol j (dvd2 j (vecL r j).natAbs h r).1 rs).1, (dvd2 j (vecL r j).natAbs h r).2 :: (eucCol j (dvd2 j (vecL r j).natAbs h r).1 rs).2)
def Low (w j : Nat) (r : List Int) : Prop := r.length = w ∧ ∀ i, i < j → vecL r i = 0
theorem eucCol_ok {w j : Nat} : ∀ (rs : List (List Int)) (h : List Int), Low w j h → (∀ r ∈ rs, Low w j r) →
    Low w j (eucCol j h rs).1 ∧ (∀ r ∈ (eucCol j h rs).2, Low w (j + 1) r) ∧ ∀ u, Spn (vecL (eucCol j h rs).1 :: (eucCol j h rs).2.map vecL) u ↔ Spn (vecL h :: rs.map vecL) u
  | [], h, hh, _ => ⟨hh, fun r hr => (by cases hr), fun u => Iff.rfl⟩
  | r :: rs, h, hh, hr => by
    have hr0 := hr r (List.mem_cons_self ..)
    obtain ⟨p, v, e, a2, a3, a4, a6, a7, a8⟩ := dvd2_any h r hh.1 hr0.1 hh.2 hr0.2
    unfold eucCol
    rw [e]
    dsimp only
    obtain ⟨b1, b2, b3⟩ := eucCol_ok rs p ⟨a2, a6⟩ (fun x hx => hr x (List.mem_cons_of_mem _ hx))
    refine ⟨b1, fun x hx => ?_, fun u => ?_⟩
    · rcases List.mem_cons.mp hx with rfl | hx
      · refine ⟨a3, fun i hi => ?_⟩
        rcases Nat.lt_or_ge i j with z | z
        · exact a7 i z
        · rw [show i = j by omega]
          exact a4
      · exact b2 x hx
    · show Spn (vecL (eucCol j p rs).1 :: vecL v :: (eucCol j p rs).2.map vecL) u ↔ Spn (vecL h :: vecL r :: rs.map vecL) u
      refine (Spn.swap u).trans (((Spn.cons b3 u).trans (Spn.swap u)).trans (a8 _ u))
def eucR : Nat → Nat → List (List Int) → Nat
  | 0, _, _ => 0
  | _ + 1, _, [] => 0
  | k + 1, j, h :: rs => if vecL (eucCol j h rs).1 j ≠ 0 then 1 + eucR k (j + 1) (eucCol j h rs).2 else eucR k (j + 1) ((eucCol j h rs).1 :: (eucCol j h rs).2)
theorem eucR_ok {w : Nat} : ∀ (k j : Nat) (rows : List (List Int)), j + k = w → (∀ r ∈ rows, Low w j r) → ∃ S : List (List Int), (∀ r ∈ S, r.length = w) ∧ S.length = eucR k j rows ∧ Ech j (S.map vecL) ∧ ∀ u, Spn (S.map vecL) u ↔ Spn (rows.map vecL) u
  | 0, j, rows, hk, hr => by
    refine ⟨[], fun r h => (by cases h), by unfold eucR; rfl, trivial, fun u => ⟨fun h => (Spn.zero _).congr fun i => (h i).symm, fun h => ?_⟩⟩
    refine Spn.sub (T := []) (fun r hr' => ?_) h
    obtain ⟨x, hx, rfl⟩ := List.mem_map.mp hr'
    obtain ⟨h1, h2⟩ := hr x hx
    intro i
    rcases Nat.lt_or_ge i j with z | z
    · exact h2 i z
    · unfold vecL
      rw [List.getD_eq_getElem?_getD, List.getElem?_eq_none (by omega)]
      rfl
  | k + 1, j, [], hk, hr => ⟨[], fun r h => (by cases h), rfl, trivial, fun u => Iff.rfl⟩
  | k + 1, j, h :: rs, hk, hr => by
    obtain ⟨a1, a2, a3⟩ := eucCol_ok rs h (hr h (List.mem_cons_self ..)) (fun r hr' => hr r (List.mem_cons_of_mem _ hr'))
    unfold eucR
    by_cases c : vecL (eucCol j h rs).1 j ≠ 0
    · rw [if_pos c]
      obtain ⟨S, b1, b2, b3, b4⟩ := eucR_ok (w := w) k (j + 1) (eucCol j h rs).2 (by omega) a2
      refine ⟨(eucCol j h rs).1 :: S, fun r hr' => ?_, by rw [List.length_cons, b2]; omega, ⟨j, Nat.le_refl _, a1.2, c, b3⟩, fun u => (Spn.cons b4 u).trans (a3 u)⟩
      rcases List.mem_cons.mp hr' with rfl | hr'
      · exact a1.1
      · exact b1 r hr'
    · rw [if_neg c]
      obtain ⟨S, b1, b2, b3, b4⟩ := eucR_ok (w := w) k (j + 1) ((eucCol j h rs).1 :: (eucCol j h rs).2) (by omega) (fun r hr' => by
        rcases List.mem_cons.mp hr' with rfl | hr'
        · refine ⟨a1.1, fun i hi => ?_⟩
          rcases Nat.lt_or_ge i j with z | z
          · exact a1.2 i z
          · rw [show i = j by omega]
            exact Decidable.not_not.mp c
        · exact a2 r hr')
      refine ⟨S, b1, b2, ?_, fun u => (b4 u).trans (a3 u)⟩
      exact b3.le (by omega)
/-- the rank by Euclid is the rank -/
theorem euc_rank {w : Nat} {M : List (List Int)} (h : RowsW w M) : clrRank M = eucR w 0 M := by
  obtain ⟨S, b1, b2, b3, b4⟩ := eucR_ok (w := w) w 0 M (by omega) (fun r hr => ⟨h r hr, fun i hi => by omega⟩)
  rw [← b2, ← ech_rank b1 b3]
  exact rank_same h b1 fun u => (b4 u).symm
end TL
namespace TL
/-! ### Euclid on rows: how great what stands may be -/
theorem fd_facts (a b : Int) (hb : b ≠ 0) : (a - a.fdiv b * b).natAbs < b.natAbs ∧ 0 ≤ b * (a - a.fdiv b * b) ∧ (a.fdiv b).natAbs * b.natAbs ≤ a.natAbs + (a - a.fdiv b * b).natAbs ∧ (0 ≤ a * b → a.natAbs = (a.fdiv b).natAbs * b.natAbs + (a - a.fdiv b * b).natAbs) := by
  have pos : ∀ a b : Int, 0 < b → (a - a.fdiv b * b).natAbs < b.natAbs ∧ 0 ≤ (a - a.fdiv b * b) ∧ (0 ≤ a → 0 ≤ a.fdiv b) := fun a b hb => by
    rw [Int.fdiv_eq_ediv_of_nonneg a (Int.le_of_lt hb)]
    have h1 := Int.emod_nonneg a (Int.ne_of_gt hb)
    have h2 := Int.emod_lt_of_pos a hb
    have h3 := Int.emod_def a b
    rw [Int.mul_comm b] at h3
    rw [← h3]
    exact ⟨by omega, h1, fun h => Int.ediv_nonneg h (Int.le_of_lt hb)⟩
  have abs : (a.fdiv b).natAbs * b.natAbs = (a.fdiv b * b).natAbs := (Int.natAbs_mul _ _).symm
  rcases Int.lt_or_gt_of_ne hb with c | c
  · obtain ⟨h1, h2, h3⟩ := pos (-a) (-b) (by omega)
    rw [Int.neg_fdiv_neg] at h1 h2 h3
    rw [abs]
    rw [Int.mul_neg] at h1 h2
    have e : a - a.fdiv b * b ≤ 0 := by omega
    refine ⟨by omega, ?_, by omega, fun h => ?_⟩
    · exact Int.mul_nonneg_of_nonpos_of_nonpos (by omega) e
    · have ha : a ≤ 0 := by
        rcases Int.lt_or_le 0 a with z | z
        · have := Int.mul_neg_of_pos_of_neg z c
          omega
        · exact z
      have n0 := h3 (by omega)
      have : a.fdiv b * b ≤ 0 := Int.mul_nonpos_of_nonneg_of_nonpos n0 (by omega)
      omega
  · obtain ⟨h1, h2, h3⟩ := pos a b c
    rw [abs]
    refine ⟨h1, ?_, by omega, fun h => ?_⟩
    · exact Int.mul_nonneg (by omega) h2
    · have ha : 0 ≤ a := by
        rcases Int.lt_or_le a 0 with z | z
        · have := Int.mul_neg_of_neg_of_pos z c
          omega
        · exact z
      have n0 := h3 ha
      have : 0 ≤ a.fdiv b * b := Int.mul_nonneg n0 (by omega)
      omega
def EB (D : Nat) (v : List Int) : Prop := ∀ x ∈ v, x.natAbs ≤ D
theorem EB.le {D E : Nat} {v : List Int} (h : EB D v) (k : D ≤ E) : EB E v := fun x hx => Nat.le_trans (h x hx) k
theorem EB.at {D : Nat} {v : List Int} (h : EB D v) (j : Nat) : (vecL v j).natAbs ≤ D := by
  unfold vecL
  rw [List.getD_eq_getElem?_getD]
  cases k : v[j]? with
  | none => exact Nat.zero_le _
  | some x => exact h x (List.mem_of_getElem? k)
theorem EB.less {d e : Nat} {v r : List Int} {t : Int} (h1 : EB d v) (h2 : EB e r) : EB (d + t.natAbs * e) (lessL v t r) := fun x hx => by
  unfold lessL at hx
  obtain ⟨i, hi⟩ := List.mem_iff_getElem?.mp hx
  rw [List.getElem?_zipWith] at hi
  cases p : v[i]? with
  | none => rw [p] at hi; cases hi
  | some y =>
    cases q : r[i]? with
    | none => rw [p, q] at hi; cases hi
    | some z =>
      rw [p, q] at hi
      obtain rfl := Option.some.inj hi
      have a1 := h1 y (List.mem_of_getElem? p)
      have a2 := h2 z (List.mem_of_getElem? q)
      have a3 : (t * z).natAbs ≤ t.natAbs * e := by
        rw [Int.natAbs_mul]
        exact Nat.mul_le_mul_left _ a2
      omega
/-- the two rows on the way -/
def PBs (l D : Nat) (row vec : List Int) : Prop :=
  (∃ e0 e1, EB e0 row ∧ EB e1 vec ∧ e0 ≤ D ∧ e1 ≤ D ∧ e0 * (vecL vec l).natAbs + e1 * (vecL row l).natAbs + 2 * (e1 * (vecL vec l).natAbs) ≤ D) ∨
  (∃ e0 e1, EB e0 row ∧ EB e1 vec ∧ e0 ≤ D ∧ e1 ≤ D ∧ 0 ≤ vecL row l * vecL vec l ∧ e1 * (vecL row l).natAbs + e0 * (vecL vec l).natAbs ≤ D)
theorem PBs.eb {l D : Nat} {row vec : List Int} (h : PBs l D row vec) : EB D row ∧ EB D vec := by
  rcases h with ⟨e0, e1, a, b, c, d, _⟩ | ⟨e0, e1, a, b, c, d, _⟩
  · exact ⟨a.le c, b.le d⟩
  · exact ⟨a.le c, b.le d⟩
theorem PBs.step {l D : Nat} {row vec : List Int} (h : PBs l D row vec) (hl : row.length = vec.length) (hb : vecL vec l ≠ 0) : PBs l D vec (lessL row ((vecL row l).fdiv (vecL vec l)) vec) := by
  obtain ⟨f1, f2, f3, f4⟩ := fd_facts (vecL row l) (vecL vec l) hb
  have ev : vecL (lessL row ((vecL row l).fdiv (vecL vec l)) vec) l = vecL row l - (vecL row l).fdiv (vecL vec l) * vecL vec l := by rw [less_vec hl]
  have b1 : 1 ≤ (vecL vec l).natAbs := by omega
  rcases h with ⟨e0, e1, h1, h2, h3, h4, h5⟩ | ⟨e0, e1, h1, h2, h3, h4, h5, h6⟩
  · refine .inr ⟨e1, e0 + ((vecL row l).fdiv (vecL vec l)).natAbs * e1, h2, h1.less h2, h4, ?_, by rw [ev]; exact f2, ?_⟩
    all_goals rw [ev] at *
    all_goals generalize (vecL row l - (vecL row l).fdiv (vecL vec l) * vecL vec l).natAbs = R at *
    all_goals generalize ((vecL row l).fdiv (vecL vec l)).natAbs = N at *
    all_goals generalize (vecL vec l).natAbs = B at *
    all_goals generalize (vecL row l).natAbs = A at *
    all_goals
      have k1 : e1 * (N * B) ≤ e1 * (A + B) := Nat.mul_le_mul_left _ (by omega)
      have k2 : e1 * R ≤ e1 * B := Nat.mul_le_mul_left _ (by omega)
      have k3 : (e0 + N * e1) * B = e0 * B + e1 * (N * B) := by grind
      have k4 : e1 * (A + B) = e1 * A + e1 * B := Nat.mul_add ..
    · have k5 : (e0 + N * e1) * 1 ≤ (e0 + N * e1) * B := Nat.mul_le_mul_left _ b1
      omega
    · omega
  · refine .inr ⟨e1, e0 + ((vecL row l).fdiv (vecL vec l)).natAbs * e1, h2, h1.less h2, h4, ?_, by rw [ev]; exact f2, ?_⟩
    all_goals rw [ev] at *
    all_goals have f5 := f4 h5
    all_goals clear f4 f3 f2 h5
    all_goals generalize (vecL row l - (vecL row l).fdiv (vecL vec l) * vecL vec l).natAbs = R at *
    all_goals generalize ((vecL row l).fdiv (vecL vec l)).natAbs = N at *
    all_goals generalize (vecL vec l).natAbs = B at *
    all_goals generalize (vecL row l).natAbs = A at *
    all_goals
      have k3 : (e0 + N * e1) * B + e1 * R = e0 * B + e1 * (N * B + R) := by grind
      rw [← f5] at k3
    · have k5 : (e0 + N * e1) * 1 ≤ (e0 + N * e1) * B := Nat.mul_le_mul_left _ b1
      omega
    · omega
theorem PBs.start {l p b : Nat} {row vec : List Int} (h1 : EB (2 ^ p) row) (h2 : EB (2 ^ b) vec) (hpb : b ≤ p) : PBs l (2 ^ (p + (b + 2))) row vec := by
  have ep : (2 : Nat) ^ (p + (b + 2)) = 2 ^ p * 2 ^ b * 4 := by
    rw [← Nat.add_assoc, Nat.pow_add, Nat.pow_add]
  have le : (2 : Nat) ^ b ≤ 2 ^ p := Nat.pow_le_pow_right (by decide) hpb
  have p0 : 1 ≤ 2 ^ p := Nat.pow_pos (by decide)
  have b0 : 1 ≤ 2 ^ b := Nat.pow_pos (by decide)
  have a1 := h1.at l
  have a2 := h2.at l
  refine .inl ⟨2 ^ p, 2 ^ b, h1, h2, Nat.pow_le_pow_right (by decide) (by omega), Nat.pow_le_pow_right (by decide) (by omega), ?_⟩
  rw [ep]
  generalize (vecL row l).natAbs = A at *
  generalize (vecL vec l).natAbs = B at *
  generalize (2 : Nat) ^ p = X at *
  generalize (2 : Nat) ^ b = Y at *
  have k1 : X * B ≤ X * Y := Nat.mul_le_mul_left _ a2
  have k2 : Y * A ≤ Y * X := Nat.mul_le_mul_left _ a1
  have k3 : Y * B ≤ X * Y := Nat.mul_le_mul le a2
  have k4 : Y * X = X * Y := Nat.mul_comm ..
  omega
/-- the fuel does not matter -/
theorem dvd2_fuel {l : Nat} : ∀ (n : Nat) (row vec : List Int), row.length = vec.length → (vecL vec l).natAbs ≤ n → dvd2 l n row vec = dvd2 l (vecL vec l).natAbs row vec
  | 0, row, vec, hl, h => by
    rw [show (vecL vec l).natAbs = 0 by omega]
  | n + 1, row, vec, hl, h => by
    by_cases c : vecL vec l ≠ 0
    · obtain ⟨f1, _⟩ := fd_facts (vecL row l) (vecL vec l) c
      have ev : vecL (lessL row ((vecL row l).fdiv (vecL vec l)) vec) l = vecL row l - (vecL row l).fdiv (vecL vec l) * vecL vec l := by rw [less_vec hl]
      have ll := less_len (v := row) (r := vec) (t := (vecL row l).fdiv (vecL vec l)) hl
      have step : ∀ k, dvd2 l (k + 1) row vec = dvd2 l k vec (lessL row ((vecL row l).fdiv (vecL vec l)) vec) := fun k => by
        conv => lhs; unfold dvd2
        rw [if_pos c]
      obtain ⟨m, hm⟩ : ∃ m, (vecL vec l).natAbs = m + 1 := ⟨(vecL vec l).natAbs - 1, by omega⟩
      rw [hm, step, step]
      rw [dvd2_fuel n _ _ (by omega) (by rw [ev]; omega)]
      by_cases e : m = n
      · subst e
        rw [dvd2_fuel m _ _ (by omega) (by rw [ev]; omega)]
      · rw [dvd2_fuel m vec _ (by omega) (by rw [ev]; omega)]
    · have h0 : vecL vec l = 0 := Decidable.not_not.mp c
      rw [h0]
      unfold dvd2
      rw [if_neg c]
      rfl
termination_by n => n
theorem dvd2_step {l : Nat} {row vec : List Int} (hl : row.length = vec.length) (hb : vecL vec l ≠ 0) :
    dvd2 l (vecL vec l).natAbs row vec = dvd2 l (vecL (lessL row ((vecL row l).fdiv (vecL vec l)) vec) l).natAbs vec (lessL row ((vecL row l).fdiv (vecL vec l)) vec) := by
  obtain ⟨f1, _⟩ := fd_facts (vecL row l) (vecL vec l) hb
  have ev : vecL (lessL row ((vecL row l).fdiv (vecL vec l)) vec) l = vecL row l - (vecL row l).fdiv (vecL vec l) * vecL vec l := by rw [less_vec hl]
  have ll := less_len (v := row) (r := vec) (t := (vecL row l).fdiv (vecL vec l)) hl
  obtain ⟨m, hm⟩ : ∃ m, (vecL vec l).natAbs = m + 1 := ⟨(vecL vec l).natAbs - 1, by omega⟩
  rw [hm]
  conv => lhs; unfold dvd2
  rw [if_pos hb]
  exact dvd2_fuel m _ _ (by omega) (by rw [ev]; omega)
theorem dvd2_end {l : Nat} {row vec : List Int} (h : vecL vec l = 0) : dvd2 l (vecL vec l).natAbs row vec = (row, vec) := by
  rw [h]
  rfl
theorem dvd2_lt {l : Nat} {row vec : List Int} (hl : row.length = vec.length) (hb : vecL vec l ≠ 0) : (vecL (lessL row ((vecL row l).fdiv (vecL vec l)) vec) l).natAbs < (vecL vec l).natAbs := by
  obtain ⟨f1, _⟩ := fd_facts (vecL row l) (vecL vec l) hb
  rw [less_vec hl]
  exact f1
theorem fdiv_abs {a b : Int} (hb : b ≠ 0) : (a.fdiv b).natAbs ≤ a.natAbs + 1 := by
  obtain ⟨f1, _, f3, _⟩ := fd_facts a b hb
  have b1 : 1 ≤ b.natAbs := by omega
  have k : ((a.fdiv b).natAbs) * b.natAbs < (a.natAbs + 1) * b.natAbs + 1 := by
    have : a.natAbs ≤ a.natAbs * b.natAbs := Nat.le_mul_of_pos_right _ b1
    have e : (a.natAbs + 1) * b.natAbs = a.natAbs * b.natAbs + b.natAbs := Nat.succ_mul ..
    omega
  exact Nat.le_of_mul_le_mul_right (Nat.lt_succ_iff.mp k) b1
/-- a column without a pivot is left as it is -/
theorem eucCol_none {w j : Nat} : ∀ (rs : List (List Int)) (h : List Int), Low w j h → (∀ r ∈ rs, Low w j r) → vecL (eucCol j h rs).1 j = 0 → eucCol j h rs = (h, rs)
  | [], h, _, _, _ => rfl
  | r :: rs, h, hh, hr, hz => by
    have hr0 := hr r (List.mem_cons_self ..)
    unfold eucCol at hz ⊢
    dsimp only at hz ⊢
    by_cases c : vecL h j ≠ 0 ∨ vecL r j ≠ 0
    · exfalso
      obtain ⟨p, v, e, a2, a3, a4, a5, a6, a7, a8⟩ := dvd2_ok (vecL r j).natAbs h r hh.1 hr0.1 (Nat.le_refl _) c hh.2 hr0.2
      rw [e] at hz
      dsimp only at hz
      have := eucCol_none (w := w) rs p ⟨a2, a6⟩ (fun x hx => hr x (List.mem_cons_of_mem _ hx)) hz
      rw [this] at hz
      exact a5 hz
    · have h2 : vecL r j = 0 := Decidable.not_not.mp fun z => c (.inr z)
      have e : dvd2 j (vecL r j).natAbs h r = (h, r) := dvd2_end h2
      rw [e] at hz ⊢
      dsimp only at hz ⊢
      rw [eucCol_none rs h hh (fun x hx => hr x (List.mem_cons_of_mem _ hx)) hz]
/-- how many bits may stand in the end -/
def fB : Nat → Nat → Nat
  | 0, b => b
  | m + 1, b => fB m ((m + 1) * (b + 2))
theorem fB_ge : ∀ m b, b ≤ fB m b
  | 0, b => Nat.le_refl _
  | m + 1, b => by
    have := fB_ge m ((m + 1) * (b + 2))
    have e : (m + 1) * (b + 2) = m * (b + 2) + (b + 2) := Nat.succ_mul ..
    show b ≤ fB m ((m + 1) * (b + 2))
    omega
theorem fB_mono : ∀ m {a b}, a ≤ b → fB m a ≤ fB m b
  | 0, a, b, h => h
  | m + 1, a, b, h => fB_mono m (Nat.mul_le_mul_left _ (by omega))
theorem fB_row : ∀ {m n b}, m ≤ n → fB m b ≤ fB n b
  | m, 0, b, h => by
    rw [show m = 0 by omega]
    exact Nat.le_refl _
  | m, n + 1, b, h => by
    by_cases e : m = n + 1
    · rw [e]
      exact Nat.le_refl _
    · refine Nat.le_trans (fB_row (n := n) (by omega)) (fB_mono n ?_)
      have e : (n + 1) * (b + 2) = n * (b + 2) + (b + 2) := Nat.succ_mul ..
      omega
end TL
namespace TL
open PySem L2

/-! ### steps of a reading -/
local macro_rules | `(tactic| walk_at "hp") => `(tactic| first | assumption | exact upd_same | (refine (upd_ne (by first | assumption | (exact Ne.symm (by assumption)))).trans ?_; walk_at "hp"))
local macro_rules | `(tactic| walk_at "ok") => `(tactic| first | (exact Or.inr ⟨by decide, by decide⟩) | (exact ⟨by decide, by decide⟩) | (exact ⟨by decide, by decide, by decide⟩) | (show _ ≠ _; omega) | (show _ ≠ _; decide) | (exact Or.inl ⟨by omega, by omega⟩) | decide)
local macro_rules | `(tactic| walk_at "sq") => `(tactic| first | assumption | exact SqL.of (by walk_at "hp") | exact SqT.of (by walk_at "hp"))
local macro_rules | `(tactic| walk_at "ty") => `(tactic| first | refine ⟨_, _, Value.type "int", Value.type "list", false, rfl, ClsV.ty _, TyX.base (TyOf.int _), kt_int_list, ?_⟩ | refine ⟨_, _, Value.type "bool", Value.type "list", false, rfl, ClsV.ty _, TyX.base (TyOf.bl _), kt_bool_list, ?_⟩ | refine ⟨_, _, Value.type "str", Value.type "list", false, rfl, ClsV.ty _, TyX.base (TyOf.str _), kt_str_list, ?_⟩ | refine ⟨_, _, Value.type "NoneType", Value.type "list", false, rfl, ClsV.ty _, TyX.base TyOf.non, kt_NoneType_list, ?_⟩ | refine ⟨_, _, Value.type "list", Value.type "list", true, rfl, ClsV.ty _, tyx_L (by walk_at "sq"), kt_list_list, ?_⟩ | refine ⟨_, _, Value.type "tuple", Value.type "list", false, rfl, ClsV.ty _, tyx_T (by walk_at "sq"), kt_tuple_list, ?_⟩ | refine ⟨_, _, Value.type "int", Value.type "tuple", false, rfl, ClsV.ty _, TyX.base (TyOf.int _), kt_int_tuple, ?_⟩ | refine ⟨_, _, Value.type "bool", Value.type "tuple", false, rfl, ClsV.ty _, TyX.base (TyOf.bl _), kt_bool_tuple, ?_⟩ | refine ⟨_, _, Value.type "str", Value.type "tuple", false, rfl, ClsV.ty _, TyX.base (TyOf.str _), kt_str_tuple, ?_⟩ | refine ⟨_, _, Value.type "NoneType", Value.type "tuple", false, rfl, ClsV.ty _, TyX.base TyOf.non, kt_NoneType_tuple, ?_⟩ | refine ⟨_, _, Value.type "list", Value.type "tuple", false, rfl, ClsV.ty _, tyx_L (by walk_at "sq"), kt_list_tuple, ?_⟩ | refine ⟨_, _, Value.type "tuple", Value.type "tuple", true, rfl, ClsV.ty _, tyx_T (by walk_at "sq"), kt_tuple_tuple, ?_⟩ | refine ⟨_, _, Value.type "int", Value.type "bool", false, rfl, ClsV.ty _, TyX.base (TyOf.int _), kt_int_bool, ?_⟩ | refine ⟨_, _, Value.type "bool", Value.type "bool", true, rfl, ClsV.ty _, TyX.base (TyOf.bl _), kt_bool_bool, ?_⟩ | refine ⟨_, _, Value.type "str", Value.type "bool", false, rfl, ClsV.ty _, TyX.base (TyOf.str _), kt_str_bool, ?_⟩ | refine ⟨_, _, Value.type "NoneType", Value.type "bool", false, rfl, ClsV.ty _, TyX.base TyOf.non, kt_NoneType_bool, ?_⟩ | refine ⟨_, _, Value.type "list", Value.type "bool", false, rfl, ClsV.ty _, tyx_L (by walk_at "sq"), kt_list_bool, ?_⟩ | refine ⟨_, _, Value.type "tuple", Value.type "bool", false, rfl, ClsV.ty _, tyx_T (by walk_at "sq"), kt_tuple_bool, ?_⟩ | refine ⟨_, _, Value.type "int", Value.type "int", true, rfl, ClsV.ty _, TyX.base (TyOf.int _), kt_int_int, ?_⟩ | refine ⟨_, _, Value.type "bool", Value.type "int", true, rfl, ClsV.ty _, TyX.base (TyOf.bl _), kt_bool_int, ?_⟩ | refine ⟨_, _, Value.type "str", Value.type "int", false, rfl, ClsV.ty _, TyX.base (TyOf.str _), kt_str_int, ?_⟩ | refine ⟨_, _, Value.type "NoneType", Value.type "int", false, rfl, ClsV.ty _, TyX.base TyOf.non, kt_NoneType_int, ?_⟩ | refine ⟨_, _, Value.type "list", Value.type "int", false, rfl, ClsV.ty _, tyx_L (by walk_at "sq"), kt_list_int, ?_⟩ | refine ⟨_, _, Value.type "tuple", Value.type "int", false, rfl, ClsV.ty _, tyx_T (by walk_at "sq"), kt_tuple_int, ?_⟩ | refine ⟨_, _, Value.type "int", Value.type "str", false, rfl, ClsV.ty _, TyX.base (TyOf.int _), kt_int_str, ?_⟩ | refine ⟨_, _, Value.type "bool", Value.type "str", false, rfl, ClsV.ty _, TyX.base (TyOf.bl _), kt_bool_str, ?_⟩ | refine ⟨_, _, Value.type "str", Value.type "str", true, rfl, ClsV.ty _, TyX.base (TyOf.str _), kt_str_str, ?_⟩ | refine ⟨_, _, Value.type "NoneType", Value.type "str", false, rfl, ClsV.ty _, TyX.base TyOf.non, kt_NoneType_str, ?_⟩ | refine ⟨_, _, Value.type "list", Value.type "str", false, rfl, ClsV.ty _, tyx_L (by walk_at "sq"), kt_list_str, ?_⟩ | refine ⟨_, _, Value.type "tuple", Value.type "str", false, rfl, ClsV.ty _, tyx_T (by walk_at "sq"), kt_tuple_str, ?_⟩)
local macro_rules | `(tactic| walk_at "go1") => `(tactic| first
  | (refine ⟨_, rfl, ?_⟩)
  | (refine ⟨_, _, rfl, rfl, ?_⟩)
  | (refine ⟨_, _, _, _, rfl, rfl, SqL.of (by walk_at "hp"), rfl, ?_⟩)
  | (refine Or.inl ⟨_, rfl, ?_⟩)
  | (refine ⟨rfl, ?_⟩)
  | (refine ⟨_, _, rfl, .inl (SqL.of (by walk_at "hp")), ?_⟩)
  | (refine ⟨_, _, rfl, Or.inl (by assumption), ?_⟩)
  | (refine ⟨_, _, rfl, Or.inr (by assumption), ?_⟩)
  | (refine ⟨(by walk_at "ok"), ?_⟩)
  | (refine ⟨_, _, _, _, rfl, rfl, (by walk_at "hp"), rfl, ?_⟩))
local macro_rules | `(tactic| walk_at "go") => `(tactic| repeat (walk_at "go1"))
local macro_rules | `(tactic| walk_at "gt") => `(tactic| repeat (first | walk_at "go1" | walk_at "ty"))

section
variable {P : Program} {w : World} {K : PySem.W.Frag} {mg : Str → Option Value} {base : Heap}
-- [0=_law_lot_here, 1=_law_rest, 2=_law_found, 3=_law_j, 4=_law_i, 5=_law_n*, 6=_law_strip, 7=_law_x, 8=_law_y]
def colM (j : Nat) : List (List Int) → List (List Int)
  | [] => []
  | h :: rs => (eucCol j h rs).1 :: (eucCol j h rs).2
theorem euc_len {j : Nat} : ∀ (rs : List (List Int)) (h : List Int), (eucCol j h rs).2.length = rs.length
  | [], _ => rfl
  | r :: rs, h => by
    show ((dvd2 j (vecL r j).natAbs h r).2 :: (eucCol j (dvd2 j (vecL r j).natAbs h r).1 rs).2).length = _
    rw [List.length_cons, List.length_cons, euc_len rs]
theorem eucR_cons {k j : Nat} {h : List Int} {rs : List (List Int)} : eucR (k + 1) j (h :: rs) = if vecL (eucCol j h rs).1 j ≠ 0 then 1 + eucR k (j + 1) (eucCol j h rs).2 else eucR k (j + 1) ((eucCol j h rs).1 :: (eucCol j h rs).2) := rfl
theorem getMid {A B : List (List Int)} {x : List Int} {n : Nat} (h : n = A.length) : (A ++ x :: B).getD n [] = x := by
  subst h
  rw [List.getD_eq_getElem?_getD, List.getElem?_append_right (Nat.le_refl _), Nat.sub_self]
  rfl
theorem setMid {A B : List (List Int)} {x y : List Int} {n : Nat} (h : n = A.length) : (A ++ x :: B).set n y = A ++ y :: B := by
  subst h
  rw [List.set_append_right _ _ (Nat.le_refl _), Nat.sub_self]
  rfl
theorem eb_lt {e : Nat} {v : List Int} (h : EB (2 ^ e) v) : ∀ x ∈ v, x.natAbs < 2 ^ (e + 1) := fun x hx => by
  have a1 := h x hx
  have a2 : (2 : Nat) ^ (e + 1) = 2 ^ e * 2 := Nat.pow_succ ..
  have a3 : 0 < 2 ^ e := Nat.pow_pos (by decide)
  omega
def spLRank : Sp := fun vs H Q _ => ∃ (p : Addr) (M : List (List Int)) (wd b : Nat), vs = [.ref p] ∧ Mat H p M ∧ RowsW wd M ∧ M.length ≤ 10 ∧ wd ≤ 10 ∧ (∀ r ∈ M, EB (2 ^ b) r) ∧ fB M.length b ≤ 30000000 ∧ ∀ H', Same H H' → Q (.int (clrRank M : Int)) H'
theorem ok_lrank (T : Tx K mg) (hP : P.given.tree = none) : FnOk P w K mg base CX0 34 T.f_l_rank T.d_l_rank ["_law_lot_here"] spLRank := by
  refine T.F_l_rank.ok sc_l_rank (fun vs H Q E h => ?_) (fun cdv A outer s H vs Q E hr h => ?_)
  · obtain ⟨p, M, wd, b, rfl, _⟩ := h
    rfl
  obtain ⟨p, M, wd, b, rfl, hM, hw, hl, hwd, hb, hf, q⟩ := h
  have nd := sc_l_rank.nd
  obtain ⟨rs, h1, h2⟩ := hM.ex
  refine ⟨_, (pss_cons (ps_setLc (i := 1) (own := [("_law_strip", 6)]) (g := (gName 6)) rfl nd rfl rfl (sw_true rfl rfl rfl (by decide +kernel)) (show PI _ _ _ (iList K _) from pi_list (pv 0)) (blkOk_by (own := [("_law_strip", 6)]) (N := N_l_rank) (sc := defScope s_l_rank) (by decide +kernel)) (fun _ _ _ _ _ => by exact (pg_name (i := 6) nd rfl (Or.inl rfl))) (fun _ _ _ _ _ => by exact pts_nil) (fun _ _ _ _ _ => by exact (pe_callTy (show CallR _ _ (rListOf K) from call_list_of) (by rfl) T.z_list (by decide +kernel) (pa_cons (pv 6) pa_nil))))
    (pss_cons (ps_set (i := 2) nd rfl (Or.inl rfl) pe_int)
    (pss_cons (ps_for PassesOwn.never rfl (pi_range1 (by rfl) T.z_range (pa_cons (pe_ifExp (pt_truth (pv 1) (by intro _; rfl)) (pe_callB (show CallR _ _ (rLenSq K) from call_len_seq) (by rfl) T.z_len (by decide +kernel) (pa_cons (pe_ix (show IxR _ (rIxL K) from ix_list) (pv 1) pe_int (fun _ _ => rfl)) pa_nil)) pe_int) pa_nil)) (pg_name (i := 3) nd rfl (Or.inl rfl)) (pss_cut (ps_for PassesOwn.never rfl (pi_range2 (by rfl) T.z_range (pa_cons (pe_op op_add (pv 2) pe_int) (pa_cons (pe_callB (show CallR _ _ (rLenSq K) from call_len_seq) (by rfl) T.z_len (by decide +kernel) (pa_cons (pv 1) pa_nil)) pa_nil))) (pg_name (i := 4) nd rfl (Or.inl rfl)) (pss_one (ps_while PassesOwn.never (pt_cmpR op_ne (pe_ix (show IxR _ (rIxL K) from ix_list) (pe_ix (show IxR _ (rIxL K) from ix_list) (pv 1) (pv 4) (fun _ _ => rfl)) (pv 3) (fun _ _ => rfl)) pe_int (nomark _)) (pss_cons (ps_set (i := 5) nd rfl (Or.inr rfl) (pe_op (op_fdivB T.sees hP (roomB hr (by decide)) rfl rfl rfl) (pe_ix (show IxR _ (rIxL K) from ix_list) (pe_ix (show IxR _ (rIxL K) from ix_list) (pv 1) (pv 2) (fun _ _ => rfl)) (pv 3) (fun _ _ => rfl)) (pe_ix (show IxR _ (rIxL K) from ix_list) (pe_ix (show IxR _ (rIxL K) from ix_list) (pv 1) (pv 4) (fun _ _ => rfl)) (pv 3) (fun _ _ => rfl))))
    (pss_one (ps_asg (pe_tup (pa_cons (pe_ix (show IxR _ (rIxL K) from ix_list) (pv 1) (pv 4) (fun _ _ => rfl)) (pa_cons (pe_lc (own := [("_law_x", 7), ("_law_y", 8)]) (g := (gTup K 2 (gCons (gName 7) (gCons (gName 8) gNil)))) rfl nd (show PI _ _ _ (RZ.iZipA K _) from RZ.pi_zipA (by rfl) T.z_zip (pa_cons (pe_ix (show IxR _ (rIxL K) from ix_list) (pv 1) (pv 2) (fun _ _ => rfl)) (pa_cons (pe_ix (show IxR _ (rIxL K) from ix_list) (pv 1) (pv 4) (fun _ _ => rfl)) pa_nil))) (blkOk_by (own := [("_law_x", 7), ("_law_y", 8)]) (N := N_l_rank) (sc := defScope s_l_rank) (by decide +kernel)) (fun _ _ _ _ _ => by exact (pg_tup rfl (pgs_cons (pg_name (i := 7) nd rfl (Or.inl rfl)) (pgs_cons (pg_name (i := 8) nd rfl (Or.inl rfl)) pgs_nil)))) (fun _ _ _ _ _ => by exact pts_nil) (fun _ _ _ _ _ => by exact (pe_op op_sub (pv 7) (pe_op op_mulX (pv 5) (pv 8))))) pa_nil))) (pg_tup rfl (pgs_cons (pg_sub (pv 1) (pv 2) set_list) (pgs_cons (pg_sub (pv 1) (pv 4) set_list) pgs_nil)))))))))
    (pss_one (ps_if (PW.pt (pw_and (pt_cmpR op_lt (pv 2) (pe_callB (show CallR _ _ (rLenSq K) from call_len_seq) (by rfl) T.z_len (by decide +kernel) (pa_cons (pv 1) pa_nil)) (nomark _)) (pw_and1 (pt_cmpR op_ne (pe_ix (show IxR _ (rIxL K) from ix_list) (pe_ix (show IxR _ (rIxL K) from ix_list) (pv 1) (pv 2) (fun _ _ => rfl)) (pv 3) (fun _ _ => rfl)) pe_int (nomark _))))) (pss_one (ps_set (i := 2) nd rfl (Or.inl rfl) (pe_op op_add (pv 2) pe_int))) pss_nil))))
    (pss_one (ps_ret (pv 2)))))), ?_⟩
  refine ⟨_, rfl, p, rfl, ⟨rs, SqL.of h1⟩, fun D hD => ?_⟩
  refine lcsD (walk_list (K := K) (a := p) (xs := rs)) (fun i y H => ∃ t row, y = V.ref t ∧ t ≠ D ∧ M[i]? = some row ∧ H t = some (.lst (row.map V.int))) (fun i y H1 H2 s1 ⟨t, row, a1, a0, a2, a3⟩ => ⟨t, row, a1, a0, a2, s1 _ _ a3⟩)
    (fun i y H1 zs zs' hz' ⟨t, row, a1, a0, a2, a3⟩ => ⟨t, row, a1, a0, a2, by rw [upd_ne a0]; exact a3⟩) (by rw [h2.1]; omega) hD (fun H1 s1 => SqL.of (s1 _ _ h1)) ?_ fun ys H1 hyl hys s1 hD1 => ?_
  · rintro i x H1 H2 hi s1 ⟨zs, hz⟩ ⟨rfl, hx⟩ k hk
    obtain ⟨t, row, rfl, e2, e3⟩ := h2.2 i x hx
    refine ⟨rfl, ?_⟩
    exact ⟨_, rfl, t, row.map V.int, rfl, .inl (SqL.of (s1 _ _ e3)), fun p2 hp2 => hk _ _ (Same.new hp2) ⟨p2, row, rfl, (ne_of_none hz hp2).symm, e2, upd_same⟩⟩
  have m1 : MatL H1 ys M := ⟨by rw [hyl, h2.1], fun i r hr => by
    obtain ⟨t, row, a1, a0, a2, a3⟩ := hys i r hr
    exact ⟨t, row, a1, a2, a3⟩⟩
  clear hys hyl
  have wid : ∀ Qw : VK, Qw (.int (widthOf M : Int)) H1 → (tIf
      (fun σ H_1 Q => tVar 1 σ H_1 fun x H' => ∃ k, TruV K x H' k ∧ Q k H')
      (tCB (rLenSq K) (tCons (tOp (rIxL K) (tVar 1) (tC (V.int 0))) tNil)) (tC (V.int 0))) ([some (.ref p), some (.ref D), some (.int 0), none, none, none, none, none, none]) H1 Qw := fun Qw k => by
    refine ⟨_, rfl, !ys.isEmpty, .inl ⟨ys, SqL.of hD1, rfl⟩, ?_⟩
    refine ite2 (fun c => ?_) (fun c => ?_)
    · have h0 : 0 < M.length := by
        rw [← m1.1]
        cases ys with
        | nil => cases c
        | cons y ys => exact Nat.succ_pos _
      obtain ⟨t, g1, g2⟩ := m1.at h0
      refine ⟨_, rfl, _, _, _, _, rfl, rfl, SqL.of hD1, at_of (j := 0) rfl g1, t, _, rfl, .inl (SqL.of g2), ?_⟩
      rw [List.length_map]
      exact k
    · have h0 : M = [] := by
        have : ys = [] := by
          cases ys with
          | nil => rfl
          | cons y ys => exact absurd rfl c
        have := m1.1
        subst ys
        exact List.eq_nil_of_length_eq_zero this.symm
      subst h0
      exact k
  refine wid _ ?_
  clear wid
  have hww : widthOf M ≤ wd ∧ RowsW (widthOf M) M := by
    unfold widthOf
    cases M with
    | nil => exact ⟨Nat.zero_le _, fun row hr => by cases hr⟩
    | cons x xs =>
      have e : x.length = wd := hw x (List.mem_cons_self ..)
      exact ⟨Nat.le_of_eq e, fun row hr => (hw row hr).trans e.symm⟩
  have hrk := euc_rank hww.2
  generalize hW : widthOf M = W at *
  have hrows := hww.2
  refine ⟨_, rfl, by omega, by omega, for_range (lo := 0) (n := ((W : Nat) : Int).toNat) (fun j σ' H' => ∃ Pm R b, (∃ a3 a4 a5 a6 a7 a8, σ' = [some (.ref p), some (.ref D), some (.int (Pm.length : Int)), a3, a4, a5, a6, a7, a8]) ∧ Same H H' ∧ Mat H' D (Pm ++ R) ∧ (∀ r ∈ R, Low W j r) ∧ (∀ r ∈ R, EB (2 ^ b) r) ∧ fB R.length b ≤ 30000000 ∧ Pm.length + R.length = M.length ∧ Pm.length + eucR (W - j) j R = eucR W 0 M) ⟨[], M, b, ⟨_, _, _, _, _, _, rfl⟩, s1, ⟨ys, hD1, m1⟩, fun r hr => ⟨hrows r hr, fun i hi => by omega⟩, hb, hf, by rw [List.length_nil]; omega, by rw [List.length_nil]; show 0 + eucR W 0 M = _; omega⟩ ?_ ?_⟩
  · clear hD1 m1 s1 hf hb
    rintro j σ' H2 hj ⟨Pm, R, b, ⟨a3, a4, a5, a6, a7, a8, rfl⟩, s2, hM2, hlow, hb, hf, hlen, heuc⟩
    have e0 : (0 : Int) + (j : Int) = (j : Int) := by omega
    rw [e0]
    refine ⟨fun σ' H' => (∃ a4 a5 a6 a7 a8, σ' = [some (.ref p), some (.ref D), some (.int (Pm.length : Int)), some (.int (j : Int)), a4, a5, a6, a7, a8]) ∧ Same H H' ∧ Mat H' D (Pm ++ colM j R) ∧ ∀ r ∈ colM j R, EB (2 ^ (b + (R.length - 1) * (b + 2))) r, ?_, ?_⟩
    · obtain ⟨rs2, g1, g2⟩ := hM2.ex
      have hl2 : rs2.length = Pm.length + R.length := by rw [g2.1, List.length_append]
      refine ⟨_, rfl, _, _, rfl, rfl, _, rfl, D, rs2, rfl, .inl (SqL.of g1), (Pm.length : Int) + 1, (rs2.length : Int), rfl, ⟨by omega, by omega, by omega, by omega⟩, ?_⟩
      cases R with
      | nil =>
        refine for_range (lo := (Pm.length : Int) + 1) (n := ((rs2.length : Int) - ((Pm.length : Int) + 1)).toNat) (fun t σ' H' => σ' = [some (.ref p), some (.ref D), some (.int (Pm.length : Int)), some (.int (j : Int)), a4, a5, a6, a7, a8] ∧ H' = H2) ⟨rfl, rfl⟩ (fun t σ' H' ht _ => ?_) ?_
        · rw [List.length_nil] at hl2
          omega
        · rintro σ' H' ⟨rfl, rfl⟩
          exact ⟨⟨_, _, _, _, _, rfl⟩, s2, ⟨rs2, g1, g2⟩, fun r hr => (by cases hr)⟩
      | cons h0 rs0 =>
        rw [List.length_cons] at hl2 hlen hf
        have lh0 := hlow h0 (List.mem_cons_self ..)
        refine for_range (lo := (Pm.length : Int) + 1) (n := ((rs2.length : Int) - ((Pm.length : Int) + 1)).toNat) (fun t σ' H' => ∃ hd dn, (∃ a4 a5 a6 a7 a8, σ' = [some (.ref p), some (.ref D), some (.int (Pm.length : Int)), some (.int (j : Int)), a4, a5, a6, a7, a8]) ∧ Same H H' ∧ Mat H' D (Pm ++ hd :: (dn ++ rs0.drop t)) ∧ dn.length = t ∧ hd.length = W ∧ eucCol j h0 rs0 = ((eucCol j hd (rs0.drop t)).1, dn ++ (eucCol j hd (rs0.drop t)).2) ∧ EB (2 ^ (b + t * (b + 2))) hd ∧ ∀ r ∈ dn, EB (2 ^ (b + t * (b + 2))) r) ⟨h0, [], ⟨_, _, _, _, _, rfl⟩, s2, ⟨rs2, g1, g2⟩, rfl, lh0.1, rfl, by rw [Nat.zero_mul]; exact hb h0 (List.mem_cons_self ..), fun r hr => (by cases hr)⟩ ?_ ?_
        · clear g1 g2 hM2 s2
          rintro t σ' H3 ht ⟨hd, dn, ⟨a4, a5, a6, a7, a8, rfl⟩, s3, hM3, hdn, hhd, hec, hbh, hbd⟩
          have htk : t < rs0.length := by omega
          have edr : rs0.drop t = rs0[t] :: rs0.drop (t + 1) := List.drop_eq_getElem_cons htk
          have hrm : rs0[t] ∈ rs0 := List.getElem_mem htk
          have hrl : rs0[t].length = W := (hlow _ (List.mem_cons_of_mem _ hrm)).1
          have hrb : EB (2 ^ b) rs0[t] := hb _ (List.mem_cons_of_mem _ hrm)
          rw [edr] at hM3 hec
          generalize rs0[t] = r at *
          generalize rs0.drop (t + 1) = tl at *
          have eI : (Pm.length : Int) + 1 + (t : Int) = ((Pm.length + 1 + t : Nat) : Int) := by omega
          rw [eI]
          have hpb := PBs.start (l := j) hbh hrb (Nat.le_add_right _ _)
          have ee : b + t * (b + 2) + (b + 2) ≤ 30000000 := by
            have k1 := fB_ge rs0.length ((rs0.length + 1) * (b + 2))
            have k2 : fB rs0.length ((rs0.length + 1) * (b + 2)) ≤ 30000000 := hf
            have k3 : (t + 1) * (b + 2) ≤ rs0.length * (b + 2) := Nat.mul_le_mul_right _ (by omega)
            have k4 : (t + 1) * (b + 2) = t * (b + 2) + (b + 2) := Nat.succ_mul ..
            have k5 : (rs0.length + 1) * (b + 2) = rs0.length * (b + 2) + (b + 2) := Nat.succ_mul ..
            omega
          have e4 : (t + 1) * (b + 2) = t * (b + 2) + (b + 2) := Nat.succ_mul ..
          have e5 : b + t * (b + 2) + (b + 2) = b + (t + 1) * (b + 2) := by omega
          generalize b + t * (b + 2) + (b + 2) = e at *
          have hfin : ∀ row vec (σ' : L2.St) H', (∃ a5 a6 a7 a8, σ' = [some (.ref p), some (.ref D), some (.int (Pm.length : Int)), some (.int (j : Int)), some (.int ((Pm.length + 1 + t : Nat) : Int)), a5, a6, a7, a8]) → Same H H' → Mat H' D (Pm ++ row :: (dn ++ vec :: tl)) → row.length = W → PBs j (2 ^ e) row vec → dvd2 j (vecL vec j).natAbs row vec = dvd2 j (vecL r j).natAbs hd r → vecL vec j = 0 →
              ∃ hd dn, (∃ a4 a5 a6 a7 a8, σ' = [some (.ref p), some (.ref D), some (.int (Pm.length : Int)), some (.int (j : Int)), a4, a5, a6, a7, a8]) ∧ Same H H' ∧ Mat H' D (Pm ++ hd :: (dn ++ tl)) ∧ dn.length = t + 1 ∧ hd.length = W ∧ eucCol j h0 rs0 = ((eucCol j hd tl).1, dn ++ (eucCol j hd tl).2) ∧ EB (2 ^ (b + (t + 1) * (b + 2))) hd ∧ ∀ r ∈ dn, EB (2 ^ (b + (t + 1) * (b + 2))) r := by
            rintro row vec σ' H' ⟨a5, a6, a7, a8, rfl⟩ s4 hM4 hrow hp hdv hz
            rw [dvd2_end hz] at hdv
            refine ⟨row, dn ++ [vec], ⟨_, _, _, _, _, rfl⟩, s4, by rw [List.append_assoc]; exact hM4, by rw [List.length_append, hdn]; rfl, hrow, ?_, by rw [← e5]; exact hp.eb.1, fun x hx => ?_⟩
            · rw [hec]
              have : eucCol j hd (r :: tl) = ((eucCol j row tl).1, vec :: (eucCol j row tl).2) := by
                show ((eucCol j (dvd2 j (vecL r j).natAbs hd r).1 tl).1, (dvd2 j (vecL r j).natAbs hd r).2 :: (eucCol j (dvd2 j (vecL r j).natAbs hd r).1 tl).2) = _
                rw [← hdv]
              rw [this]
              show _ = (_, (dn ++ [vec]) ++ _)
              rw [List.append_assoc]
              rfl
            · rw [← e5]
              rcases List.mem_append.mp hx with hx | hx
              · refine (hbd x hx).le (Nat.pow_le_pow_right (by decide) (by omega))
              · rw [List.mem_singleton.mp hx]
                exact hp.eb.2
          refine ⟨fun m σ' H' => ∃ row vec, m = (vecL vec j).natAbs ∧ (∃ a5 a6 a7 a8, σ' = [some (.ref p), some (.ref D), some (.int (Pm.length : Int)), some (.int (j : Int)), some (.int ((Pm.length + 1 + t : Nat) : Int)), a5, a6, a7, a8]) ∧ Same H H' ∧ Mat H' D (Pm ++ row :: (dn ++ vec :: tl)) ∧ row.length = W ∧ vec.length = W ∧ PBs j (2 ^ e) row vec ∧ dvd2 j (vecL vec j).natAbs row vec = dvd2 j (vecL r j).natAbs hd r, ⟨_, hd, r, rfl, ⟨_, _, _, _, rfl⟩, s3, hM3, hhd, hrl, hpb, rfl⟩, ?_⟩
          clear hM3 s3 hpb hbh hhd a4 a5 a6 a7 a8
          rintro m σ' H4 ⟨row, vec, rfl, ⟨a5, a6, a7, a8, rfl⟩, s4, hM4, hrow, hvec, hp, hdv⟩
          obtain ⟨rs4, g1, g2⟩ := hM4.ex
          have eA : Pm ++ row :: (dn ++ vec :: tl) = (Pm ++ row :: dn) ++ vec :: tl := by simp
          have lA : (Pm ++ row :: dn).length = Pm.length + 1 + t := by rw [List.length_append, List.length_cons, hdn]; omega
          have lM : (Pm ++ row :: (dn ++ vec :: tl)).length = Pm.length + 1 + t + 1 + tl.length := by rw [eA, List.length_append, lA, List.length_cons]; omega
          obtain ⟨tv, v1, v2⟩ := g2.at (i := Pm.length + 1 + t) (by omega)
          obtain ⟨tr, r1, r2⟩ := g2.at (i := Pm.length) (by omega)
          rw [getMid rfl] at r2
          have ev : (Pm ++ row :: (dn ++ vec :: tl)).getD (Pm.length + 1 + t) [] = vec := by rw [eA, getMid lA.symm]
          rw [ev] at v2
          have hjW : j < W := by omega
          refine ⟨_, rfl, _, rfl, _, _, _, _, rfl, rfl, SqL.of g1, at_of (j := Pm.length + 1 + t) rfl v1, _, rfl, _, _, _, _, rfl, rfl, SqL.of v2, at_of (j := j) rfl (getD_map (by omega)), rfl, ?_⟩
          by_cases hz : vecL vec j = 0
          · refine ⟨false, congrArg V.bl (by rw [decide_eq_true (show V.int (vec.getD j 0) = V.int 0 from congrArg V.int hz)]; rfl), ?_⟩
            exact hfin row vec _ H4 ⟨_, _, _, _, rfl⟩ s4 hM4 hrow hp hdv hz
          · refine ⟨true, congrArg V.bl (by rw [decide_eq_false (fun z : V.int (vec.getD j 0) = V.int 0 => hz (by injection z))]; rfl), ?_⟩
            refine ⟨fun σ' H' => ∃ row vec', (vecL vec' j).natAbs < (vecL vec j).natAbs ∧ (∃ a5 a6 a7 a8, σ' = [some (.ref p), some (.ref D), some (.int (Pm.length : Int)), some (.int (j : Int)), some (.int ((Pm.length + 1 + t : Nat) : Int)), a5, a6, a7, a8]) ∧ Same H H' ∧ Mat H' D (Pm ++ row :: (dn ++ vec' :: tl)) ∧ row.length = W ∧ vec'.length = W ∧ PBs j (2 ^ e) row vec' ∧ dvd2 j (vecL vec' j).natAbs row vec' = dvd2 j (vecL r j).natAbs hd r, fun σ' H' ⟨row', vec', h1, h2⟩ => ⟨_, h1, row', vec', rfl, h2⟩, ?_⟩
            have vz : vec.getD j 0 ≠ 0 := hz
            refine ⟨_, rfl, _, rfl, _, _, _, _, rfl, rfl, SqL.of g1, at_of (j := Pm.length) rfl r1, _, rfl, _, _, _, _, rfl, rfl, SqL.of r2, at_of (j := j) rfl (getD_map (by omega)), ?_⟩
            refine ⟨_, rfl, _, rfl, _, _, _, _, rfl, rfl, SqL.of g1, at_of (j := Pm.length + 1 + t) rfl v1, _, rfl, _, _, _, _, rfl, rfl, SqL.of v2, at_of (j := j) rfl (getD_map (by omega)), _, _, rfl, rfl, vz, ?_⟩
            have hnq := fdiv_abs (a := row.getD j 0) vz
            have hstep := hp.step (hrow.trans hvec.symm) hz
            have hdst := dvd2_step (hrow.trans hvec.symm) hz
            have hlt := dvd2_lt (hrow.trans hvec.symm) hz
            have hll := less_len (v := row) (r := vec) (t := (vecL row j).fdiv (vecL vec j)) (hrow.trans hvec.symm)
            have hra : (row.getD j 0).natAbs ≤ 2 ^ e := hp.eb.1.at j
            have hvb := eb_lt hp.eb.2
            have hqb : ((row.getD j 0).fdiv (vec.getD j 0)).natAbs < 2 ^ (e + 2) := by
              have a2 : (2 : Nat) ^ (e + 2) = 2 ^ e * 4 := by rw [Nat.pow_add]
              have a3 : 0 < 2 ^ e := Nat.pow_pos (by decide)
              omega
            have elq : List.zipWith (fun u v => u - (row.getD j 0).fdiv (vec.getD j 0) * v) row vec = lessL row ((vecL row j).fdiv (vecL vec j)) vec := rfl
            refine ⟨_, rfl, _, rfl, _, _, _, _, rfl, rfl, SqL.of g1, at_of (j := Pm.length + 1 + t) rfl v1, _, rfl, _, rfl, _, _, _, _, rfl, rfl, SqL.of g1, at_of (j := Pm.length) rfl r1, _, rfl, _, rfl, _, _, _, _, rfl, rfl, SqL.of g1, at_of (j := Pm.length + 1 + t) rfl v1, tr, tv, _, _, rfl, .inl ⟨SqL.of r2, SqL.of v2, fun D2 hD2 => ?_⟩⟩
            refine lc_zipLS (f := fun u v => u - (row.getD j 0).fdiv (vec.getD j 0) * v) (SqL.of r2) (SqL.of v2) (by omega) (by omega) hD2 (fun u v => rfl) (fun u v H5 kk s5 hu hv hkk => ?_) fun H5 s5 hD5 => ?_
            · refine ⟨_, rfl, _, rfl, _, rfl, _, _, rfl, rfl, ?_, _, _, rfl, rfl, hkk⟩
              exact mulx_ok hqb (hvb v hv) (by omega)
            · rw [elq] at hD5
              generalize hnew : lessL row ((vecL row j).fdiv (vecL vec j)) vec = new at *
              refine ⟨(by show 2 ≤ sizeLine; decide), fun tt htt => ?_⟩
              have s6 := s5.trans (Same.new (o := .tup [.ref tv, .ref D2]) htt)
              have hD6 := Same.new (o := .tup [.ref tv, .ref D2]) htt _ _ hD5
              have htt6 : (upd H5 tt (.tup [.ref tv, .ref D2])) tt = some (.tup [.ref tv, .ref D2]) := upd_same
              generalize upd H5 tt (.tup [.ref tv, .ref D2]) = H6 at *
              refine ⟨tt, _, rfl, SqT.of htt6, rfl, _, _, rfl, ?_⟩
              refine ⟨_, rfl, _, rfl, D, _, _, Pm.length, rfl, rfl, s6 _ _ g1, ixN_at (by rw [g2.1]; omega), _, _, rfl, ?_⟩
              refine ⟨_, rfl, _, rfl, D, _, _, Pm.length + 1 + t, rfl, rfl, upd_same, ixN_at (by rw [List.length_set, g2.1]; omega), rfl, ?_⟩
              have g6 := g2.same s6
              have g61 := s6 _ _ g1
              have x1 := g6.set (k := Pm.length) (s6 _ _ v2)
              have y1 := x1.set (k := Pm.length + 1 + t) hD6
              have eM : ((Pm ++ row :: (dn ++ vec :: tl)).set Pm.length vec).set (Pm.length + 1 + t) new = Pm ++ vec :: (dn ++ new :: tl) := by
                rw [setMid rfl, show Pm ++ vec :: (dn ++ vec :: tl) = (Pm ++ vec :: dn) ++ vec :: tl by simp, setMid (by rw [List.length_append, List.length_cons, hdn]; omega)]
                simp
              rw [eM] at y1
              have n0 : 0 < (Pm ++ row :: (dn ++ vec :: tl)).length := by omega
              refine ⟨vec, new, hlt, ⟨_, _, _, _, rfl⟩, ((s4.trans s6).upd_new hD).upd_new hD, ⟨_, upd_same, ?_⟩, hvec, hll.trans hrow, hstep, ?_⟩
              · exact (y1.upd g6 g61 n0).upd (x1.upd g6 g61 n0) upd_same (by rw [List.length_set]; exact n0)
              · rw [← hdst]
                exact hdv
        · rintro σ' H3 ⟨hd, dn, ⟨a4, a5, a6, a7, a8, rfl⟩, s3, hM3, hdn, hhd, hec, hbh, hbd⟩
          have et : ((rs2.length : Int) - ((Pm.length : Int) + 1)).toNat = rs0.length := by omega
          rw [et] at hM3 hec hbh hbd
          rw [List.drop_length] at hM3 hec
          have ec : colM j (h0 :: rs0) = hd :: dn := by
            show (eucCol j h0 rs0).1 :: (eucCol j h0 rs0).2 = _
            rw [hec]
            show hd :: (dn ++ []) = _
            rw [List.append_nil]
          rw [ec]
          rw [List.append_nil] at hM3
          refine ⟨⟨_, _, _, _, _, rfl⟩, s3, hM3, fun r hr => ?_⟩
          rcases List.mem_cons.mp hr with rfl | hr
          · exact hbh
          · exact hbd r hr
    · rintro σ' H3 ⟨⟨a4, a5, a6, a7, a8, rfl⟩, s3, hM3, hbc⟩
      obtain ⟨rs3, g1, g2⟩ := hM3.ex
      have hjW : j < W := by omega
      cases R with
      | nil =>
        have hl3 : rs3.length = Pm.length := by rw [g2.1]; show (Pm ++ []).length = _; rw [List.append_nil]
        refine ⟨_, rfl, _, rfl, D, rs3, rfl, .inl (SqL.of g1), _, _, rfl, rfl, _, rfl, ?_⟩
        refine iteF' (decide_eq_false (by omega)) ?_
        refine iteF' (c := false) rfl ?_
        refine ⟨Pm, [], b, ⟨_, _, _, _, _, _, rfl⟩, s3, ⟨rs3, g1, g2⟩, fun r hr => (by cases hr), fun r hr => (by cases hr), hf, hlen, ?_⟩
        have e1 : ∀ k j', eucR k j' [] = 0 := fun k j' => by cases k <;> rfl
        rw [e1] at heuc ⊢
        exact heuc
      | cons h0 rs0 =>
        have ec : colM j (h0 :: rs0) = (eucCol j h0 rs0).1 :: (eucCol j h0 rs0).2 := rfl
        obtain ⟨l1, l2, _⟩ := eucCol_ok (w := W) rs0 h0 (hlow _ (List.mem_cons_self ..)) (fun x hx => hlow x (List.mem_cons_of_mem _ hx))
        have lw0 := hlow _ (List.mem_cons_self ..)
        have hlr : ∀ r ∈ rs0, Low W j r := fun x hx => hlow x (List.mem_cons_of_mem _ hx)
        have ecl : (eucCol j h0 rs0).2.length = rs0.length := euc_len rs0 h0
        rw [ec] at hM3 g2 hbc
        have hl3 : rs3.length = Pm.length + (1 + rs0.length) := by rw [g2.1, List.length_append, List.length_cons, ecl]; omega
        obtain ⟨tr, r1, r2⟩ := g2.at (i := Pm.length) (by rw [List.length_append, List.length_cons]; omega)
        rw [getMid rfl] at r2
        have hcl : (eucCol j h0 rs0).1.length = W := l1.1
        refine ⟨_, rfl, _, rfl, D, rs3, rfl, .inl (SqL.of g1), _, _, rfl, rfl, _, rfl, ?_⟩
        refine iteT' (decide_eq_true (by omega)) ?_
        refine ⟨_, rfl, _, rfl, _, _, _, _, rfl, rfl, SqL.of g1, at_of (j := Pm.length) rfl r1, _, rfl, _, _, _, _, rfl, rfl, SqL.of r2, at_of (j := j) rfl (getD_map (by omega)), rfl, _, rfl, ?_⟩
        have eW : W - j = (W - (j + 1)) + 1 := by omega
        rw [eW] at heuc
        refine ite2 (fun c => ?_) (fun c => ?_)
        · have c' : vecL (eucCol j h0 rs0).1 j ≠ 0 := ne_zero c
          refine ⟨_, rfl, _, _, rfl, rfl, ?_⟩
          refine ⟨Pm ++ [(eucCol j h0 rs0).1], (eucCol j h0 rs0).2, b + rs0.length * (b + 2), ⟨_, _, _, _, _, _, by rw [List.length_append]; rfl⟩, s3, by rw [List.append_assoc]; exact hM3, l2, fun r hr => hbc r (List.mem_cons_of_mem _ hr), ?_, ?_, ?_⟩
          · rw [ecl]
            refine Nat.le_trans (fB_mono _ ?_) (show fB rs0.length ((rs0.length + 1) * (b + 2)) ≤ _ from hf)
            have k5 : (rs0.length + 1) * (b + 2) = rs0.length * (b + 2) + (b + 2) := Nat.succ_mul ..
            omega
          · rw [List.length_append, ecl, ← hlen]
            show Pm.length + 1 + rs0.length = Pm.length + (rs0.length + 1)
            omega
          · have := heuc
            rw [eucR_cons, if_pos c'] at this
            rw [List.length_append]
            show Pm.length + 1 + _ = _
            omega
        · have c' : vecL (eucCol j h0 rs0).1 j = 0 := Decidable.not_not.mp (eq_zero c)
          have en := eucCol_none rs0 h0 lw0 hlr c'
          rw [en] at hM3 l2 c'
          refine ⟨Pm, h0 :: rs0, b, ⟨_, _, _, _, _, _, rfl⟩, s3, hM3, fun r hr => ?_, hb, hf, hlen, ?_⟩
          · rcases List.mem_cons.mp hr with rfl | hr
            · refine ⟨lw0.1, fun i hi => ?_⟩
              rcases Nat.lt_or_ge i j with z | z
              · exact lw0.2 i z
              · rw [show i = j by omega]
                exact c'
            · exact l2 r hr
          · have := heuc
            rw [eucR_cons, en, if_neg (fun z => z c')] at this
            exact this
  · rintro σ' H2 ⟨Pm, R, b, ⟨a3, a4, a5, a6, a7, a8, rfl⟩, s2, hM2, hlow, hb, hf, hlen, heuc⟩
    rw [show ((W : Nat) : Int).toNat = W from Int.toNat_natCast W, Nat.sub_self] at heuc
    have e1 : eucR 0 W R = 0 := by unfold eucR; rfl
    rw [e1, Nat.add_zero, ← hrk] at heuc
    refine ⟨_, rfl, ?_⟩
    rw [heuc]
    exact q H2 s2
end
end TL
namespace TL
open PySem L2

/-! ### steps of a reading -/
local macro_rules | `(tactic| walk_at "hp") => `(tactic| first | assumption | exact upd_same | (refine (upd_ne (by first | assumption | (exact Ne.symm (by assumption)))).trans ?_; walk_at "hp"))
local macro_rules | `(tactic| walk_at "ok") => `(tactic| first | (exact Or.inr ⟨by decide, by decide⟩) | (exact ⟨by decide, by decide⟩) | (exact ⟨by decide, by decide, by decide⟩) | (show _ ≠ _; omega) | (show _ ≠ _; decide) | (exact Or.inl ⟨by omega, by omega⟩) | decide)
local macro_rules | `(tactic| walk_at "sq") => `(tactic| first | assumption | exact SqL.of (by walk_at "hp") | exact SqT.of (by walk_at "hp"))
local macro_rules | `(tactic| walk_at "ty") => `(tactic| first | refine ⟨_, _, Value.type "int", Value.type "list", false, rfl, ClsV.ty _, TyX.base (TyOf.int _), kt_int_list, ?_⟩ | refine ⟨_, _, Value.type "bool", Value.type "list", false, rfl, ClsV.ty _, TyX.base (TyOf.bl _), kt_bool_list, ?_⟩ | refine ⟨_, _, Value.type "str", Value.type "list", false, rfl, ClsV.ty _, TyX.base (TyOf.str _), kt_str_list, ?_⟩ | refine ⟨_, _, Value.type "NoneType", Value.type "list", false, rfl, ClsV.ty _, TyX.base TyOf.non, kt_NoneType_list, ?_⟩ | refine ⟨_, _, Value.type "list", Value.type "list", true, rfl, ClsV.ty _, tyx_L (by walk_at "sq"), kt_list_list, ?_⟩ | refine ⟨_, _, Value.type "tuple", Value.type "list", false, rfl, ClsV.ty _, tyx_T (by walk_at "sq"), kt_tuple_list, ?_⟩ | refine ⟨_, _, Value.type "int", Value.type "tuple", false, rfl, ClsV.ty _, TyX.base (TyOf.int _), kt_int_tuple, ?_⟩ | refine ⟨_, _, Value.type "bool", Value.type "tuple", false, rfl, ClsV.ty _, TyX.base (TyOf.bl _), kt_bool_tuple, ?_⟩ | refine ⟨_, _, Value.type "str", Value.type "tuple", false, rfl, ClsV.ty _, TyX.base (TyOf.str _), kt_str_tuple, ?_⟩ | refine ⟨_, _, Value.type "NoneType", Value.type "tuple", false, rfl, ClsV.ty _, TyX.base TyOf.non, kt_NoneType_tuple, ?_⟩ | refine ⟨_, _, Value.type "list", Value.type "tuple", false, rfl, ClsV.ty _, tyx_L (by walk_at "sq"), kt_list_tuple, ?_⟩ | refine ⟨_, _, Value.type "tuple", Value.type "tuple", true, rfl, ClsV.ty _, tyx_T (by walk_at "sq"), kt_tuple_tuple, ?_⟩ | refine ⟨_, _, Value.type "int", Value.type "bool", false, rfl, ClsV.ty _, TyX.base (TyOf.int _), kt_int_bool, ?_⟩ | refine ⟨_, _, Value.type "bool", Value.type "bool", true, rfl, ClsV.ty _, TyX.base (TyOf.bl _), kt_bool_bool, ?_⟩ | refine ⟨_, _, Value.type "str", Value.type "bool", false, rfl, ClsV.ty _, TyX.base (TyOf.str _), kt_str_bool, ?_⟩ | refine ⟨_, _, Value.type "NoneType", Value.type "bool", false, rfl, ClsV.ty _, TyX.base TyOf.non, kt_NoneType_bool, ?_⟩ | refine ⟨_, _, Value.type "list", Value.type "bool", false, rfl, ClsV.ty _, tyx_L (by walk_at "sq"), kt_list_bool, ?_⟩ | refine ⟨_, _, Value.type "tuple", Value.type "bool", false, rfl, ClsV.ty _, tyx_T (by walk_at "sq"), kt_tuple_bool, ?_⟩ | refine ⟨_, _, Value.type "int", Value.type "int", true, rfl, ClsV.ty _, TyX.base (TyOf.int _), kt_int_int, ?_⟩ | refine ⟨_, _, Value.type "bool", Value.type "int", true, rfl, ClsV.ty _, TyX.base (TyOf.bl _), kt_bool_int, ?_⟩ | refine ⟨_, _, Value.type "str", Value.type "int", false, rfl, ClsV.ty _, TyX.base (TyOf.str _), kt_str_int, ?_⟩ | refine ⟨_, _, Value.type "NoneType", Value.type "int", false, rfl, ClsV.ty _, TyX.base TyOf.non, kt_NoneType_int, ?_⟩ | refine ⟨_, _, Value.type "list", Value.type "int", false, rfl, ClsV.ty _, tyx_L (by walk_at "sq"), kt_list_int, ?_⟩ | refine ⟨_, _, Value.type "tuple", Value.type "int", false, rfl, ClsV.ty _, tyx_T (by walk_at "sq"), kt_tuple_int, ?_⟩ | refine ⟨_, _, Value.type "int", Value.type "str", false, rfl, ClsV.ty _, TyX.base (TyOf.int _), kt_int_str, ?_⟩ | refine ⟨_, _, Value.type "bool", Value.type "str", false, rfl, ClsV.ty _, TyX.base (TyOf.bl _), kt_bool_str, ?_⟩ | refine ⟨_, _, Value.type "str", Value.type "str", true, rfl, ClsV.ty _, TyX.base (TyOf.str _), kt_str_str, ?_⟩ | refine ⟨_, _, Value.type "NoneType", Value.type "str", false, rfl, ClsV.ty _, TyX.base TyOf.non, kt_NoneType_str, ?_⟩ | refine ⟨_, _, Value.type "list", Value.type "str", false, rfl, ClsV.ty _, tyx_L (by walk_at "sq"), kt_list_str, ?_⟩ | refine ⟨_, _, Value.type "tuple", Value.type "str", false, rfl, ClsV.ty _, tyx_T (by walk_at "sq"), kt_tuple_str, ?_⟩)
local macro_rules | `(tactic| walk_at "go1") => `(tactic| first
  | (refine ⟨_, rfl, ?_⟩)
  | (refine ⟨_, _, rfl, rfl, ?_⟩)
  | (refine ⟨_, _, _, _, rfl, rfl, SqL.of (by walk_at "hp"), rfl, ?_⟩)
  | (refine Or.inl ⟨_, rfl, ?_⟩)
  | (refine ⟨rfl, ?_⟩)
  | (refine ⟨_, _, rfl, .inl (SqL.of (by walk_at "hp")), ?_⟩)
  | (refine ⟨_, _, rfl, Or.inl (by assumption), ?_⟩)
  | (refine ⟨_, _, rfl, Or.inr (by assumption), ?_⟩)
  | (refine ⟨(by walk_at "ok"), ?_⟩)
  | (refine ⟨_, _, _, _, rfl, rfl, (by walk_at "hp"), rfl, ?_⟩))
local macro_rules | `(tactic| walk_at "go") => `(tactic| repeat (walk_at "go1"))
local macro_rules | `(tactic| walk_at "gt") => `(tactic| repeat (first | walk_at "go1" | walk_at "ty"))

section
variable {P : Program} {w : World} {K : PySem.W.Frag} {mg : Str → Option Value} {base : Heap}
-- [0=_law_bag_here*, 1=_law_high, 2=_law_wide, 3=_law_size*, 4=_law_thin*, 5=_law_found, 6=_law_j, 7=_law_kind, 8=_law_a, 9=_law_b, 10=_law_n*, 11=_law_m*, 12=_law_x, 13=_law_y, 14=_law_turn]
theorem ints_of {R : Int → Prop} : ∀ ys : List V, (∀ y ∈ ys, ∃ d, y = V.int d ∧ R d) → ∃ ns : List Int, ys = ns.map V.int ∧ ns.length = ys.length ∧ ∀ d ∈ ns, R d
  | [], _ => ⟨[], rfl, rfl, fun d h => by cases h⟩
  | y :: ys, h => by
    obtain ⟨d, rfl, hd⟩ := h y List.mem_cons_self
    obtain ⟨ns, rfl, h2, h3⟩ := ints_of ys fun z hz => h z (List.mem_cons_of_mem _ hz)
    refine ⟨d :: ns, rfl, by rw [List.length_cons, List.length_cons, h2], fun e he => ?_⟩
    rcases List.mem_cons.mp he with rfl | he
    · exact hd
    · exact h3 e he
/-- a drawn row -/
def RowOk (B : Bg) (H0 : Hp) (wd bd : Nat) (H : Hp) (r : V) : Prop := ∃ t row, r = V.ref t ∧ H t = some (.lst (row.map V.int)) ∧ t ≠ B.b ∧ H0 t = none ∧ row.length = wd ∧ EB bd row
theorem RowOk.kb {B : Bg} {H0 : Hp} {wd bd : Nat} {H H' : Hp} {r : V} (h : RowOk B H0 wd bd H r) (k : Kb B.b H H') : RowOk B H0 wd bd H' r := by
  obtain ⟨t, row, a1, a2, a3, a4, a5, a6⟩ := h
  exact ⟨t, row, a1, k _ _ a2 a3, a3, a4, a5, a6⟩
theorem RowOk.le {B : Bg} {H0 : Hp} {wd bd bd' : Nat} {H : Hp} {r : V} (h : RowOk B H0 wd bd H r) (k : bd ≤ bd') : RowOk B H0 wd bd' H r := by
  obtain ⟨t, row, a1, a2, a3, a4, a5, a6⟩ := h
  exact ⟨t, row, a1, a2, a3, a4, a5, a6.le k⟩
theorem RowOk.mat {B : Bg} {H0 : Hp} {wd bd : Nat} {H : Hp} : ∀ {rs : List V}, (∀ r ∈ rs, RowOk B H0 wd bd H r) → ∃ M, MatL H rs M ∧ RowsW wd M ∧ ∀ row ∈ M, EB bd row
  | [], _ => ⟨[], ⟨rfl, fun i r h => by cases h⟩, fun r h => (by cases h), fun r h => (by cases h)⟩
  | r :: rs, h => by
    obtain ⟨M, ⟨m1, m2⟩, m3, m4⟩ := RowOk.mat fun x hx => h x (List.mem_cons_of_mem r hx)
    obtain ⟨t, row, a1, a2, a3, a4, a5, a6⟩ := h r List.mem_cons_self
    refine ⟨row :: M, ⟨by rw [List.length_cons, List.length_cons, m1], fun i x hx => ?_⟩, fun y hy => ?_, fun y hy => ?_⟩
    · cases i with
      | zero =>
        cases hx
        exact ⟨t, row, a1, rfl, a2⟩
      | succ i => exact m2 i x hx
    · rcases List.mem_cons.mp hy with rfl | hy
      · exact a5
      · exact m3 y hy
    · rcases List.mem_cons.mp hy with rfl | hy
      · exact a6
      · exact m4 y hy
def spLot : Sp := fun vs H Q _ => ∃ (B : Bg) (hi wd : Nat), vs = [.ref B.b, .int (hi : Int), .int (wd : Int)] ∧ hi ≤ 10 ∧ wd ≤ 10 ∧ Bag B H ∧ ∀ t rs H', Bag B H' → Kb B.b H H' → H t = none → H' t = some (.lst rs) → rs.Nodup → rs.length = hi → (∀ r ∈ rs, RowOk B H wd (10 ^ 20 * 3 ^ hi) H' r) → Q (.ref t) H'
theorem kb_free {g : Addr} {H H' : Hp} {p : Addr} (k : Kb g H H') (h : H' p = none) (n : p ≠ g) : H p = none := by
  cases e : H p with
  | none => rfl
  | some o =>
    have := k _ _ e n
    rw [h] at this
    cases this
theorem size_menu {i : Nat} {v : V} (h : [V.int 1, .int 2, .int 4, .int 9, .int (10 ^ (20 : Int).toNat)][i]? = some v) : ∃ z : Int, v = .int z ∧ 1 ≤ z ∧ z ≤ 100000000000000000000 := by
  match i, h with
  | 0, h => cases h; exact ⟨1, rfl, by decide, by decide⟩
  | 1, h => cases h; exact ⟨2, rfl, by decide, by decide⟩
  | 2, h => cases h; exact ⟨4, rfl, by decide, by decide⟩
  | 3, h => cases h; exact ⟨9, rfl, by decide, by decide⟩
  | 4, h => cases h; exact ⟨_, rfl, by decide, by decide⟩
  | i + 5, h => cases h
theorem ok_lot (T : Tx K mg) : FnOk P w K mg base CX0 3 T.f_l_lot T.d_l_lot ["_law_bag_here", "_law_high", "_law_wide"] spLot := by
  have G_l_draw := ok_draw (P := P) (w := w) (base := base) T
  have G_l_of := ok_of (P := P) (w := w) (base := base) T
  have G_l_mixed := ok_mixed (P := P) (w := w) (base := base) T
  refine T.F_l_lot.ok sc_l_lot (fun vs H Q E h => ?_) (fun cdv A outer s H vs Q E hr h => ?_)
  · obtain ⟨B, hi, wd, rfl, _⟩ := h
    rfl
  obtain ⟨B, hi, wd, rfl, hhi, hwd, hB, q⟩ := h
  have nd := sc_l_lot.nd
  refine ⟨_, (pss_cons (ps_set (i := 3) nd rfl (Or.inr rfl) (pe_call G_l_of hr (by rfl) T.m_l_of T.F_l_of.kp T.b_l_of .nil pass0 (pa_cons (pv 0) (pa_cons (pe_lst (pa_cons pe_int (pa_cons pe_int (pa_cons pe_int (pa_cons pe_int (pa_cons (pe_op op_pow pe_int pe_int) pa_nil)))))) pa_nil))))
    (pss_cons (ps_set (i := 4) nd rfl (Or.inr rfl) (pe_call G_l_draw (hr.mono (by decide)) (by rfl) T.m_l_draw T.F_l_draw.kp T.b_l_draw .nil pass0 (pa_cons (pv 0) (pa_cons pe_int pa_nil))))
    (pss_cons (ps_set (i := 5) nd rfl (Or.inl rfl) (pe_lst pa_nil))
    (pss_cons (ps_for PassesOwn.never rfl (pi_range1 (by rfl) T.z_range (pa_cons (pv 1) pa_nil)) (pg_name (i := 6) nd rfl (Or.inl rfl)) (pss_cons (ps_set (i := 7) nd rfl (Or.inl rfl) (pe_call G_l_draw (hr.mono (by decide)) (by rfl) T.m_l_draw T.F_l_draw.kp T.b_l_draw .nil pass0 (pa_cons (pv 0) (pa_cons pe_int pa_nil))))
    (pss_one (ps_if (PW.pt (pw_and (pt_cmpR op_gt (pv 6) pe_int (nomark _)) (pw_and1 (pt_cmpR op_lt (pv 7) pe_int (nomark _))))) (pss_cons (ps_par (i := 8) (j := 9) rfl nd rfl rfl (by decide) rfl rfl (pa_cons (pe_call G_l_of hr (by rfl) T.m_l_of T.F_l_of.kp T.b_l_of .nil pass0 (pa_cons (pv 0) (pa_cons (pv 5) pa_nil))) (pa_cons (pe_call G_l_of hr (by rfl) T.m_l_of T.F_l_of.kp T.b_l_of .nil pass0 (pa_cons (pv 0) (pa_cons (pv 5) pa_nil))) pa_nil)) rfl)
    (pss_cons (ps_asg (pe_tup (pa_cons (pe_op op_sub (pe_call G_l_draw (hr.mono (by decide)) (by rfl) T.m_l_draw T.F_l_draw.kp T.b_l_draw .nil pass0 (pa_cons (pv 0) (pa_cons pe_int pa_nil))) pe_int) (pa_cons (pe_op op_sub (pe_call G_l_draw (hr.mono (by decide)) (by rfl) T.m_l_draw T.F_l_draw.kp T.b_l_draw .nil pass0 (pa_cons (pv 0) (pa_cons pe_int pa_nil))) pe_int) pa_nil))) (pg_tup rfl (pgs_cons (pg_name (i := 10) nd rfl (Or.inr rfl)) (pgs_cons (pg_name (i := 11) nd rfl (Or.inr rfl)) pgs_nil))))
    (pss_one (ps_expr (pe_bm PySem.F.plainAttrs_list PySem.F.slot_list_append PySem.F.type_list_append mt_append (pv 5) (pa_cons (pe_lc (own := [("_law_x", 12), ("_law_y", 13)]) (g := (gTup K 2 (gCons (gName 12) (gCons (gName 13) gNil)))) rfl nd (show PI _ _ _ (RZ.iZipA K _) from RZ.pi_zipA (by rfl) T.z_zip (pa_cons (pv 8) (pa_cons (pv 9) pa_nil))) (blkOk_by (own := [("_law_x", 12), ("_law_y", 13)]) (N := N_l_lot) (sc := defScope s_l_lot) (by decide +kernel)) (fun _ _ _ _ _ => by exact (pg_tup rfl (pgs_cons (pg_name (i := 12) nd rfl (Or.inl rfl)) (pgs_cons (pg_name (i := 13) nd rfl (Or.inl rfl)) pgs_nil)))) (fun _ _ _ _ _ => by exact pts_nil) (fun _ _ _ _ _ => by exact (pe_op op_add (pe_op op_mulW (pv 10) (pv 12)) (pe_op op_mulW (pv 11) (pv 13))))) pa_nil)))))) (pss_one (ps_expr (pe_bm PySem.F.plainAttrs_list PySem.F.slot_list_append PySem.F.type_list_append mt_append (pv 5) (pa_cons (pe_lc (own := [("_law_turn", 14)]) (g := (gName 14)) rfl nd (pi_range1 (by rfl) T.z_range (pa_cons (pv 2) pa_nil)) (blkOk_by (own := [("_law_turn", 14)]) (N := N_l_lot) (sc := defScope s_l_lot) (by decide +kernel)) (fun _ _ _ _ _ => by exact (pg_name (i := 14) nd rfl (Or.inl rfl))) (fun _ _ _ _ _ => by exact pts_nil) (fun _ _ _ _ _ => by exact (pe_ifExp (pt_cmpR op_eq (pe_call G_l_draw (hr.mono (by decide)) (by rfl) T.m_l_draw T.F_l_draw.kp T.b_l_draw .nil pass0 (pa_cons (pv 0) (pa_cons (pe_op op_add pe_int (pv 4)) pa_nil))) pe_int (nomark _)) (pe_op op_sub (pe_call G_l_draw (hr.mono (by decide)) (by rfl) T.m_l_draw T.F_l_draw.kp T.b_l_draw .nil pass0 (pa_cons (pv 0) (pa_cons (pe_op op_add (pe_op op_mul pe_int (pv 3)) pe_int) pa_nil))) (pv 3)) pe_int))) pa_nil))))))))
    (pss_one (ps_ret (pe_call G_l_mixed hr (by rfl) T.m_l_mixed T.F_l_mixed.kp T.b_l_mixed .nil pass0 (pa_cons (pv 0) (pa_cons (pv 5) pa_nil))))))))), ?_⟩
  refine ⟨_, rfl, _, _, rfl, rfl, ⟨by decide, by decide, by decide⟩, (by show 5 ≤ sizeLine; decide), fun p hp => ?_⟩
  have hB1 := hB.new (o := .lst [.int 1, .int 2, .int 4, .int 9, .int (10 ^ (20 : Int).toNat)]) hp
  refine ⟨B, p, _, rfl, SqL.of upd_same, hB.nb hp, (by show 0 < 5; decide), (by show 5 ≤ 1000; decide), hB1, fun i v H1 hv hB2 kb1 => ?_⟩
  obtain ⟨z, rfl, z1, z2⟩ := size_menu hv
  have kb2 := (Kb.same (g := B.b) (Same.new (o := .lst [.int 1, .int 2, .int 4, .int 9, .int (10 ^ (20 : Int).toNat)]) hp)).trans kb1
  clear kb1 hv hp hB1 i
  refine ⟨_, rfl, B, 3, rfl, by decide, by decide, hB2, fun th H2 t0 t1 hB3 kb3 => ?_⟩
  have kb4 := kb2.trans kb3
  clear kb2 kb3 hB2 H1
  refine ⟨by show 0 ≤ sizeLine; decide, fun F hF => ?_⟩
  have nF := hB3.nb hF
  have nFL := hB3.nL hF
  have hF0 := kb_free kb4 hF nF
  have kb5 := kb4.new (o := .lst []) hF
  have hB5 := hB3.new (o := .lst []) hF
  have hFF : (upd H2 F (.lst [])) F = some (.lst []) := upd_same
  generalize upd H2 F (.lst []) = H3 at *
  refine ⟨_, rfl, (hi : Int), rfl, by omega, by omega, for_range (lo := 0) (n := ((hi : Nat) : Int).toNat) (fun j σ' H' => ∃ rs, (∃ a6 a7 a8 a9 a10 a11 a12 a13 a14, σ' = [some (.ref B.b), some (.int (hi : Int)), some (.int (wd : Int)), some (.int z), some (.int th), some (.ref F), a6, a7, a8, a9, a10, a11, a12, a13, a14]) ∧ Bag B H' ∧ Kb B.b H H' ∧ H' F = some (.lst rs) ∧ rs.Nodup ∧ rs.length = j ∧ ∀ r ∈ rs, RowOk B H wd (10 ^ 20 * 3 ^ j) H' r) ⟨[], ⟨_, _, _, _, _, _, _, _, _, rfl⟩, hB5, kb5, hFF, List.nodup_nil, rfl, fun r h => (by cases h)⟩ ?_ ?_⟩
  · clear hFF hB5 kb5 hF hB3 kb4
    rintro j σ' H4 hj ⟨rs, ⟨a6, a7, a8, a9, a10, a11, a12, a13, a14, rfl⟩, hB4, kb4, hF4, hnd, hlen, hrs⟩
    have e0 : (0 : Int) + (j : Int) = (j : Int) := by omega
    rw [e0]
    refine ⟨_, rfl, B, 6, rfl, by decide, by decide, hB4, fun kd H5 k0 k1 hB5 kb5 => ?_⟩
    have kb6 := kb4.trans kb5
    have hF5 := kb5 _ _ hF4 nF
    have hrs5 : ∀ r ∈ rs, RowOk B H wd (10 ^ 20 * 3 ^ j) H5 r := fun r hr => (hrs r hr).kb kb5
    -- a row more
    have fin : ∀ (D : Addr) (row : List Int) (H6 : Hp) (σ' : L2.St), (∃ a6 a7 a8 a9 a10 a11 a12 a13 a14, σ' = [some (.ref B.b), some (.int (hi : Int)), some (.int (wd : Int)), some (.int z), some (.int th), some (.ref F), a6, a7, a8, a9, a10, a11, a12, a13, a14]) → Kb B.b H5 H6 → Bag B H6 → (∀ H7, H7 D = none → Kb B.b H5 H7 → (∀ r ∈ rs, r ≠ V.ref D) ∧ D ≠ F ∧ H D = none) → (∃ H7, H7 D = none ∧ Kb B.b H5 H7 ∧ D ≠ B.b) → H6 D = some (.lst (row.map V.int)) → row.length = wd → EB (10 ^ 20 * 3 ^ (j + 1)) row → ∃ rs', (∃ a6 a7 a8 a9 a10 a11 a12 a13 a14, σ' = [some (.ref B.b), some (.int (hi : Int)), some (.int (wd : Int)), some (.int z), some (.int th), some (.ref F), a6, a7, a8, a9, a10, a11, a12, a13, a14]) ∧ Bag B (upd H6 F (.lst (rs ++ [V.ref D]))) ∧ Kb B.b H (upd H6 F (.lst (rs ++ [V.ref D]))) ∧ (upd H6 F (.lst (rs ++ [V.ref D]))) F = some (.lst rs') ∧ rs'.Nodup ∧ rs'.length = j + 1 ∧ ∀ r ∈ rs', RowOk B H wd (10 ^ 20 * 3 ^ (j + 1)) (upd H6 F (.lst (rs ++ [V.ref D]))) r := by
      intro D row H6 σ' hσ k6 hB6 hall hex hD6 hrow heb
      obtain ⟨H7, f1, f2, f3⟩ := hex
      obtain ⟨g1, g2, g3⟩ := hall H7 f1 f2
      refine ⟨rs ++ [V.ref D], hσ, hB6.upd nF nFL, fun c o h n => ?_, upd_same, ?_, by rw [List.length_append, hlen]; rfl, fun r hr => ?_⟩
      · rw [upd_ne (ne_of_none h hF0)]
        exact k6 _ _ (kb6 _ _ h n) n
      · refine List.nodup_append.mpr ⟨hnd, List.nodup_cons.mpr ⟨by simp, List.nodup_nil⟩, fun x hx y hy e => ?_⟩
        rw [List.mem_singleton.mp hy] at e
        exact g1 x hx e
      · rcases List.mem_append.mp hr with hr | hr
        · obtain ⟨t, row', b1, b2, b3, b4, b5, b6⟩ := (hrs5 r hr).kb k6
          have tF : t ≠ F := fun e => by
            obtain ⟨t', row'', c1, c2, _⟩ := hrs5 r hr
            rw [b1] at c1
            cases c1
            rw [e, hF5] at c2
            have c3 : rs = row''.map V.int := by
              injection c2 with c2
              injection c2
            rw [c3] at hr
            obtain ⟨n, _, hn⟩ := List.mem_map.mp hr
            rw [b1] at hn
            cases hn
          exact ⟨t, row', b1, by rw [upd_ne tF]; exact b2, b3, b4, b5, b6.le (Nat.mul_le_mul_left _ (Nat.pow_le_pow_right (by decide) (Nat.le_succ _)))⟩
        · rw [List.mem_singleton.mp hr]
          exact ⟨D, row, rfl, by rw [upd_ne g2]; exact hD6, f3, g3, hrow, heb⟩
    have hall : ∀ D H7, H7 D = none → Kb B.b H5 H7 → D ≠ B.b → (∀ r ∈ rs, r ≠ V.ref D) ∧ D ≠ F ∧ H D = none := by
      intro D H7 h1 h2 h3
      refine ⟨fun r hr e => ?_, fun e => ?_, kb_free (kb6.trans h2) h1 h3⟩
      · obtain ⟨t, row, b1, b2, b3, _⟩ := hrs5 r hr
        rw [b1] at e
        cases e
        have := h2 _ _ b2 b3
        rw [h1] at this
        cases this
      · subst e
        have := h2 _ _ hF5 nF
        rw [h1] at this
        cases this
    have lrs : rs.length < sizeLine := Nat.lt_of_le_of_lt (by omega : rs.length ≤ 1000) (by decide)
    refine ⟨_, rfl, _, _, rfl, rfl, _, rfl, ?_⟩
    refine ite2 (fun c1 => ?pos) (fun c1 => ?neg)
    case' pos =>
      refine ⟨_, rfl, _, _, rfl, rfl, _, rfl, ?_⟩
      refine ite2 (fun c2 => ?pp) (fun c2 => ?pn)
    case' neg => refine iteF' (c := false) rfl ?nn
    case pp =>
      have c1' : 0 < rs.length := by
        have := of_decide_eq_true c1
        omega
      have l1000 : rs.length ≤ 1000 := by omega
      refine ⟨_, rfl, _, rfl, B, F, rs, rfl, SqL.of hF5, nF, c1', l1000, hB5, fun i1 v1 H6 hv1 hB6 kb6' => ?_⟩
      have hF6 := kb6' _ _ hF5 nF
      refine ⟨_, rfl, _, rfl, B, F, rs, rfl, SqL.of hF6, nF, c1', l1000, hB6, fun i2 v2 H7 hv2 hB7 kb7' => ?_⟩
      have kb57 := kb6'.trans kb7'
      obtain ⟨t1', r1, rfl, x1, x2, x3, x4, x5⟩ := (hrs5 _ (List.mem_of_getElem? hv1)).kb kb57
      obtain ⟨t2', r2, rfl, y1, y2, y3, y4, y5⟩ := (hrs5 _ (List.mem_of_getElem? hv2)).kb kb57
      refine ⟨_, _, rfl, ?_⟩
      refine ⟨_, rfl, B, 5, rfl, by decide, by decide, hB7, fun n H8 n0 n1 hB8 kb8 => ?_⟩
      refine ⟨_, _, rfl, rfl, ?_⟩
      refine ⟨_, rfl, B, 3, rfl, by decide, by decide, hB8, fun m H9 m0 m1 hB9 kb9 => ?_⟩
      refine ⟨_, _, rfl, rfl, (by show 2 ≤ sizeLine; decide), fun tp htp => ?_⟩
      have kb10 := (kb57.trans (kb8.trans kb9)).new (o := .tup [.int (n - 2), .int (m - 1)]) htp
      have kb710 := (kb8.trans kb9).new (o := .tup [.int (n - 2), .int (m - 1)]) htp
      have hB10 := hB9.new (o := .tup [.int (n - 2), .int (m - 1)]) htp
      have htp10 : (upd H9 tp (.tup [.int (n - 2), .int (m - 1)])) tp = some (.tup [.int (n - 2), .int (m - 1)]) := upd_same
      generalize upd H9 tp (.tup [.int (n - 2), .int (m - 1)]) = H10 at *
      refine ⟨tp, _, rfl, SqT.of htp10, rfl, _, _, rfl, _, _, rfl, rfl, ?_⟩
      have hF10 := kb10 _ _ hF5 nF
      have w1 := kb710 _ _ x1 x2
      have w2 := kb710 _ _ y1 y2
      refine ⟨_, rfl, .inl ⟨rfl, _, SqL.of hF10⟩, ?_⟩
      refine ⟨_, rfl, _, rfl, t1', t2', _, _, rfl, .inl ⟨SqL.of w1, SqL.of w2, fun D hD => ?_⟩⟩
      have nD := hB10.nb hD
      have big : 10 ^ 20 * 3 ^ j < 2 ^ 100 := by
        have : 3 ^ j ≤ 3 ^ 10 := Nat.pow_le_pow_right (by decide) (by omega)
        exact Nat.lt_of_le_of_lt (Nat.mul_le_mul_left _ this) (by decide)
      refine lc_zipLS (f := fun x y => (n - 2) * x + (m - 1) * y) (SqL.of w1) (SqL.of w2) (by omega) (by omega) hD (fun u v => rfl) (fun u v H11 kk s11 hu hv hkk => ?_) fun H11 s11 hD11 => ?_
      · refine ⟨_, rfl, _, rfl, _, _, rfl, rfl, wide_mul (a := 3) (b := 100) (by omega) (Nat.lt_of_le_of_lt (x5 u hu) big) (by decide) (by decide) (by decide), ?_⟩
        refine ⟨_, rfl, _, rfl, _, _, rfl, rfl, wide_mul (a := 3) (b := 100) (by omega) (Nat.lt_of_le_of_lt (y5 v hv) big) (by decide) (by decide) (by decide), ?_⟩
        exact ⟨_, _, rfl, rfl, hkk⟩
      · refine ⟨F, rs, V.ref D, rfl, rfl, s11 _ _ hF10, lrs, ?_⟩
        refine fin D _ H11 _ ⟨_, _, _, _, _, _, _, _, _, rfl⟩ (kb10.trans (Kb.same s11)) (hB10.same s11) (fun H7 q1 q2 => hall D H7 q1 q2 nD) ⟨H10, hD, kb10, nD⟩ hD11 (by rw [List.length_zipWith]; omega) (fun x hx => ?_)
        obtain ⟨i, hi⟩ := List.mem_iff_getElem?.mp hx
        rw [List.getElem?_zipWith] at hi
        cases p1 : r1[i]? with
        | none => rw [p1] at hi; cases hi
        | some u =>
          cases p2 : r2[i]? with
          | none => rw [p1, p2] at hi; cases hi
          | some v =>
            rw [p1, p2] at hi
            obtain rfl := Option.some.inj hi
            have bu := x5 u (List.mem_of_getElem? p1)
            have bv := y5 v (List.mem_of_getElem? p2)
            have e3 : 10 ^ 20 * 3 ^ (j + 1) = 10 ^ 20 * 3 ^ j * 3 := by rw [show 3 ^ (j + 1) = 3 ^ j * 3 from Nat.pow_succ .., ← Nat.mul_assoc]
            rw [e3]
            generalize 10 ^ 20 * 3 ^ j = S at *
            have q1 : ((n - 2) * u).natAbs ≤ 2 * S := by
              rw [Int.natAbs_mul]
              exact Nat.mul_le_mul (by omega) bu
            have q2 : ((m - 1) * v).natAbs ≤ 1 * S := by
              rw [Int.natAbs_mul]
              exact Nat.mul_le_mul (by omega) bv
            omega
    all_goals
      refine ⟨_, rfl, .inl ⟨rfl, _, SqL.of hF5⟩, ?_⟩
      refine ⟨_, rfl, (wd : Int), rfl, by omega, by omega, fun D hD => ?_⟩
      refine lcb (walk_range (lo := 0) (n := ((wd : Nat) : Int).toNat)) (fun y => ∃ d : Int, y = .int d ∧ d.natAbs ≤ 100000000000000000000) (by omega) hB5 hD (fun _ _ => trivial) ?_ ?_
      · rintro i x H6 H7 hi' kb7 hB6 ⟨rfl, rfl⟩ k hk
        refine ⟨rfl, ?_⟩
        refine ⟨_, rfl, _, rfl, _, _, rfl, rfl, B, _, rfl, by omega, Nat.lt_of_le_of_lt (by omega : (1 + th).natAbs ≤ 1000) (by decide), hB6, fun e H7 e0 e1 hB7 kb8 => ?_⟩
        refine ⟨rfl, _, rfl, ?_⟩
        refine ite2 (fun _ => ?_) (fun _ => ?_)
        · refine ⟨_, rfl, _, rfl, _, _, rfl, rfl, .inl ⟨by decide, by decide⟩, _, _, rfl, rfl, B, _, rfl, by omega, Nat.lt_of_le_of_lt (by omega : (2 * z + 1).natAbs ≤ 200000000000000000001) (by decide), hB7, fun e2 H8 f0 f1 hB8 kb9 => ?_⟩
          exact ⟨_, rfl, _, _, rfl, rfl, hk _ H8 ⟨e2 - z, rfl, by omega⟩ (kb8.trans kb9) hB8⟩
        · exact hk _ H7 ⟨0, rfl, by decide⟩ kb8 hB7
      · intro ys H6 hl hys kb7 hB6 hD6
        obtain ⟨ns, rfl, hn, hns⟩ := ints_of ys hys
        have nD := hB5.nb hD
        refine ⟨F, rs, V.ref D, rfl, rfl, kb7 _ _ hF5 nF, lrs, ?_⟩
        refine fin D ns H6 _ ⟨_, _, _, _, _, _, _, _, _, rfl⟩ kb7 hB6 (fun H7 q1 q2 => hall D H7 q1 q2 nD) ⟨H5, hD, Kb.refl _ _, nD⟩ hD6 (by rw [hn, hl]; omega) (fun x hx => Nat.le_trans (hns x hx) ?_)
        have : 1 ≤ 3 ^ (j + 1) := Nat.pow_pos (by decide)
        have e10 : 10 ^ 20 = 100000000000000000000 := by decide
        omega
  · rintro σ' H4 ⟨rs, ⟨a6, a7, a8, a9, a10, a11, a12, a13, a14, rfl⟩, hB4, kb4', hF4, hnd, hlen, hrs⟩
    rw [show ((hi : Nat) : Int).toNat = hi from Int.toNat_natCast hi] at hlen hrs
    refine ⟨_, rfl, _, rfl, B, F, rs, rfl, hF4, nF, by omega, hB4, fun t ys H5 hB5 kb5 ht hty hp => ?_⟩
    have nt := hB4.nb ht
    have := hp.nodup_iff.mpr hnd
    exact q t ys H5 hB5 (kb4'.trans kb5) (kb_free kb4' ht nt) hty this (hp.length_eq.trans hlen) fun r hr => (hrs r (hp.mem_iff.mp hr)).kb kb5
end
end TL
namespace TL
open PySem L2

/-! ### steps of a reading -/
local macro_rules | `(tactic| walk_at "hp") => `(tactic| first | assumption | exact upd_same | (refine (upd_ne (by first | assumption | (exact Ne.symm (by assumption)))).trans ?_; walk_at "hp"))
local macro_rules | `(tactic| walk_at "ok") => `(tactic| first | (exact Or.inr ⟨by decide, by decide⟩) | (exact ⟨by decide, by decide⟩) | (exact ⟨by decide, by decide, by decide⟩) | (show _ ≠ _; omega) | (show _ ≠ _; decide) | (exact Or.inl ⟨by omega, by omega⟩) | decide)
local macro_rules | `(tactic| walk_at "sq") => `(tactic| first | assumption | exact SqL.of (by walk_at "hp") | exact SqT.of (by walk_at "hp"))
local macro_rules | `(tactic| walk_at "ty") => `(tactic| first | refine ⟨_, _, Value.type "int", Value.type "list", false, rfl, ClsV.ty _, TyX.base (TyOf.int _), kt_int_list, ?_⟩ | refine ⟨_, _, Value.type "bool", Value.type "list", false, rfl, ClsV.ty _, TyX.base (TyOf.bl _), kt_bool_list, ?_⟩ | refine ⟨_, _, Value.type "str", Value.type "list", false, rfl, ClsV.ty _, TyX.base (TyOf.str _), kt_str_list, ?_⟩ | refine ⟨_, _, Value.type "NoneType", Value.type "list", false, rfl, ClsV.ty _, TyX.base TyOf.non, kt_NoneType_list, ?_⟩ | refine ⟨_, _, Value.type "list", Value.type "list", true, rfl, ClsV.ty _, tyx_L (by walk_at "sq"), kt_list_list, ?_⟩ | refine ⟨_, _, Value.type "tuple", Value.type "list", false, rfl, ClsV.ty _, tyx_T (by walk_at "sq"), kt_tuple_list, ?_⟩ | refine ⟨_, _, Value.type "int", Value.type "tuple", false, rfl, ClsV.ty _, TyX.base (TyOf.int _), kt_int_tuple, ?_⟩ | refine ⟨_, _, Value.type "bool", Value.type "tuple", false, rfl, ClsV.ty _, TyX.base (TyOf.bl _), kt_bool_tuple, ?_⟩ | refine ⟨_, _, Value.type "str", Value.type "tuple", false, rfl, ClsV.ty _, TyX.base (TyOf.str _), kt_str_tuple, ?_⟩ | refine ⟨_, _, Value.type "NoneType", Value.type "tuple", false, rfl, ClsV.ty _, TyX.base TyOf.non, kt_NoneType_tuple, ?_⟩ | refine ⟨_, _, Value.type "list", Value.type "tuple", false, rfl, ClsV.ty _, tyx_L (by walk_at "sq"), kt_list_tuple, ?_⟩ | refine ⟨_, _, Value.type "tuple", Value.type "tuple", true, rfl, ClsV.ty _, tyx_T (by walk_at "sq"), kt_tuple_tuple, ?_⟩ | refine ⟨_, _, Value.type "int", Value.type "bool", false, rfl, ClsV.ty _, TyX.base (TyOf.int _), kt_int_bool, ?_⟩ | refine ⟨_, _, Value.type "bool", Value.type "bool", true, rfl, ClsV.ty _, TyX.base (TyOf.bl _), kt_bool_bool, ?_⟩ | refine ⟨_, _, Value.type "str", Value.type "bool", false, rfl, ClsV.ty _, TyX.base (TyOf.str _), kt_str_bool, ?_⟩ | refine ⟨_, _, Value.type "NoneType", Value.type "bool", false, rfl, ClsV.ty _, TyX.base TyOf.non, kt_NoneType_bool, ?_⟩ | refine ⟨_, _, Value.type "list", Value.type "bool", false, rfl, ClsV.ty _, tyx_L (by walk_at "sq"), kt_list_bool, ?_⟩ | refine ⟨_, _, Value.type "tuple", Value.type "bool", false, rfl, ClsV.ty _, tyx_T (by walk_at "sq"), kt_tuple_bool, ?_⟩ | refine ⟨_, _, Value.type "int", Value.type "int", true, rfl, ClsV.ty _, TyX.base (TyOf.int _), kt_int_int, ?_⟩ | refine ⟨_, _, Value.type "bool", Value.type "int", true, rfl, ClsV.ty _, TyX.base (TyOf.bl _), kt_bool_int, ?_⟩ | refine ⟨_, _, Value.type "str", Value.type "int", false, rfl, ClsV.ty _, TyX.base (TyOf.str _), kt_str_int, ?_⟩ | refine ⟨_, _, Value.type "NoneType", Value.type "int", false, rfl, ClsV.ty _, TyX.base TyOf.non, kt_NoneType_int, ?_⟩ | refine ⟨_, _, Value.type "list", Value.type "int", false, rfl, ClsV.ty _, tyx_L (by walk_at "sq"), kt_list_int, ?_⟩ | refine ⟨_, _, Value.type "tuple", Value.type "int", false, rfl, ClsV.ty _, tyx_T (by walk_at "sq"), kt_tuple_int, ?_⟩ | refine ⟨_, _, Value.type "int", Value.type "str", false, rfl, ClsV.ty _, TyX.base (TyOf.int _), kt_int_str, ?_⟩ | refine ⟨_, _, Value.type "bool", Value.type "str", false, rfl, ClsV.ty _, TyX.base (TyOf.bl _), kt_bool_str, ?_⟩ | refine ⟨_, _, Value.type "str", Value.type "str", true, rfl, ClsV.ty _, TyX.base (TyOf.str _), kt_str_str, ?_⟩ | refine ⟨_, _, Value.type "NoneType", Value.type "str", false, rfl, ClsV.ty _, TyX.base TyOf.non, kt_NoneType_str, ?_⟩ | refine ⟨_, _, Value.type "list", Value.type "str", false, rfl, ClsV.ty _, tyx_L (by walk_at "sq"), kt_list_str, ?_⟩ | refine ⟨_, _, Value.type "tuple", Value.type "str", false, rfl, ClsV.ty _, tyx_T (by walk_at "sq"), kt_tuple_str, ?_⟩)
local macro_rules | `(tactic| walk_at "go1") => `(tactic| first
  | (refine ⟨_, rfl, ?_⟩)
  | (refine ⟨_, _, rfl, rfl, ?_⟩)
  | (refine ⟨_, _, _, _, rfl, rfl, SqL.of (by walk_at "hp"), rfl, ?_⟩)
  | (refine Or.inl ⟨_, rfl, ?_⟩)
  | (refine ⟨rfl, ?_⟩)
  | (refine ⟨_, _, rfl, .inl (SqL.of (by walk_at "hp")), ?_⟩)
  | (refine ⟨_, _, rfl, Or.inl (by assumption), ?_⟩)
  | (refine ⟨_, _, rfl, Or.inr (by assumption), ?_⟩)
  | (refine ⟨(by walk_at "ok"), ?_⟩)
  | (refine ⟨_, _, _, _, rfl, rfl, (by walk_at "hp"), rfl, ?_⟩))
local macro_rules | `(tactic| walk_at "go") => `(tactic| repeat (walk_at "go1"))
local macro_rules | `(tactic| walk_at "gt") => `(tactic| repeat (first | walk_at "go1" | walk_at "ty"))

section
variable {P : Program} {w : World} {K : PySem.W.Frag} {mg : Str → Option Value} {base : Heap}
/-! ### _law_same of equal data -/
def spSame (K : PySem.W.Frag) (m : Nat) : Sp := fun vs H Q _ => ∃ (n : Nat) (x y : V), vs = [x, y] ∧ n < m ∧ DEq K H n x y ∧ ∀ H', Same H H' → Q (.bl true) H'
theorem ok_same_step (T : Tx K mg) {m : Nat} (G_l_same : FnOk P w K mg base CX0 m T.f_l_same T.d_l_same ["_law_found", "_law_due"] (spSame K m)) : FnOk P w K mg base CX0 (m + 1) T.f_l_same T.d_l_same ["_law_found", "_law_due"] (spSame K (m + 1)) := by
  refine T.F_l_same.ok sc_l_same (fun vs H Q E h => ?_) (fun cdv A outer s H vs Q E hr h => ?_)
  · obtain ⟨n, x, y, rfl, _⟩ := h
    rfl
  obtain ⟨n, x, y, rfl, hm, hd, q⟩ := h
  have nd := sc_l_same.nd
  refine ⟨_, (pss_cons (ps_if (pt_val (pe_callB (show CallR _ _ (rIsi K) from call_isi) (by rfl) T.z_isinstance (by decide +kernel) (pa_cons (pv 1) (pa_cons (pe_bltn (v := .ty "list") (u := .type "list") (by rfl) T.z_list (by decide +kernel) rfl) pa_nil)))) (pss_one (ps_ret (pe_and (pe_callB (show CallR _ _ (rIsi K) from call_isi) (by rfl) T.z_isinstance (by decide +kernel) (pa_cons (pv 0) (pa_cons (pe_bltn (v := .ty "list") (u := .type "list") (by rfl) T.z_list (by decide +kernel) rfl) pa_nil))) (pe_and (pe_cmpR op_eq (pe_callB (show CallR _ _ (rLenSq K) from call_len_seq) (by rfl) T.z_len (by decide +kernel) (pa_cons (pv 0) pa_nil)) (pe_callB (show CallR _ _ (rLenSq K) from call_len_seq) (by rfl) T.z_len (by decide +kernel) (pa_cons (pv 1) pa_nil)) (nomark _)) (pe_one (pe_callB (show CallR _ _ (rAll K) from cr_all rfl) (by rfl) T.z_all (by decide +kernel) (pa_cons (pe_lc (own := [("_law_x", 2), ("_law_y", 3)]) (g := (gTup K 2 (gCons (gName 2) (gCons (gName 3) gNil)))) rfl nd (show PI _ _ _ (RZ.iZipA K _) from RZ.pi_zipA (by rfl) T.z_zip (pa_cons (pv 0) (pa_cons (pv 1) pa_nil))) (blkOk_by (own := [("_law_x", 2), ("_law_y", 3)]) (N := N_l_same) (sc := defScope s_l_same) (by decide +kernel)) (fun _ _ _ _ _ => by exact (pg_tup rfl (pgs_cons (pg_name (i := 2) nd rfl (Or.inl rfl)) (pgs_cons (pg_name (i := 3) nd rfl (Or.inl rfl)) pgs_nil)))) (fun _ _ _ _ _ => by exact pts_nil) (fun _ _ _ _ _ => by exact (pe_call G_l_same hr (by rfl) T.m_l_same T.F_l_same.kp T.b_l_same .nil pass0 (pa_cons (pv 2) (pa_cons (pv 3) pa_nil))))) pa_nil))))))) pss_nil)
    (pss_cons (ps_if (pt_val (pe_callB (show CallR _ _ (rIsi K) from call_isi) (by rfl) T.z_isinstance (by decide +kernel) (pa_cons (pv 1) (pa_cons (pe_bltn (v := .ty "tuple") (u := .type "tuple") (by rfl) T.z_tuple (by decide +kernel) rfl) pa_nil)))) (pss_one (ps_ret (pe_and (pe_callB (show CallR _ _ (rIsi K) from call_isi) (by rfl) T.z_isinstance (by decide +kernel) (pa_cons (pv 0) (pa_cons (pe_bltn (v := .ty "tuple") (u := .type "tuple") (by rfl) T.z_tuple (by decide +kernel) rfl) pa_nil))) (pe_and (pe_cmpR op_eq (pe_callB (show CallR _ _ (rLenSq K) from call_len_seq) (by rfl) T.z_len (by decide +kernel) (pa_cons (pv 0) pa_nil)) (pe_callB (show CallR _ _ (rLenSq K) from call_len_seq) (by rfl) T.z_len (by decide +kernel) (pa_cons (pv 1) pa_nil)) (nomark _)) (pe_one (pe_callB (show CallR _ _ (rAll K) from cr_all rfl) (by rfl) T.z_all (by decide +kernel) (pa_cons (pe_lc (own := [("_law_x", 2), ("_law_y", 3)]) (g := (gTup K 2 (gCons (gName 2) (gCons (gName 3) gNil)))) rfl nd (show PI _ _ _ (RZ.iZipA K _) from RZ.pi_zipA (by rfl) T.z_zip (pa_cons (pv 0) (pa_cons (pv 1) pa_nil))) (blkOk_by (own := [("_law_x", 2), ("_law_y", 3)]) (N := N_l_same) (sc := defScope s_l_same) (by decide +kernel)) (fun _ _ _ _ _ => by exact (pg_tup rfl (pgs_cons (pg_name (i := 2) nd rfl (Or.inl rfl)) (pgs_cons (pg_name (i := 3) nd rfl (Or.inl rfl)) pgs_nil)))) (fun _ _ _ _ _ => by exact pts_nil) (fun _ _ _ _ _ => by exact (pe_call G_l_same hr (by rfl) T.m_l_same T.F_l_same.kp T.b_l_same .nil pass0 (pa_cons (pv 2) (pa_cons (pv 3) pa_nil))))) pa_nil))))))) pss_nil)
    (pss_cons (ps_if (PW.pt (pw_or (pt_cmpR op_isN (pv 1) pe_non (nomark _)) (pw_or1 (pt_cmpR op_isN (pv 0) pe_non (nomark _))))) (pss_one (ps_ret (pe_and (pe_cmpR op_isN (pv 1) pe_non (nomark _)) (pe_one (pe_cmpR op_isN (pv 0) pe_non (nomark _)))))) pss_nil)
    (pss_cons (ps_if (PW.pt (pw_or (pt_val (pe_callB (show CallR _ _ (rIsi K) from call_isi) (by rfl) T.z_isinstance (by decide +kernel) (pa_cons (pv 1) (pa_cons (pe_bltn (v := .ty "bool") (u := .type "bool") (by rfl) T.z_bool (by decide +kernel) rfl) pa_nil)))) (pw_or1 (pt_val (pe_callB (show CallR _ _ (rIsi K) from call_isi) (by rfl) T.z_isinstance (by decide +kernel) (pa_cons (pv 0) (pa_cons (pe_bltn (v := .ty "bool") (u := .type "bool") (by rfl) T.z_bool (by decide +kernel) rfl) pa_nil))))))) (pss_one (ps_ret (pe_and (pe_callB (show CallR _ _ (rIsi K) from call_isi) (by rfl) T.z_isinstance (by decide +kernel) (pa_cons (pv 1) (pa_cons (pe_bltn (v := .ty "bool") (u := .type "bool") (by rfl) T.z_bool (by decide +kernel) rfl) pa_nil))) (pe_and (pe_callB (show CallR _ _ (rIsi K) from call_isi) (by rfl) T.z_isinstance (by decide +kernel) (pa_cons (pv 0) (pa_cons (pe_bltn (v := .ty "bool") (u := .type "bool") (by rfl) T.z_bool (by decide +kernel) rfl) pa_nil))) (pe_one (pe_cmpR op_eq (pv 0) (pv 1) (nomark _))))))) pss_nil)
    (pss_cons (ps_if (pt_val (pe_callB (show CallR _ _ (rIsi K) from call_isi) (by rfl) T.z_isinstance (by decide +kernel) (pa_cons (pv 1) (pa_cons (pe_bltn (v := .ty "int") (u := .type "int") (by rfl) T.z_int (by decide +kernel) rfl) pa_nil)))) (pss_one (ps_ret (pe_and (pe_callB (show CallR _ _ (rIsi K) from call_isi) (by rfl) T.z_isinstance (by decide +kernel) (pa_cons (pv 0) (pa_cons (pe_bltn (v := .ty "int") (u := .type "int") (by rfl) T.z_int (by decide +kernel) rfl) pa_nil))) (pe_one (pe_cmpR op_eq (pv 0) (pv 1) (nomark _)))))) pss_nil)
    (pss_cons (ps_if (pt_val (pe_callB (show CallR _ _ (rIsi K) from call_isi) (by rfl) T.z_isinstance (by decide +kernel) (pa_cons (pv 1) (pa_cons (pe_bltn (v := .ty "str") (u := .type "str") (by rfl) T.z_str (by decide +kernel) rfl) pa_nil)))) (pss_one (ps_ret (pe_and (pe_callB (show CallR _ _ (rIsi K) from call_isi) (by rfl) T.z_isinstance (by decide +kernel) (pa_cons (pv 0) (pa_cons (pe_bltn (v := .ty "str") (u := .type "str") (by rfl) T.z_str (by decide +kernel) rfl) pa_nil))) (pe_one (pe_cmpR op_eq (pv 0) (pv 1) (nomark _)))))) pss_nil)
    (pss_one (ps_ret (pe_and (pe_not (pe_callB (show CallR _ _ (rIsiT K) from call_isiT) (by rfl) T.z_isinstance (by decide +kernel) (pa_cons (pv 0) (pa_cons (pe_tup (pa_cons (pe_bltn (v := .ty "int") (u := .type "int") (by rfl) T.z_int (by decide +kernel) rfl) (pa_cons (pe_bltn (v := .ty "str") (u := .type "str") (by rfl) T.z_str (by decide +kernel) rfl) (pa_cons (pe_bltn (v := .ty "list") (u := .type "list") (by rfl) T.z_list (by decide +kernel) rfl) (pa_cons (pe_bltn (v := .ty "tuple") (u := .type "tuple") (by rfl) T.z_tuple (by decide +kernel) rfl) pa_nil))))) pa_nil)))) (pe_one (pe_cmpR op_eq (pv 0) (pv 1) (nomark _)))))))))))), ?_⟩
  cases hd with
  | int i =>
    walk_at "gt"
    rw [decide_eq_true rfl]
    exact q H (Same.refl H)
  | bl b =>
    walk_at "gt"
    rw [decide_eq_true rfl]
    exact q H (Same.refl H)
  | str x =>
    walk_at "gt"
    rw [decide_eq_true rfl]
    exact q H (Same.refl H)
  | non =>
    walk_at "gt"
    rw [decide_eq_true rfl]
    exact q H (Same.refl H)
  | @lst n a b xs ys h1 h2 hlen hl he =>
    walk_at "gt"
    refine ite_dec (by rw [hl]) ?_
    refine ⟨_, rfl, _, rfl, a, b, xs, ys, rfl, .inl ⟨h1, h2, fun D hD => ?_⟩⟩
    refine lcm (walk_zip (n := xs.length) (by omega)) (List.replicate xs.length (V.bl true)) (by simp) hlen hD (fun H' s => ⟨s.seq h1, s.seq h2⟩) ?_ ?_
    · rintro i y x H1 H2 hi hy s1 ⟨Tp, u, z, rfl, hT, rfl, hu, hz⟩ k hk
      obtain rfl := rep_get hy
      have s2 : Same H1 (upd H1 Tp (.tup [u, z])) := Same.new hT
      refine ⟨Tp, [u, z], rfl, SqT.of upd_same, rfl, u, [z], rfl, z, [], rfl, rfl, rfl, ?_⟩
      exact ⟨_, rfl, _, rfl, n, u, z, rfl, by omega, (he i u z hu hz).same (s1.trans s2), fun H4 s4 => hk H4 (s2.trans s4)⟩
    · intro H' s1 hD'
      refine ⟨D, List.replicate xs.length true, rfl, SqL.of (by rw [hD', List.map_replicate]), ?_⟩
      rw [all_rep]
      exact q H' s1
  | @tup n a b xs ys h1 h2 hlen hl he =>
    walk_at "gt"
    refine ite_dec (by rw [hl]) ?_
    refine ⟨_, rfl, _, rfl, a, b, xs, ys, rfl, .inr ⟨h1, h2, fun D hD => ?_⟩⟩
    refine lcm (walk_zipT (n := xs.length) (by omega)) (List.replicate xs.length (V.bl true)) (by simp) hlen hD (fun H' s => ⟨seqT s h1, seqT s h2⟩) ?_ ?_
    · rintro i y x H1 H2 hi hy s1 ⟨Tp, u, z, rfl, hT, rfl, hu, hz⟩ k hk
      obtain rfl := rep_get hy
      have s2 : Same H1 (upd H1 Tp (.tup [u, z])) := Same.new hT
      refine ⟨Tp, [u, z], rfl, SqT.of upd_same, rfl, u, [z], rfl, z, [], rfl, rfl, rfl, ?_⟩
      exact ⟨_, rfl, _, rfl, n, u, z, rfl, by omega, (he i u z hu hz).same (s1.trans s2), fun H4 s4 => hk H4 (s2.trans s4)⟩
    · intro H' s1 hD'
      refine ⟨D, List.replicate xs.length true, rfl, SqL.of (by rw [hD', List.map_replicate]), ?_⟩
      rw [all_rep]
      exact q H' s1
theorem ok_same (T : Tx K mg) : ∀ m : Nat, FnOk P w K mg base CX0 m T.f_l_same T.d_l_same ["_law_found", "_law_due"] (spSame K m)
  | 0 => by
    have no : ∀ vs H Q E, ¬ spSame K 0 vs H Q E := fun vs H Q E h => by
      obtain ⟨n, x, y, _, h1, _⟩ := h
      omega
    exact ⟨fun vs H Q E h => absurd h (no vs H Q E), fun A outer s H args us vs Q E _ _ _ _ h => absurd h (no vs H Q E)⟩
  | m + 1 => ok_same_step T (ok_same T m)
end
end TL
namespace TL
/-! ### the transposed matrix -/
def trM (w : Nat) (M : List (List Int)) : List (List Int) := (List.range w).map fun c => M.map fun row => row.getD c 0
theorem trM_len {w : Nat} {M : List (List Int)} : (trM w M).length = w := by
  unfold trM
  rw [List.length_map, List.length_range]
theorem trM_rows {w : Nat} {M : List (List Int)} : RowsW M.length (trM w M) := fun row hr => by
  obtain ⟨c, _, rfl⟩ := List.mem_map.mp hr
  rw [List.length_map]
theorem trM_at {w c : Nat} {M : List (List Int)} (h : c < w) : (trM w M)[c]? = some (M.map fun row => row.getD c 0) := by
  unfold trM
  rw [List.getElem?_map, List.getElem?_range h]
  rfl
theorem trM_vec {c i : Nat} {M : List (List Int)} : vec (M.map fun row => row.getD c 0) i = vec (M.getD i []) c := by
  unfold vec
  rw [List.getD_eq_getElem?_getD, List.getElem?_map, List.getD_eq_getElem?_getD (l := M)]
  cases M[i]? with
  | none => rfl
  | some row => rfl
theorem rw_vec {M : List (List Int)} {t c : Nat} : rw_ (M.map vec) t c = vec (M.getD t []) c := by
  unfold rw_
  rw [List.getD_eq_getElem?_getD, List.getElem?_map, List.getD_eq_getElem?_getD]
  cases M[t]? with
  | none => rfl
  | some row => rfl
theorem rank_tr {w : Nat} {M : List (List Int)} (hw : RowsW w M) : clrRank M ≤ clrRank (trM w M) := by
  obtain ⟨B, C, hp, h1, h2, h3, h4, _⟩ := clr_struct hw
  have hww : widthOf M ≤ w := by
    unfold widthOf
    cases M with
    | nil => exact Nat.zero_le _
    | cons x xs => exact Nat.le_of_eq (hw x (List.mem_cons_self ..))
  have hl : ((B.take (clrRank M)).map vec).length = clrRank M := by
    rw [List.length_map, List.length_take, hp.length_eq]
    omega
  have ht := dt_tr (clrRank M) _ C hl h2
  rw [ht] at h4
  have key : Dt ((C.map fun c => vec (M.map fun row => row.getD c 0))) ((List.range (clrRank M)).map fun t => M.idxOf (B.getD t [])) ≠ 0 := by
    rw [← dt_map]
    rw [List.map_map]
    have e : Dt (colsOf ((B.take (clrRank M)).map vec) C) (List.range (clrRank M)) = Dt (C.map ((fun (x : Vec) j => x (M.idxOf (B.getD j []))) ∘ fun c => vec (M.map fun row => row.getD c 0))) (List.range (clrRank M)) := by
      refine df_congr (P := fun t => t < clrRank M) _ _ d0 d0 (by unfold colsOf; rw [List.length_map, List.length_map]) (fun s t hs ht => ?_) (fun _ _ => rfl) _ (fun c h => List.mem_range.mp h)
      unfold colsOf at hs ⊢
      rw [List.length_map] at hs
      show ((C.map fun c => fun i => rw_ ((B.take (clrRank M)).map vec) i c).getD s (fun _ => 0)) t = ((C.map _).getD s (fun _ => 0)) t
      rw [List.getD_eq_getElem?_getD, List.getD_eq_getElem?_getD, List.getElem?_map, List.getElem?_map, List.getElem?_eq_getElem hs]
      show rw_ ((B.take (clrRank M)).map vec) t C[s] = vec (M.map fun row => row.getD C[s] 0) (M.idxOf (B.getD t []))
      rw [trM_vec, map_take_rw (by rw [hp.length_eq]; exact h1) ht]
      have hb : B.getD t [] ∈ M := hp.mem_iff.mp (getD_mem (by rw [hp.length_eq]; omega))
      have := List.idxOf_lt_length_of_mem hb
      have e2 : M.getD (M.idxOf (B.getD t [])) [] = B.getD t [] := by
        rw [List.getD_eq_getElem?_getD, List.getElem?_eq_getElem this]
        exact List.getElem_idxOf this
      rw [e2]
    rw [← e]
    exact h4
  have hX := rank_ge (M := trM w M) (w := M.length) trM_rows (X := C.map fun c => vec (M.map fun row => row.getD c 0)) (fun x hx => by
    obtain ⟨c, hc, rfl⟩ := List.mem_map.mp hx
    exact ⟨_, List.mem_of_getElem? (trM_at (Nat.lt_of_lt_of_le (h3 c hc) hww)), rfl⟩) key
  rw [List.length_map, h2] at hX
  exact hX
theorem tr_tr {n w : Nat} {M : List (List Int)} (hw : RowsW w M) (hl : M.length = n) : trM n (trM w M) = M := by
  refine List.ext_getElem (by rw [trM_len, hl]) fun i a b => ?_
  have e : (trM n (trM w M))[i] = (trM w M).map fun row => row.getD i 0 := by
    have := trM_at (w := n) (c := i) (M := trM w M) (by omega)
    rw [List.getElem?_eq_getElem a] at this
    exact Option.some.inj this
  rw [e]
  refine List.ext_getElem (by rw [List.length_map, trM_len, hw _ (List.getElem_mem b)]) fun j c d => ?_
  rw [List.getElem_map]
  have ew : M[i].length = w := hw _ (List.getElem_mem b)
  have e2 : (trM w M)[j]? = some (M.map fun row => row.getD j 0) := trM_at (by omega)
  rw [List.getElem?_eq_getElem (by rw [trM_len]; omega)] at e2
  rw [Option.some.inj e2, List.getD_eq_getElem?_getD, List.getElem?_map, List.getElem?_eq_getElem b]
  show M[i].getD j 0 = _
  rw [List.getD_eq_getElem?_getD, List.getElem?_eq_getElem d]
  rfl
/-- a square matrix and the transposed: the rank, the determinant -/
theorem rank_sq {n : Nat} {M : List (List Int)} (hw : RowsW n M) (hl : M.length = n) : clrRank (trM n M) = clrRank M := by
  have h1 := rank_tr hw
  have h2 := rank_tr (trM_rows (w := n) (M := M))
  rw [hl, tr_tr hw hl] at h2
  omega
theorem det_sq {n : Nat} {M : List (List Int)} (hl : M.length = n) : Dt ((trM n M).map vec) (List.range n) = Dt (M.map vec) (List.range n) := by
  have h := dt_tr n (M.map vec) (List.range n) (by rw [List.length_map]; exact hl) List.length_range
  rw [h]
  refine df_congr (P := fun t => t < n) _ _ d0 d0 (by unfold colsOf; rw [List.length_map, trM_len, List.length_map, List.length_range]) (fun t c ht hc => ?_) (fun _ _ => rfl) _ (fun c h => List.mem_range.mp h)
  rw [List.length_map, trM_len] at ht
  unfold colsOf
  rw [rw_vec]
  have e : (trM n M).getD t [] = M.map fun row => row.getD t 0 := by
    rw [List.getD_eq_getElem?_getD, trM_at ht]
    rfl
  rw [e, trM_vec]
  have eR : ∀ (f : Nat → Vec), ((List.range n).map f).getD t (fun _ => 0) = f t := fun f => by
    rw [List.getD_eq_getElem?_getD, List.getElem?_map, List.getElem?_range ht]
    rfl
  show vec (M.getD c []) t = (((List.range n).map fun c => fun i => rw_ (M.map vec) i c).getD t (fun _ => 0)) c
  rw [eR]
  exact rw_vec.symm
/-- two rows exchanged -/
theorem det_swap {M : List (List Int)} {i j : Nat} (hj : j < M.length) (hij : i < j) (cs : List Nat) : Dt ((swapR M i j).map vec) cs = - Dt (M.map vec) cs := by
  have := congrFun (pivM_dt (M := M) (r := i) (f := j) hj (Nat.le_of_lt hij)) cs
  unfold pivM at this
  rw [if_neg (by omega), if_neg (by omega)] at this
  rw [this]
  omega
end TL
namespace TL
open PySem L2

/-! ### steps of a reading -/
local macro_rules | `(tactic| walk_at "hp") => `(tactic| first | assumption | exact upd_same | (refine (upd_ne (by first | assumption | (exact Ne.symm (by assumption)))).trans ?_; walk_at "hp"))
local macro_rules | `(tactic| walk_at "ok") => `(tactic| first | (exact Or.inr ⟨by decide, by decide⟩) | (exact ⟨by decide, by decide⟩) | (exact ⟨by decide, by decide, by decide⟩) | (show _ ≠ _; omega) | (show _ ≠ _; decide) | (exact Or.inl ⟨by omega, by omega⟩) | decide)
local macro_rules | `(tactic| walk_at "sq") => `(tactic| first | assumption | exact SqL.of (by walk_at "hp") | exact SqT.of (by walk_at "hp"))
local macro_rules | `(tactic| walk_at "ty") => `(tactic| first | refine ⟨_, _, Value.type "int", Value.type "list", false, rfl, ClsV.ty _, TyX.base (TyOf.int _), kt_int_list, ?_⟩ | refine ⟨_, _, Value.type "bool", Value.type "list", false, rfl, ClsV.ty _, TyX.base (TyOf.bl _), kt_bool_list, ?_⟩ | refine ⟨_, _, Value.type "str", Value.type "list", false, rfl, ClsV.ty _, TyX.base (TyOf.str _), kt_str_list, ?_⟩ | refine ⟨_, _, Value.type "NoneType", Value.type "list", false, rfl, ClsV.ty _, TyX.base TyOf.non, kt_NoneType_list, ?_⟩ | refine ⟨_, _, Value.type "list", Value.type "list", true, rfl, ClsV.ty _, tyx_L (by walk_at "sq"), kt_list_list, ?_⟩ | refine ⟨_, _, Value.type "tuple", Value.type "list", false, rfl, ClsV.ty _, tyx_T (by walk_at "sq"), kt_tuple_list, ?_⟩ | refine ⟨_, _, Value.type "int", Value.type "tuple", false, rfl, ClsV.ty _, TyX.base (TyOf.int _), kt_int_tuple, ?_⟩ | refine ⟨_, _, Value.type "bool", Value.type "tuple", false, rfl, ClsV.ty _, TyX.base (TyOf.bl _), kt_bool_tuple, ?_⟩ | refine ⟨_, _, Value.type "str", Value.type "tuple", false, rfl, ClsV.ty _, TyX.base (TyOf.str _), kt_str_tuple, ?_⟩ | refine ⟨_, _, Value.type "NoneType", Value.type "tuple", false, rfl, ClsV.ty _, TyX.base TyOf.non, kt_NoneType_tuple, ?_⟩ | refine ⟨_, _, Value.type "list", Value.type "tuple", false, rfl, ClsV.ty _, tyx_L (by walk_at "sq"), kt_list_tuple, ?_⟩ | refine ⟨_, _, Value.type "tuple", Value.type "tuple", true, rfl, ClsV.ty _, tyx_T (by walk_at "sq"), kt_tuple_tuple, ?_⟩ | refine ⟨_, _, Value.type "int", Value.type "bool", false, rfl, ClsV.ty _, TyX.base (TyOf.int _), kt_int_bool, ?_⟩ | refine ⟨_, _, Value.type "bool", Value.type "bool", true, rfl, ClsV.ty _, TyX.base (TyOf.bl _), kt_bool_bool, ?_⟩ | refine ⟨_, _, Value.type "str", Value.type "bool", false, rfl, ClsV.ty _, TyX.base (TyOf.str _), kt_str_bool, ?_⟩ | refine ⟨_, _, Value.type "NoneType", Value.type "bool", false, rfl, ClsV.ty _, TyX.base TyOf.non, kt_NoneType_bool, ?_⟩ | refine ⟨_, _, Value.type "list", Value.type "bool", false, rfl, ClsV.ty _, tyx_L (by walk_at "sq"), kt_list_bool, ?_⟩ | refine ⟨_, _, Value.type "tuple", Value.type "bool", false, rfl, ClsV.ty _, tyx_T (by walk_at "sq"), kt_tuple_bool, ?_⟩ | refine ⟨_, _, Value.type "int", Value.type "int", true, rfl, ClsV.ty _, TyX.base (TyOf.int _), kt_int_int, ?_⟩ | refine ⟨_, _, Value.type "bool", Value.type "int", true, rfl, ClsV.ty _, TyX.base (TyOf.bl _), kt_bool_int, ?_⟩ | refine ⟨_, _, Value.type "str", Value.type "int", false, rfl, ClsV.ty _, TyX.base (TyOf.str _), kt_str_int, ?_⟩ | refine ⟨_, _, Value.type "NoneType", Value.type "int", false, rfl, ClsV.ty _, TyX.base TyOf.non, kt_NoneType_int, ?_⟩ | refine ⟨_, _, Value.type "list", Value.type "int", false, rfl, ClsV.ty _, tyx_L (by walk_at "sq"), kt_list_int, ?_⟩ | refine ⟨_, _, Value.type "tuple", Value.type "int", false, rfl, ClsV.ty _, tyx_T (by walk_at "sq"), kt_tuple_int, ?_⟩ | refine ⟨_, _, Value.type "int", Value.type "str", false, rfl, ClsV.ty _, TyX.base (TyOf.int _), kt_int_str, ?_⟩ | refine ⟨_, _, Value.type "bool", Value.type "str", false, rfl, ClsV.ty _, TyX.base (TyOf.bl _), kt_bool_str, ?_⟩ | refine ⟨_, _, Value.type "str", Value.type "str", true, rfl, ClsV.ty _, TyX.base (TyOf.str _), kt_str_str, ?_⟩ | refine ⟨_, _, Value.type "NoneType", Value.type "str", false, rfl, ClsV.ty _, TyX.base TyOf.non, kt_NoneType_str, ?_⟩ | refine ⟨_, _, Value.type "list", Value.type "str", false, rfl, ClsV.ty _, tyx_L (by walk_at "sq"), kt_list_str, ?_⟩ | refine ⟨_, _, Value.type "tuple", Value.type "str", false, rfl, ClsV.ty _, tyx_T (by walk_at "sq"), kt_tuple_str, ?_⟩)
local macro_rules | `(tactic| walk_at "go1") => `(tactic| first
  | (refine ⟨_, rfl, ?_⟩)
  | (refine ⟨_, _, rfl, rfl, ?_⟩)
  | (refine ⟨_, _, _, _, rfl, rfl, SqL.of (by walk_at "hp"), rfl, ?_⟩)
  | (refine Or.inl ⟨_, rfl, ?_⟩)
  | (refine ⟨rfl, ?_⟩)
  | (refine ⟨_, _, rfl, .inl (SqL.of (by walk_at "hp")), ?_⟩)
  | (refine ⟨_, _, rfl, Or.inl (by assumption), ?_⟩)
  | (refine ⟨_, _, rfl, Or.inr (by assumption), ?_⟩)
  | (refine ⟨(by walk_at "ok"), ?_⟩)
  | (refine ⟨_, _, _, _, rfl, rfl, (by walk_at "hp"), rfl, ?_⟩))
local macro_rules | `(tactic| walk_at "go") => `(tactic| repeat (walk_at "go1"))
local macro_rules | `(tactic| walk_at "gt") => `(tactic| repeat (first | walk_at "go1" | walk_at "ty"))

section
variable {P : Program} {w : World} {K : PySem.W.Frag} {mg : Str → Option Value} {base : Heap}
-- [0=_law_bag_here, 1=_law_high, 2=_law_lot_here*, 3=_law_due, 4=_law_given, 5=_law_kept, 6=_law_i, 7=_law_j, 8=_law_other_way, 9=_law_across, 10=_law_strip, 11=_law_n] [0=_law_bag_here, 1=_law_high, 2=_law_wide, 3=_law_lot_here, 4=_law_kept, 5=_law_due, 6=_law_given, 7=_law_spot, 8=_law_j, 9=_law_strip]
/-! what the law keeps: a tuple of tuples -/
structure TupM (K : PySem.W.Frag) (H : Hp) (t : Addr) (M : List (List Int)) : Prop where
  ex : ∃ ys, SqT K H t ys ∧ ys.length = M.length ∧ ∀ (n : Nat) r, ys[n]? = some r → ∃ u row, r = V.ref u ∧ M[n]? = some row ∧ SqT K H u (row.map V.int)
theorem TupM.same {H H' : Hp} {t : Addr} {M : List (List Int)} (h : TupM K H t M) (s : Same H H') : TupM K H' t M := by
  obtain ⟨ys, a1, a2, a3⟩ := h.ex
  refine ⟨ys, seqT s a1, a2, fun n r hr => ?_⟩
  obtain ⟨u, row, b1, b2, b3⟩ := a3 n r hr
  exact ⟨u, row, b1, b2, seqT s b3⟩
def dM (M : List (List Int)) : PyData := .tuple (M.map fun row => .tuple (row.map .int))
theorem dp_ints {H : Hp} : ∀ row : List Int, DpAll K H (row.map V.int) (row.map PyData.int)
  | [] => .nil
  | x :: xs => .cons (.int x) (dp_ints xs)
theorem dp_rows {H : Hp} : ∀ (ys : List V) (M : List (List Int)), ys.length = M.length → (∀ (n : Nat) r, ys[n]? = some r → ∃ u row, r = V.ref u ∧ M[n]? = some row ∧ SqT K H u (row.map V.int)) → DpAll K H ys (M.map fun row => PyData.tuple (row.map .int))
  | [], [], _, _ => .nil
  | [], _ :: _, h, _ => by cases h
  | _ :: _, [], h, _ => by cases h
  | y :: ys, row :: M, hl, h => by
    obtain ⟨u, row', a1, a2, a3⟩ := h 0 y rfl
    cases a2
    subst a1
    exact .cons (.tup a3 (dp_ints row)) (dp_rows ys M (Nat.succ.inj hl) fun n r hr => h (n + 1) r hr)
theorem TupM.dp {H : Hp} {t : Addr} {M : List (List Int)} (h : TupM K H t M) : Dp K H (.ref t) (dM M) := by
  obtain ⟨ys, a1, a2, a3⟩ := h.ex
  exact .tup a1 (dp_rows ys M a2 a3)
theorem ints_lay : ∀ row : List Int, PyData.canLayAll0 (row.map PyData.int) = true ∧ PyData.depthAll (row.map PyData.int) ≤ 1
  | [] => ⟨rfl, Nat.zero_le _⟩
  | x :: xs => by
    obtain ⟨h1, h2⟩ := ints_lay xs
    refine ⟨by rw [List.map_cons, PyData.canLayAll0, h1]; rfl, ?_⟩
    rw [List.map_cons, PyData.depthAll]
    exact Nat.max_le.mpr ⟨by unfold PyData.depth; decide, h2⟩
theorem rows_lay : ∀ M : List (List Int), PyData.canLayAll0 (M.map fun row => PyData.tuple (row.map .int)) = true ∧ PyData.depthAll (M.map fun row => PyData.tuple (row.map .int)) ≤ 10
  | [] => ⟨rfl, Nat.zero_le _⟩
  | row :: M => by
    obtain ⟨h1, h2⟩ := rows_lay M
    obtain ⟨a1, a2⟩ := ints_lay row
    refine ⟨by rw [List.map_cons, PyData.canLayAll0, h1, PyData.canLay0, a1]; rfl, ?_⟩
    rw [List.map_cons, PyData.depthAll]
    refine Nat.max_le.mpr ⟨?_, h2⟩
    unfold PyData.depth
    omega
theorem dM_shaped (M : List (List Int)) : SeqAt.shaped (dM M) = true ∧ PyData.eqv (dM M) (dM M) = true := by
  obtain ⟨h1, h2⟩ := rows_lay M
  have hc : (dM M).canLay0 = true := by
    unfold dM PyData.canLay0
    exact h1
  refine ⟨?_, SeqAt.eqv_refl _ hc⟩
  unfold SeqAt.shaped
  rw [hc]
  have : (dM M).depth ≤ 64 := by
    unfold dM PyData.depth
    omega
  rw [decide_eq_true this]
  rfl
theorem tup_goal {J : It} {σ : L2.St} {H1 : Hp} {D : Addr} {M : List (List Int)} {rs : List V} {i : Nat} {G : Hp → Prop} {Qd : Hp → Prop} (wk : Walk J rs.length G (YAt rs)) (hG : ∀ H, Same H1 H → G H) (h2 : rs.length = M.length ∧ ∀ (n : Nat) r, rs[n]? = some r → ∃ t row, r = V.ref t ∧ M[n]? = some row ∧ Sq K H1 t (row.map V.int)) (hl : M.length ≤ 100) (hD : H1 D = none) (hw : ∀ u, wipe ((wipe σ [i]).set i (some u)) [i] = wipe σ [i]) (h3 : ∀ u, ((wipe σ [i]).set i (some u))[i]? = some (some u))
    (hd : ∀ H ys, Same H1 H → H D = some (.lst ys) → ys.length = M.length → (∀ (n : Nat) r, ys[n]? = some r → ∃ t row, r = V.ref t ∧ M[n]? = some row ∧ SqT K H t (row.map V.int)) → Qd H) : LcGoal J (gName i) (tCB (rTup1 K) (tCons (tVar i) tNil)) [i] σ H1 D Qd := by
  refine lcsD wk (fun n y H => ∃ u row, y = V.ref u ∧ M[n]? = some row ∧ SqT K H u (row.map V.int)) (fun n y Ha Hb s ⟨u, row, a1, a2, a3⟩ => ⟨u, row, a1, a2, seqT s a3⟩)
    (fun n y Ha zs zs' hz' ⟨u, row, a1, a2, a3⟩ => ⟨u, row, a1, a2, seqT_lst hz' a3⟩) (by rw [h2.1]; omega) hD (fun H s => hG H s) ?_ fun ys H2 hyl hys s2 hD2 => hd H2 ys s2 hD2 (hyl.trans h2.1) hys
  rintro n x Ha Hb hn sa hzs ⟨rfl, hx⟩ k hk
  obtain ⟨t, row, rfl, e2, e3⟩ := h2.2 n x hx
  exact ⟨hw _, ⟨_, h3 _, t, _, rfl, e3.same sa, fun u H' s' hu => hk _ H' s' ⟨u, row, rfl, e2, hu⟩⟩⟩
/-- tuple([tuple(strip) for strip in lot]) -/
theorem kept_L {σ : L2.St} {H : Hp} {p : Addr} {M : List (List Int)} {i v : Nat} {Q : VK} (hσ : σ[i]? = some (some (.ref p))) (hM : Mat H p M) (hl : M.length ≤ 100) (hw : ∀ u, wipe ((wipe σ [v]).set v (some u)) [v] = wipe σ [v]) (h3 : ∀ u, ((wipe σ [v]).set v (some u))[v]? = some (some u))
    (k : ∀ t H', Same H H' → TupM K H' t M → Q (.ref t) H') : tCB (rTup1 K) (tCons (tLc (iList K (tVar i)) (gName v) tYes (tCB (rTup1 K) (tCons (tVar v) tNil)) [v]) tNil) σ H Q := by
  obtain ⟨rs, h1, h2⟩ := hM.ex
  refine ⟨_, hσ, p, rfl, ⟨_, SqL.of h1⟩, fun D hD => ?_⟩
  refine tup_goal (walk_list (K := K) (a := p) (xs := rs)) (fun H s => SqL.of (s _ _ h1)) ⟨h2.1, fun n r hr => by
    obtain ⟨t, row, e1, e2, e3⟩ := h2.2 n r hr
    exact ⟨t, row, e1, e2, .inl (SqL.of e3)⟩⟩ hl hD hw h3 fun H2 ys s2 hy hyl hys => ?_
  exact ⟨D, ys, rfl, .inl (SqL.of hy), fun t H3 s3 ht => k t H3 (s2.trans s3) ⟨ys, ht, hyl, fun n r hr => by
    obtain ⟨u, row, a1, a2, a3⟩ := hys n r hr
    exact ⟨u, row, a1, a2, seqT s3 a3⟩⟩⟩
theorem kept_S {σ : L2.St} {H : Hp} {p : Addr} {M : List (List Int)} {i v : Nat} {Q : VK} (hσ : σ[i]? = some (some (.ref p))) (hM : MatS K H p M) (hl : M.length ≤ 100) (hw : ∀ u, wipe ((wipe σ [v]).set v (some u)) [v] = wipe σ [v]) (h3 : ∀ u, ((wipe σ [v]).set v (some u))[v]? = some (some u))
    (k : ∀ t H', Same H H' → TupM K H' t M → Q (.ref t) H') : tCB (rTup1 K) (tCons (tLc (iSeq K (tVar i)) (gName v) tYes (tCB (rTup1 K) (tCons (tVar v) tNil)) [v]) tNil) σ H Q := by
  obtain ⟨rs, h1, h2⟩ := hM.ex
  refine ⟨_, hσ, p, rs, rfl, h1, fun J hJ D hD => ?_⟩
  refine tup_goal (walk_seq hJ) (fun H s => s) h2 hl hD hw h3 fun H2 ys s2 hy hyl hys => ?_
  exact ⟨D, ys, rfl, .inl (SqL.of hy), fun t H3 s3 ht => k t H3 (s2.trans s3) ⟨ys, ht, hyl, fun n r hr => by
    obtain ⟨u, row, a1, a2, a3⟩ := hys n r hr
    exact ⟨u, row, a1, a2, seqT s3 a3⟩⟩⟩
theorem deq_ints {H : Hp} {a b : Addr} {ns : List Int} (h1 : SqL K H a (ns.map V.int)) (h2 : SqL K H b (ns.map V.int)) (hl : ns.length ≤ 100) : DEq K H 1 (.ref a) (.ref b) := by
  refine .lst h1 h2 (by rw [List.length_map]; omega) rfl fun i x y hx hy => ?_
  rw [hx] at hy
  cases hy
  rw [List.getElem?_map] at hx
  obtain ⟨n, _, rfl⟩ := Option.map_eq_some_iff.mp hx
  exact .int n
theorem matS_of {H : Hp} {p : Addr} {M : List (List Int)} (h : Mat H p M) : MatS K H p M := by
  obtain ⟨rs, h1, h2⟩ := h.ex
  exact ⟨rs, .inl (SqL.of h1), h2.1, fun n r hr => by
    obtain ⟨t, row, e1, e2, e3⟩ := h2.2 n r hr
    exact ⟨t, row, e1, e2, .inl (SqL.of e3)⟩⟩
/-- a drawn matrix with at most eight rows -/
structure Sz (wd : Nat) (M : List (List Int)) : Prop where
  rows : RowsW wd M
  len : M.length ≤ 8
  wid : wd ≤ 8
  eb : ∀ row ∈ M, EB (2 ^ 80) row
theorem fb9 : fb (2 ^ 80) 9 < 2 ^ 1000 := by decide +kernel
theorem fB8 : fB 8 80 ≤ 30000000 := by decide +kernel
theorem Sz.mb {wd : Nat} {M : List (List Int)} (h : Sz wd M) : MB (2 ^ 80) 1000 M.length M := ⟨by decide, by decide, h.eb, Nat.lt_of_le_of_lt (fb_le (by decide) (by have := h.len; omega)) fb9, by decide, by decide⟩
theorem Sz.clb {wd : Nat} {M : List (List Int)} (h : Sz wd M) : ClB 1000 M := clB_of h.rows (Bd := 2 ^ 80) (by decide) h.eb (Nat.lt_of_le_of_lt (fb_le (by decide) (by have := h.len; omega)) fb9)
theorem Sz.fb {wd : Nat} {M : List (List Int)} (h : Sz wd M) : fB M.length 80 ≤ 30000000 := Nat.le_trans (fB_row h.len) fB8
theorem ms_call {H : Hp} {p : Addr} {M : List (List Int)} {wd : Nat} {f : List (List Int) → Int} {Q : VK} {E : XK} (h : MatS K H p M) (z : Sz wd M) (k : ∀ H', Same H H' → Q (.int (f M)) H') : spMS K f [.ref p] H Q E := ⟨p, M, 1000, wd, rfl, h, z.rows, z.clb, by decide, by decide, by have := z.len; omega, by have := z.wid; omega, k⟩
theorem rk_call {H : Hp} {p : Addr} {M : List (List Int)} {wd : Nat} {Q : VK} {E : XK} (h : Mat H p M) (z : Sz wd M) (k : ∀ H', Same H H' → Q (.int (clrRank M : Int)) H') : spLRank [.ref p] H Q E := ⟨p, M, wd, 80, rfl, h, z.rows, by have := z.len; omega, by have := z.wid; omega, z.eb, z.fb, k⟩
/-- the drawn lot -/
theorem lot_mat {B : Bg} {H0 H : Hp} {t : Addr} {rs : List V} {wd hi : Nat} (hh : hi ≤ 8) (hwd : wd ≤ 8) (ht : H t = some (.lst rs)) (hn : t ≠ B.b) (hl : rs.length = hi) (h : ∀ r ∈ rs, RowOk B H0 wd (10 ^ 20 * 3 ^ hi) H r) :
    ∃ M, Sz wd M ∧ M.length = hi ∧ MatL H rs M ∧ (∀ r ∈ rs, ∃ a, r = V.ref a ∧ a ≠ B.b ∧ H0 a = none) ∧ (∀ H', Kb B.b H H' → H' t = some (.lst rs) ∧ MatL H' rs M) ∧ ∀ row ∈ M, EB (10 ^ 20 * 3 ^ 8) row := by
  obtain ⟨M, m1, m2, m3⟩ := RowOk.mat h
  have hM : M.length = hi := by rw [← m1.1]; exact hl
  have h38 : 10 ^ 20 * 3 ^ hi ≤ 10 ^ 20 * 3 ^ 8 := Nat.mul_le_mul_left _ (Nat.pow_le_pow_right (by decide) hh)
  refine ⟨M, ⟨m2, by omega, hwd, fun row hr => (m3 row hr).le (Nat.le_trans h38 (by decide))⟩, hM, m1, fun r hr => ?_, fun H' k => ⟨k _ _ ht hn, m1.1, fun n r hr => ?_⟩, fun row hr => (m3 row hr).le h38⟩
  · obtain ⟨a, row, a1, a2, a3, a4, _⟩ := h r hr
    exact ⟨a, a1, a3, a4⟩
  · obtain ⟨t', row, e1, e2, e3⟩ := m1.2 n r hr
    obtain ⟨a, row', a1, a2, a3, _⟩ := h r (List.mem_of_getElem? hr)
    rw [e1] at a1
    cases a1
    exact ⟨_, row, e1, e2, k _ _ e3 a3⟩
theorem Sz.perm {wd : Nat} {M N : List (List Int)} (h : Sz wd M) (p : N.Perm M) : Sz wd N := ⟨fun row hr => h.rows row (p.mem_iff.mp hr), by rw [p.length_eq]; exact h.len, h.wid, fun row hr => h.eb row (p.mem_iff.mp hr)⟩
theorem Sz.tr {n : Nat} {M : List (List Int)} (h : Sz n M) (hl : M.length = n) : Sz n (trM n M) := ⟨by have := trM_rows (w := n) (M := M); rwa [hl] at this, by rw [trM_len]; exact h.wid, h.wid, fun row hr x hx => by
  obtain ⟨c, _, rfl⟩ := List.mem_map.mp hr
  obtain ⟨r, hr, rfl⟩ := List.mem_map.mp hx
  exact (h.eb r hr).at c⟩
theorem swap_perm {M : List (List Int)} {i j : Nat} (hj : j < M.length) (hij : i < j) : (swapR M i j).Perm M := by
  have := pivM_perm (M := M) (r := i) (f := j) hj (Nat.le_of_lt hij)
  unfold pivM at this
  rwa [if_neg (by omega)] at this
/-- [list(strip) for strip in lot] -/
theorem copy_goal {σ : L2.St} {H1 : Hp} {p D : Addr} {M : List (List Int)} {rs : List V} {v : Nat} {Qd : Hp → Prop} (h1 : H1 p = some (.lst rs)) (h2 : MatL H1 rs M) (hl : M.length ≤ 100) (hD : H1 D = none) (hw : ∀ u, wipe ((wipe σ [v]).set v (some u)) [v] = wipe σ [v]) (h3 : ∀ u, ((wipe σ [v]).set v (some u))[v]? = some (some u))
    (hd : ∀ H ys, Same H1 H → H D = some (.lst ys) → MatL H ys M → Qd H) : LcGoal (Itl K p) (gName v) (tCB (rListOf K) (tCons (tVar v) tNil)) [v] σ H1 D Qd := by
  refine lcsD (walk_list (K := K) (a := p) (xs := rs)) (fun i y H => ∃ t row, y = V.ref t ∧ t ≠ D ∧ M[i]? = some row ∧ H t = some (.lst (row.map V.int))) (fun i y H1 H2 s1 ⟨t, row, a1, a0, a2, a3⟩ => ⟨t, row, a1, a0, a2, s1 _ _ a3⟩)
    (fun i y H1 zs zs' hz' ⟨t, row, a1, a0, a2, a3⟩ => ⟨t, row, a1, a0, a2, by rw [upd_ne a0]; exact a3⟩) (by rw [h2.1]; omega) hD (fun H1 s1 => SqL.of (s1 _ _ h1)) ?_ fun ys H1 hyl hys s1 hD1 => hd _ ys s1 hD1 ⟨by rw [hyl, h2.1], fun i r hr => by
    obtain ⟨t, row, a1, a0, a2, a3⟩ := hys i r hr
    exact ⟨t, row, a1, a2, a3⟩⟩
  rintro i x H1 H2 hi s1 ⟨zs, hz⟩ ⟨rfl, hx⟩ k hk
  obtain ⟨t, row, rfl, e2, e3⟩ := h2.2 i x hx
  refine ⟨hw _, ?_⟩
  exact ⟨_, h3 _, t, row.map V.int, rfl, .inl (SqL.of (s1 _ _ e3)), fun p2 hp2 => hk _ _ (Same.new hp2) ⟨p2, row, rfl, (ne_of_none hz hp2).symm, e2, upd_same⟩⟩
theorem neq_kept {H : Hp} {a b : Addr} {M : List (List Int)} {Q : VK} (h1 : TupM K H a M) (h2 : TupM K H b M) (q : Q (.bl false) H) : rNeD K (.ref a) (.ref b) H Q := by
  obtain ⟨s1, s2⟩ := dM_shaped M
  refine ⟨_, _, h1.dp, h2.dp, s1, s1, ?_⟩
  rw [s2]
  exact q
def spSq : Sp := fun vs H Q _ => ∃ (B : Bg) (hi : Nat), vs = [.ref B.b, .int (hi : Int)] ∧ hi ≤ 8 ∧ Bag B H ∧ ∀ H', Bag B H' → Kb B.b H H' → Q (.bl true) H'
theorem ok_sq (T : Tx K mg) (hP : P.given.tree = none) : FnOk P w K mg base CX0 35 T.f_l_square_so T.d_l_square_so ["_law_bag_here", "_law_high"] spSq := by
  have G_l_draw := ok_draw (P := P) (w := w) (base := base) T
  have G_l_lot := ok_lot (P := P) (w := w) (base := base) T
  have G_l_determinant := ok_ldet (P := P) (w := w) (base := base) T
  have G_l_taken := ok_taken (P := P) (w := w) (base := base) T
  have G_l_same := ok_same (P := P) (w := w) (base := base) T 3
  have G_determinant := ok_detS (P := P) (w := w) (base := base) T
  have G_rank_of := ok_rankS (P := P) (w := w) (base := base) T
  have G_l_rank := ok_lrank (P := P) (w := w) (base := base) T hP
  refine T.F_l_square_so.ok sc_l_square_so (fun vs H Q E h => ?_) (fun cdv A outer s H vs Q E hr h => ?_)
  · obtain ⟨B, hi, rfl, _⟩ := h
    rfl
  obtain ⟨B, hi, rfl, hhi, hB, q⟩ := h
  have nd := sc_l_square_so.nd
  refine ⟨_, (pss_cons (ps_set (i := 2) nd rfl (Or.inr rfl) (pe_call G_l_lot (hr.mono (by decide)) (by rfl) T.m_l_lot T.F_l_lot.kp T.b_l_lot .nil pass0 (pa_cons (pv 0) (pa_cons (pv 1) (pa_cons (pv 1) pa_nil)))))
    (pss_cons (ps_set (i := 3) nd rfl (Or.inl rfl) (pe_call G_l_determinant (hr.mono (by decide)) (by rfl) T.m_l_determinant T.F_l_determinant.kp T.b_l_determinant .nil pass0 (pa_cons (pv 2) pa_nil)))
    (pss_cons (ps_set (i := 4) nd rfl (Or.inl rfl) (pe_call G_l_taken (hr.mono (by decide)) (by rfl) T.m_l_taken T.F_l_taken.kp T.b_l_taken .nil pass0 (pa_cons (pv 0) (pa_cons (pv 2) pa_nil))))
    (pss_cons (ps_set (i := 5) nd rfl (Or.inl rfl) (pe_callTy (show CallR _ _ (rTup1 K) from call_tup1) (by rfl) T.z_tuple (by decide +kernel) (pa_cons (pe_lc (own := [("_law_strip", 10)]) (g := (gName 10)) rfl nd (show PI _ _ _ (iList K _) from pi_list (pv 2)) (blkOk_by (own := [("_law_strip", 10)]) (N := N_l_square_so) (sc := defScope s_l_square_so) (by decide +kernel)) (fun _ _ _ _ _ => by exact (pg_name (i := 10) nd rfl (Or.inl rfl))) (fun _ _ _ _ _ => by exact pts_nil) (fun _ _ _ _ _ => by exact (pe_callTy (show CallR _ _ (rTup1 K) from call_tup1) (by rfl) T.z_tuple (by decide +kernel) (pa_cons (pv 10) pa_nil)))) pa_nil)))
    (pss_cons (ps_if (pt_not (pt_val (pe_call G_l_same (hr.mono (by decide)) (by rfl) T.m_l_same T.F_l_same.kp T.b_l_same .nil pass0 (pa_cons (pe_lst (pa_cons (pe_call G_determinant (hr.mono (by decide)) (by rfl) T.m_determinant T.F_determinant.kp T.b_determinant .nil pass0 (pa_cons (pv 4) pa_nil)) (pa_cons (pe_callK0 G_determinant (hr.mono (by decide)) (by rfl) T.m_determinant T.F_determinant.kp T.kb_determinant pass0 (pk_cons (pv 2) pk_nil)) (pa_cons (pe_call G_rank_of (hr.mono (by decide)) (by rfl) T.m_rank_of T.F_rank_of.kp T.b_rank_of .nil pass0 (pa_cons (pv 4) pa_nil)) pa_nil)))) (pa_cons (pe_lst (pa_cons (pv 3) (pa_cons (pv 3) (pa_cons (pe_call G_l_rank hr (by rfl) T.m_l_rank T.F_l_rank.kp T.b_l_rank .nil pass0 (pa_cons (pv 2) pa_nil)) pa_nil)))) pa_nil))))) (pss_one (ps_ret pe_bl)) pss_nil)
    (pss_cons (ps_if (PW.pt (pw_or (pt_cmpR (show OpR _ _ (rNeD K) from op_neD hr.units) (pv 5) (pe_callTy (show CallR _ _ (rTup1 K) from call_tup1) (by rfl) T.z_tuple (by decide +kernel) (pa_cons (pe_lc (own := [("_law_strip", 10)]) (g := (gName 10)) rfl nd (show PI _ _ _ (iList K _) from pi_list (pv 2)) (blkOk_by (own := [("_law_strip", 10)]) (N := N_l_square_so) (sc := defScope s_l_square_so) (by decide +kernel)) (fun _ _ _ _ _ => by exact (pg_name (i := 10) nd rfl (Or.inl rfl))) (fun _ _ _ _ _ => by exact pts_nil) (fun _ _ _ _ _ => by exact (pe_callTy (show CallR _ _ (rTup1 K) from call_tup1) (by rfl) T.z_tuple (by decide +kernel) (pa_cons (pv 10) pa_nil)))) pa_nil)) (nomark _)) (pw_or1 (pt_cmpR (show OpR _ _ (rNeD K) from op_neD hr.units) (pv 5) (pe_callTy (show CallR _ _ (rTup1 K) from call_tup1) (by rfl) T.z_tuple (by decide +kernel) (pa_cons (pe_lc (own := [("_law_strip", 10)]) (g := (gName 10)) rfl nd (show PI _ _ _ (iSeq K _) from pi_seq (pv 4)) (blkOk_by (own := [("_law_strip", 10)]) (N := N_l_square_so) (sc := defScope s_l_square_so) (by decide +kernel)) (fun _ _ _ _ _ => by exact (pg_name (i := 10) nd rfl (Or.inl rfl))) (fun _ _ _ _ _ => by exact pts_nil) (fun _ _ _ _ _ => by exact (pe_callTy (show CallR _ _ (rTup1 K) from call_tup1) (by rfl) T.z_tuple (by decide +kernel) (pa_cons (pv 10) pa_nil)))) pa_nil)) (nomark _))))) (pss_one (ps_ret pe_bl)) pss_nil)
    (pss_cons (ps_if (pt_cmpR op_lt (pv 1) pe_int (nomark _)) (pss_one (ps_ret pe_bl)) pss_nil)
    (pss_cons (ps_set (i := 6) nd rfl (Or.inl rfl) (pe_call G_l_draw (hr.mono (by decide)) (by rfl) T.m_l_draw T.F_l_draw.kp T.b_l_draw .nil pass0 (pa_cons (pv 0) (pa_cons (pe_op op_sub (pv 1) pe_int) pa_nil))))
    (pss_cons (ps_set (i := 7) nd rfl (Or.inl rfl) (pe_op op_add (pe_op op_add (pv 6) pe_int) (pe_call G_l_draw (hr.mono (by decide)) (by rfl) T.m_l_draw T.F_l_draw.kp T.b_l_draw .nil pass0 (pa_cons (pv 0) (pa_cons (pe_op op_sub (pe_op op_sub (pv 1) pe_int) (pv 6)) pa_nil)))))
    (pss_cons (ps_setLc (i := 8) (own := [("_law_strip", 10)]) (g := (gName 10)) rfl nd rfl rfl (sw_true rfl rfl rfl (by decide +kernel)) (show PI _ _ _ (iList K _) from pi_list (pv 2)) (blkOk_by (own := [("_law_strip", 10)]) (N := N_l_square_so) (sc := defScope s_l_square_so) (by decide +kernel)) (fun _ _ _ _ _ => by exact (pg_name (i := 10) nd rfl (Or.inl rfl))) (fun _ _ _ _ _ => by exact pts_nil) (fun _ _ _ _ _ => by exact (pe_callTy (show CallR _ _ (rListOf K) from call_list_of) (by rfl) T.z_list (by decide +kernel) (pa_cons (pv 10) pa_nil))))
    (pss_cons (ps_asg (pe_tup (pa_cons (pe_ix (show IxR _ (rIxL K) from ix_list) (pv 2) (pv 7) (fun _ _ => rfl)) (pa_cons (pe_ix (show IxR _ (rIxL K) from ix_list) (pv 2) (pv 6) (fun _ _ => rfl)) pa_nil))) (pg_tup rfl (pgs_cons (pg_sub (pv 8) (pv 6) set_list) (pgs_cons (pg_sub (pv 8) (pv 7) set_list) pgs_nil))))
    (pss_cons (ps_setLc (i := 9) (own := [("_law_n", 11)]) (g := (gName 11)) rfl nd rfl rfl (sw_true rfl rfl rfl (by decide +kernel)) (pi_range1 (by rfl) T.z_range (pa_cons (pv 1) pa_nil)) (blkOk_by (own := [("_law_n", 11)]) (N := N_l_square_so) (sc := defScope s_l_square_so) (by decide +kernel)) (fun _ _ _ _ _ => by exact (pg_name (i := 11) nd rfl (Or.inr rfl))) (fun _ _ _ _ _ => by exact pts_nil) (fun _ _ _ _ _ => by exact (pe_lc (own := [("_law_strip", 10)]) (g := (gName 10)) rfl nd (show PI _ _ _ (iList K _) from pi_list (pv 2)) (show BlkOk N_l_square_so { kind := .function, names := [(".0", .local), ("_law_n", .cell), ("_law_lot_here", .cell)], isGenerator := false, isCoroutine := false } { kind := .function, names := [(".0", .local), ("_law_strip", .local), ("_law_n", .free)], isGenerator := false, isCoroutine := false } [("_law_strip", 10)] from blkOk_by (by decide +kernel)) (fun _ _ _ _ _ => by exact (pg_name (i := 10) nd rfl (Or.inl rfl))) (fun _ _ _ _ _ => by exact pts_nil) (fun _ _ _ _ _ => by exact (pe_ix (show IxR _ (rIx K) from ix_seq) (pv 10) (pv 11) (fun _ _ => rfl))))))
    (pss_one (ps_ret (pe_call G_l_same (hr.mono (by decide)) (by rfl) T.m_l_same T.F_l_same.kp T.b_l_same .nil pass0 (pa_cons (pe_lst (pa_cons (pe_call G_determinant (hr.mono (by decide)) (by rfl) T.m_determinant T.F_determinant.kp T.b_determinant .nil pass0 (pa_cons (pv 8) pa_nil)) (pa_cons (pe_call G_determinant (hr.mono (by decide)) (by rfl) T.m_determinant T.F_determinant.kp T.b_determinant .nil pass0 (pa_cons (pv 9) pa_nil)) (pa_cons (pe_call G_rank_of (hr.mono (by decide)) (by rfl) T.m_rank_of T.F_rank_of.kp T.b_rank_of .nil pass0 (pa_cons (pv 9) pa_nil)) pa_nil)))) (pa_cons (pe_lst (pa_cons (pe_un un_neg (pv 3)) (pa_cons (pv 3) (pa_cons (pe_call G_l_rank hr (by rfl) T.m_l_rank T.F_l_rank.kp T.b_l_rank .nil pass0 (pa_cons (pv 2) pa_nil)) pa_nil)))) pa_nil))))))))))))))))), ?_⟩
  have hst : L2.start N_l_square_so [.ref B.b, .int (hi : Int)] = [some (.ref B.b), some (.int (hi : Int)), none, none, none, none, none, none, none, none, none, none] := rfl
  rw [hst]
  refine ⟨_, rfl, _, rfl, _, rfl, B, hi, hi, rfl, by omega, by omega, hB, fun p rs H1 hB1 kb1 hp0 hp hnd hlen hrs => ?_⟩
  have np := hB.nb hp0
  obtain ⟨M, hz, hM, m1, hads, hkeep, _⟩ := lot_mat hhi hhi hp np hlen hrs
  have hw0 : RowsW M.length M := by rw [hM]; exact hz.rows
  have hmat : ∀ {H'}, Kb B.b H1 H' → Mat H' p M := fun k => ⟨rs, (hkeep _ k).1, (hkeep _ k).2⟩
  refine ⟨_, rfl, p, M, 2 ^ 80, 1000, rfl, hmat (Kb.refl _ _), hw0, by omega, hz.mb, fun H2 s2 => ?_⟩
  rw [hM]
  have hdet : ∀ {M' : List (List Int)}, RowsW hi M' → M'.length = hi → detV M' = Dt (M'.map vec) (List.range hi) := fun a b => detV_dt a b
  generalize hdue : Dt (M.map vec) (List.range hi) = due
  have hB2 := hB1.same s2
  have kb2 : Kb B.b H1 H2 := Kb.same s2
  refine ⟨_, rfl, _, rfl, B, p, M, rfl, hB2, fun H' k => hmat (kb2.trans k), by omega, fun g H3 hB3 kb3 hg => ?_⟩
  have kb13 := kb2.trans kb3
  refine kept_L rfl (hmat kb13) (by omega) (fun u => rfl) (fun u => rfl) fun kt H4 s4 hkt => ?_
  have hg4 := hg.same s4
  have kb14 := kb13.trans (Kb.same s4)
  have hB4 := hB3.same s4
  clear hg kb13 hB3 s4 kb3 kb2 hB2 s2 H2 H3
  have l8 := hz.len
  refine ⟨_, rfl, g, M, 1000, hi, rfl, hg4, hz.rows, hz.clb, by decide, by decide, by omega, by omega, fun H5 s5 => ?_⟩
  rw [hdet hz.rows hM, hdue]
  refine ⟨_, rfl, p, M, 1000, hi, rfl, matS_of (hmat (kb14.trans (Kb.same s5))), hz.rows, hz.clb, by decide, by decide, by omega, by omega, fun H6 s6 => ?_⟩
  rw [hdet hz.rows hM, hdue]
  have s46 := s5.trans s6
  refine ⟨_, rfl, g, M, 1000, hi, rfl, hg4.same s46, hz.rows, hz.clb, by decide, by decide, by omega, by omega, fun H7 s7 => ?_⟩
  have s47 := s46.trans s7
  refine ⟨(by show 3 ≤ sizeLine; decide), fun La hLa => ?_⟩
  have s8 := s47.trans (Same.new (o := .lst [.int due, .int due, .int (clrRank M : Int)]) hLa)
  have hLa8 : (upd H7 La (.lst [.int due, .int due, .int (clrRank M : Int)])) La = some (.lst ([due, due, (clrRank M : Int)].map V.int)) := upd_same
  refine ⟨_, rfl, _, rfl, _, rfl, p, M, hi, 80, rfl, hmat (kb14.trans (Kb.same s8)), hz.rows, by omega, by omega, hz.eb, hz.fb, fun H9 s9 => ?_⟩
  refine ⟨(by show 3 ≤ sizeLine; decide), fun Lb hLb => ?_⟩
  have hLa9 := s9 _ _ hLa8
  have s10 := (s8.trans s9).trans (Same.new (o := .lst [.int due, .int due, .int (clrRank M : Int)]) hLb)
  have hLa10 := Same.new (o := .lst [.int due, .int due, .int (clrRank M : Int)]) hLb _ _ hLa9
  refine ⟨1, .ref La, .ref Lb, rfl, by decide, deq_ints (ns := [due, due, (clrRank M : Int)]) (SqL.of hLa10) (SqL.of upd_same) (by show 3 ≤ 100; decide), fun H11 s11 => ?_⟩
  refine ⟨true, rfl, ?_⟩
  refine iteF' (c := false) rfl ?_
  have s12 := s10.trans s11
  clear hLa10 hLa9 hLa8 hLa hLb s10 s11 s9 s8 s47 s7 s46 s6 s5
  refine ⟨_, rfl, ?_⟩
  refine kept_L rfl (hmat (kb14.trans (Kb.same s12))) (by omega) (fun u => rfl) (fun u => rfl) fun t1 H12 s13 ht1 => ?_
  have s14 := s12.trans s13
  refine neq_kept (hkt.same s14) ht1 ?_
  refine ⟨false, rfl, ?_⟩
  refine iteF' (c := false) rfl ?_
  refine ⟨_, rfl, ?_⟩
  refine kept_S rfl (hg4.same s14) (by omega) (fun u => rfl) (fun u => rfl) fun t2 H13 s15 ht2 => ?_
  have s16 := s14.trans s15
  refine neq_kept (hkt.same s16) ht2 ?_
  refine ⟨false, rfl, ?_⟩
  refine iteF' (c := false) rfl ?_
  have kb5 := kb14.trans (Kb.same s16)
  have hB5 := hB4.same s16
  clear ht2 ht1 s15 s14 s13 s12 hg4 hkt s16 kb14 hB4
  refine ⟨_, rfl, _, _, rfl, rfl, _, rfl, ?_⟩
  refine ite2 (fun c => ?_) (fun c => ?_)
  · exact q _ hB5 (kb1.trans kb5)
  have h2hi : 2 ≤ hi := by
    have : ¬ ((hi : Int) < 2) := fun z => c (decide_eq_true z)
    omega
  refine ⟨_, rfl, _, rfl, _, _, rfl, rfl, B, _, rfl, by omega, Nat.lt_of_le_of_lt (by omega : ((hi : Int) - 1).natAbs ≤ 1000) (by decide), hB5, fun i H14 i0 i1 hB6 kb6 => ?_⟩
  obtain ⟨a, rfl⟩ := Int.eq_ofNat_of_zero_le i0
  refine ⟨_, rfl, _, _, rfl, rfl, _, rfl, _, rfl, _, _, rfl, rfl, _, rfl, _, _, rfl, rfl, B, _, rfl, by omega, Nat.lt_of_le_of_lt (by omega : ((hi : Int) - 1 - (a : Int)).natAbs ≤ 1000) (by decide), hB6, fun j H15 j0 j1 hB7 kb7 => ?_⟩
  obtain ⟨e, rfl⟩ := Int.eq_ofNat_of_zero_le j0
  have eJ : (a : Int) + 1 + (e : Int) = ((a + 1 + e : Nat) : Int) := by omega
  refine ⟨_, _, rfl, rfl, ?_⟩
  have kb8 := (kb5.trans kb6).trans kb7
  obtain ⟨h15, m15⟩ := hkeep _ kb8
  clear kb5 kb6 kb7 hB5 hB6
  refine ⟨_, rfl, p, rfl, ⟨_, SqL.of h15⟩, fun O hO => ?_⟩
  refine copy_goal h15 m15 (by omega) hO (fun u => rfl) (fun u => rfl) fun H16 ys s1 hO1 mO => ?_
  have h16 := s1 _ _ h15
  have m16 := m15.same s1
  have hbl : a + 1 + e < M.length := by omega
  have hal : a < M.length := by omega
  obtain ⟨ta, a1, a2⟩ := m16.at hal
  obtain ⟨tb, b1, b2⟩ := m16.at hbl
  refine ⟨_, rfl, _, rfl, _, _, _, _, rfl, rfl, SqL.of h16, at_of (j := a + 1 + e) eJ b1, _, rfl, _, rfl, _, _, _, _, rfl, rfl, SqL.of h16, at_of (j := a) rfl a1, (by show 2 ≤ sizeLine; decide), fun tt htt => ?_⟩
  have s2 := Same.new (o := .tup [.ref tb, .ref ta]) htt
  refine ⟨tt, _, rfl, SqT.of upd_same, rfl, _, _, rfl, ?_⟩
  refine ⟨_, rfl, _, rfl, O, _, _, a, rfl, rfl, s2 _ _ hO1, ixN_at (by rw [mO.1]; omega), _, _, rfl, ?_⟩
  refine ⟨_, rfl, _, rfl, O, _, _, a + 1 + e, rfl, rfl, upd_same, ?_, rfl, ?_⟩
  · show ixN _ ((a : Int) + 1 + (e : Int)) = _
    rw [eJ]
    exact ixN_at (by rw [List.length_set, mO.1]; omega)
  have mO2 := mO.same s2
  have x1 := mO2.set (k := a) (s2 _ _ b2)
  have y1 := x1.set (k := a + 1 + e) (s2 _ _ a2)
  have n0 : 0 < M.length := by omega
  have z1 := (y1.upd mO2 (s2 _ _ hO1) n0).upd (zs := (ys.set a (.ref tb)).set (a + 1 + e) (.ref ta)) (x1.upd mO2 (s2 _ _ hO1) n0) upd_same (by rw [List.length_set]; exact n0)
  have sX := ((s1.trans s2).upd_new (o := .lst (ys.set a (.ref tb))) hO).upd_new (o := .lst ((ys.set a (.ref tb)).set (a + 1 + e) (.ref ta))) hO
  have hOX := upd_same (H := upd (upd H16 tt (.tup [.ref tb, .ref ta])) O (.lst (ys.set a (.ref tb)))) (a := O) (o := .lst ((ys.set a (.ref tb)).set (a + 1 + e) (.ref ta)))
  generalize upd (upd (upd H16 tt (.tup [.ref tb, .ref ta])) O (.lst (ys.set a (.ref tb)))) O (.lst ((ys.set a (.ref tb)).set (a + 1 + e) (.ref ta))) = H17 at *
  clear x1 y1 mO2 s2 htt hO1 mO m16 h16 s1 a1 a2 b1 b2
  have hsw : Mat H17 O (swapR M a (a + 1 + e)) := ⟨_, hOX, z1⟩
  have h17 := sX _ _ h15
  have m17 := m15.same sX
  refine ⟨_, rfl, (hi : Int), rfl, by omega, by omega, fun D hD => ?_⟩
  dsimp only [List.set_cons_succ, List.set_cons_zero]
  refine lcsD (walk_range (lo := 0) (n := ((hi : Nat) : Int).toNat)) (fun n y H => ∃ t, y = V.ref t ∧ t ≠ D ∧ H t = some (.lst ((M.map fun row => row.getD n 0).map V.int))) (fun n y Ha Hb s ⟨t, a1, a2, a3⟩ => ⟨t, a1, a2, s _ _ a3⟩)
    (fun n y Ha zs zs' hz' ⟨t, a1, a2, a3⟩ => ⟨t, a1, a2, by rw [upd_ne a2]; exact a3⟩) (by omega) hD (fun _ _ => trivial) ?_ fun xs H18 hxl hxs s18 hD18 => ?_
  · rintro n x Ha Hb hn sa ⟨zs, hzs⟩ ⟨rfl, rfl⟩ k hk
    have e0 : (0 : Int) + (n : Int) = (n : Int) := by omega
    show gName 11 (V.int ((0 : Int) + (n : Int))) _ _ _
    rw [e0]
    have hpa := sa _ _ h17
    have hma := m17.same sa
    refine ⟨rfl, _, rfl, p, rfl, ⟨_, SqL.of hpa⟩, fun D2 hD2 => ?_⟩
    refine lcm (walk_list (K := K) (a := p) (xs := rs)) ((M.map fun row => row.getD n 0).map V.int) (by rw [List.length_map, List.length_map, hma.1]) (by omega) hD2 (fun H' s => SqL.of (s _ _ hpa)) ?_ fun Hc sc hc => hk _ _ sc ⟨D2, rfl, (ne_of_none hzs hD2).symm, hc⟩
    rintro m y u Hc Hd hm hy sc ⟨rfl, hu⟩ k2 hk2
    obtain ⟨t, row, rfl, e2, e3⟩ := hma.2 m _ hu
    rw [List.getElem?_map, List.getElem?_map, e2] at hy
    obtain rfl := Option.some.inj hy
    have hrl : row.length = hi := hz.rows row (List.mem_of_getElem? e2)
    exact ⟨rfl, _, rfl, _, rfl, ix_sq (.inl (SqL.of (sc _ _ e3))) (at_of (j := n) rfl (getD_map (by omega))) (hk2 _ (Same.refl _))⟩
  · have hac : Mat H18 D (trM hi M) := ⟨xs, hD18, by rw [hxl, trM_len]; omega, fun n r hr => by
      obtain ⟨t, a1, a2, a3⟩ := hxs n r hr
      have hn : n < hi := by
        have := (List.getElem?_eq_some_iff.mp hr).1
        omega
      exact ⟨t, _, a1, trM_at hn, a3⟩⟩
    have hzt := hz.tr hM
    have hzs := hz.perm (swap_perm hbl (by omega : a < a + 1 + e))
    have hswl : (swapR M a (a + 1 + e)).length = hi := by rw [(swap_perm hbl (by omega : a < a + 1 + e)).length_eq]; exact hM
    have dsw : detV (swapR M a (a + 1 + e)) = -due := by
      rw [hdet hzs.rows hswl, det_swap hbl (by omega), hdue]
    have dtr : detV (trM hi M) = due := by
      rw [hdet hzt.rows trM_len, det_sq hM, hdue]
    have rtr := rank_sq hz.rows hM
    have l9 := hzt.len
    have l10 := hzs.len
    refine ⟨_, rfl, O, _, 1000, hi, rfl, matS_of (⟨_, s18 _ _ hsw.ex.choose_spec.1, hsw.ex.choose_spec.2.same s18⟩), hzs.rows, hzs.clb, by decide, by decide, by omega, by omega, fun H19 s19 => ?_⟩
    rw [dsw]
    refine ⟨_, rfl, D, _, 1000, hi, rfl, matS_of (hac.same s19), hzt.rows, hzt.clb, by decide, by decide, by omega, by omega, fun H20 s20 => ?_⟩
    rw [dtr]
    refine ⟨_, rfl, D, _, 1000, hi, rfl, matS_of (hac.same (s19.trans s20)), hzt.rows, hzt.clb, by decide, by decide, by omega, by omega, fun H21 s21 => ?_⟩
    dsimp only
    rw [rtr]
    refine ⟨(by show 3 ≤ sizeLine; decide), fun La hLa => ?_⟩
    have s22 := Same.new (o := .lst [.int (-due), .int due, .int (clrRank M : Int)]) hLa
    have sAll := (((sX.trans s18).trans s19).trans s20).trans (s21.trans s22)
    have hLa8 : (upd H21 La (.lst [.int (-due), .int due, .int (clrRank M : Int)])) La = some (.lst ([-due, due, (clrRank M : Int)].map V.int)) := upd_same
    generalize upd H21 La (.lst [.int (-due), .int due, .int (clrRank M : Int)]) = H22 at *
    refine ⟨_, rfl, _, rfl, _, rfl, _, rfl, p, M, hi, 80, rfl, hmat (kb8.trans (Kb.same sAll)), hz.rows, by omega, by omega, hz.eb, hz.fb, fun H23 s23 => ?_⟩
    refine ⟨(by show 3 ≤ sizeLine; decide), fun Lb hLb => ?_⟩
    have s24 := Same.new (o := .lst [.int (-due), .int due, .int (clrRank M : Int)]) hLb
    refine ⟨1, .ref La, .ref Lb, rfl, by decide, deq_ints (ns := [-due, due, (clrRank M : Int)]) (SqL.of (s24 _ _ (s23 _ _ hLa8))) (SqL.of upd_same) (by show 3 ≤ 100; decide), fun H25 s25 => ?_⟩
    have sF := sAll.trans ((s23.trans s24).trans s25)
    exact q _ (hB7.same sF) (kb1.trans (kb8.trans (Kb.same sF)))
end
end TL
namespace TL
open PySem L2

/-! ### steps of a reading -/
local macro_rules | `(tactic| walk_at "hp") => `(tactic| first | assumption | exact upd_same | (refine (upd_ne (by first | assumption | (exact Ne.symm (by assumption)))).trans ?_; walk_at "hp"))
local macro_rules | `(tactic| walk_at "ok") => `(tactic| first | (exact Or.inr ⟨by decide, by decide⟩) | (exact ⟨by decide, by decide⟩) | (exact ⟨by decide, by decide, by decide⟩) | (show _ ≠ _; omega) | (show _ ≠ _; decide) | (exact Or.inl ⟨by omega, by omega⟩) | decide)
local macro_rules | `(tactic| walk_at "sq") => `(tactic| first | assumption | exact SqL.of (by walk_at "hp") | exact SqT.of (by walk_at "hp"))
local macro_rules | `(tactic| walk_at "ty") => `(tactic| first | refine ⟨_, _, Value.type "int", Value.type "list", false, rfl, ClsV.ty _, TyX.base (TyOf.int _), kt_int_list, ?_⟩ | refine ⟨_, _, Value.type "bool", Value.type "list", false, rfl, ClsV.ty _, TyX.base (TyOf.bl _), kt_bool_list, ?_⟩ | refine ⟨_, _, Value.type "str", Value.type "list", false, rfl, ClsV.ty _, TyX.base (TyOf.str _), kt_str_list, ?_⟩ | refine ⟨_, _, Value.type "NoneType", Value.type "list", false, rfl, ClsV.ty _, TyX.base TyOf.non, kt_NoneType_list, ?_⟩ | refine ⟨_, _, Value.type "list", Value.type "list", true, rfl, ClsV.ty _, tyx_L (by walk_at "sq"), kt_list_list, ?_⟩ | refine ⟨_, _, Value.type "tuple", Value.type "list", false, rfl, ClsV.ty _, tyx_T (by walk_at "sq"), kt_tuple_list, ?_⟩ | refine ⟨_, _, Value.type "int", Value.type "tuple", false, rfl, ClsV.ty _, TyX.base (TyOf.int _), kt_int_tuple, ?_⟩ | refine ⟨_, _, Value.type "bool", Value.type "tuple", false, rfl, ClsV.ty _, TyX.base (TyOf.bl _), kt_bool_tuple, ?_⟩ | refine ⟨_, _, Value.type "str", Value.type "tuple", false, rfl, ClsV.ty _, TyX.base (TyOf.str _), kt_str_tuple, ?_⟩ | refine ⟨_, _, Value.type "NoneType", Value.type "tuple", false, rfl, ClsV.ty _, TyX.base TyOf.non, kt_NoneType_tuple, ?_⟩ | refine ⟨_, _, Value.type "list", Value.type "tuple", false, rfl, ClsV.ty _, tyx_L (by walk_at "sq"), kt_list_tuple, ?_⟩ | refine ⟨_, _, Value.type "tuple", Value.type "tuple", true, rfl, ClsV.ty _, tyx_T (by walk_at "sq"), kt_tuple_tuple, ?_⟩ | refine ⟨_, _, Value.type "int", Value.type "bool", false, rfl, ClsV.ty _, TyX.base (TyOf.int _), kt_int_bool, ?_⟩ | refine ⟨_, _, Value.type "bool", Value.type "bool", true, rfl, ClsV.ty _, TyX.base (TyOf.bl _), kt_bool_bool, ?_⟩ | refine ⟨_, _, Value.type "str", Value.type "bool", false, rfl, ClsV.ty _, TyX.base (TyOf.str _), kt_str_bool, ?_⟩ | refine ⟨_, _, Value.type "NoneType", Value.type "bool", false, rfl, ClsV.ty _, TyX.base TyOf.non, kt_NoneType_bool, ?_⟩ | refine ⟨_, _, Value.type "list", Value.type "bool", false, rfl, ClsV.ty _, tyx_L (by walk_at "sq"), kt_list_bool, ?_⟩ | refine ⟨_, _, Value.type "tuple", Value.type "bool", false, rfl, ClsV.ty _, tyx_T (by walk_at "sq"), kt_tuple_bool, ?_⟩ | refine ⟨_, _, Value.type "int", Value.type "int", true, rfl, ClsV.ty _, TyX.base (TyOf.int _), kt_int_int, ?_⟩ | refine ⟨_, _, Value.type "bool", Value.type "int", true, rfl, ClsV.ty _, TyX.base (TyOf.bl _), kt_bool_int, ?_⟩ | refine ⟨_, _, Value.type "str", Value.type "int", false, rfl, ClsV.ty _, TyX.base (TyOf.str _), kt_str_int, ?_⟩ | refine ⟨_, _, Value.type "NoneType", Value.type "int", false, rfl, ClsV.ty _, TyX.base TyOf.non, kt_NoneType_int, ?_⟩ | refine ⟨_, _, Value.type "list", Value.type "int", false, rfl, ClsV.ty _, tyx_L (by walk_at "sq"), kt_list_int, ?_⟩ | refine ⟨_, _, Value.type "tuple", Value.type "int", false, rfl, ClsV.ty _, tyx_T (by walk_at "sq"), kt_tuple_int, ?_⟩ | refine ⟨_, _, Value.type "int", Value.type "str", false, rfl, ClsV.ty _, TyX.base (TyOf.int _), kt_int_str, ?_⟩ | refine ⟨_, _, Value.type "bool", Value.type "str", false, rfl, ClsV.ty _, TyX.base (TyOf.bl _), kt_bool_str, ?_⟩ | refine ⟨_, _, Value.type "str", Value.type "str", true, rfl, ClsV.ty _, TyX.base (TyOf.str _), kt_str_str, ?_⟩ | refine ⟨_, _, Value.type "NoneType", Value.type "str", false, rfl, ClsV.ty _, TyX.base TyOf.non, kt_NoneType_str, ?_⟩ | refine ⟨_, _, Value.type "list", Value.type "str", false, rfl, ClsV.ty _, tyx_L (by walk_at "sq"), kt_list_str, ?_⟩ | refine ⟨_, _, Value.type "tuple", Value.type "str", false, rfl, ClsV.ty _, tyx_T (by walk_at "sq"), kt_tuple_str, ?_⟩)
local macro_rules | `(tactic| walk_at "go1") => `(tactic| first
  | (refine ⟨_, rfl, ?_⟩)
  | (refine ⟨_, _, rfl, rfl, ?_⟩)
  | (refine ⟨_, _, _, _, rfl, rfl, SqL.of (by walk_at "hp"), rfl, ?_⟩)
  | (refine Or.inl ⟨_, rfl, ?_⟩)
  | (refine ⟨rfl, ?_⟩)
  | (refine ⟨_, _, rfl, .inl (SqL.of (by walk_at "hp")), ?_⟩)
  | (refine ⟨_, _, rfl, Or.inl (by assumption), ?_⟩)
  | (refine ⟨_, _, rfl, Or.inr (by assumption), ?_⟩)
  | (refine ⟨(by walk_at "ok"), ?_⟩)
  | (refine ⟨_, _, _, _, rfl, rfl, (by walk_at "hp"), rfl, ?_⟩))
local macro_rules | `(tactic| walk_at "go") => `(tactic| repeat (walk_at "go1"))
local macro_rules | `(tactic| walk_at "gt") => `(tactic| repeat (first | walk_at "go1" | walk_at "ty"))

section
variable {P : Program} {w : World} {K : PySem.W.Frag} {mg : Str → Option Value} {base : Heap}
-- [0=_law_bag_here, 1=_law_high, 2=_law_wide, 3=_law_lot_here, 4=_law_kept, 5=_law_due, 6=_law_given, 7=_law_spot, 8=_law_j, 9=_law_strip]
theorem menu_hi {i : Nat} {v : V} (h : [V.int 0, .int 1, .int 2, .int 2, .int 3, .int 3, .int 4, .int 6][i]? = some v) : ∃ n : Nat, v = .int (n : Int) ∧ n ≤ 6 := by
  match i, h with
  | 0, h => cases h; exact ⟨0, rfl, by decide⟩
  | 1, h => cases h; exact ⟨1, rfl, by decide⟩
  | 2, h => cases h; exact ⟨2, rfl, by decide⟩
  | 3, h => cases h; exact ⟨2, rfl, by decide⟩
  | 4, h => cases h; exact ⟨3, rfl, by decide⟩
  | 5, h => cases h; exact ⟨3, rfl, by decide⟩
  | 6, h => cases h; exact ⟨4, rfl, by decide⟩
  | 7, h => cases h; exact ⟨6, rfl, by decide⟩
  | i + 8, h => cases h
theorem menu_wd {i : Nat} {v : V} (h : [V.int 6, .int 5, .int 4, .int 3, .int 2, .int 1, .int 0, .int 6][i]? = some v) : ∃ n : Nat, v = .int (n : Int) ∧ n ≤ 6 := by
  match i, h with
  | 0, h => cases h; exact ⟨6, rfl, by decide⟩
  | 1, h => cases h; exact ⟨5, rfl, by decide⟩
  | 2, h => cases h; exact ⟨4, rfl, by decide⟩
  | 3, h => cases h; exact ⟨3, rfl, by decide⟩
  | 4, h => cases h; exact ⟨2, rfl, by decide⟩
  | 5, h => cases h; exact ⟨1, rfl, by decide⟩
  | 6, h => cases h; exact ⟨0, rfl, by decide⟩
  | 7, h => cases h; exact ⟨6, rfl, by decide⟩
  | i + 8, h => cases h
theorem com_gcd2 {M : List (List Int)} {wd g : Nat} (hw : RowsW wd M) (h6 : wd ≤ 6) (hl : M.length ≤ 6) (hg : GcdOf M wd g) : comG M (cmb (widthOf M) 0 M.length) = (g : Int) := by
  cases M with
  | nil =>
    refine com_gcd (wd := 0) (fun row hr => by cases hr) (by decide) hl fun d => (hg d).trans ⟨fun h m hm => ?_, fun h m hm => ?_⟩
    · have := h 0 (Nat.pow_pos (by decide))
      rw [bits_zero] at this
      rw [show m = 0 by omega, bits_zero]
      exact this
    · have := h 0 (by decide)
      rw [bits_zero] at this
      by_cases e : (bitsOf wd m).length = 0
      · rw [List.eq_nil_of_length_eq_zero e]
        exact this
      · rw [dt_len _ _ (by simpa using e)]
        exact Nat.dvd_zero d
  | cons x xs =>
    have : widthOf (x :: xs) = wd := hw x (List.mem_cons_self ..)
    rw [this]
    exact com_gcd hw h6 hl hg
theorem wid_rows {M : List (List Int)} {wd : Nat} (hw : RowsW wd M) : RowsW (widthOf M) M ∧ widthOf M ≤ wd := by
  unfold widthOf
  cases M with
  | nil => exact ⟨fun row hr => (by cases hr), Nat.zero_le _⟩
  | cons x xs =>
    have e : x.length = wd := hw x (List.mem_cons_self ..)
    exact ⟨fun row hr => (hw row hr).trans e.symm, Nat.le_of_eq e⟩
theorem seqT_kbB {B : Bg} {H H' : Hp} {a : Addr} {xs : List V} (hB : Bag B H) (k : Kb B.b H H') (h : SqT K H a xs) : SqT K H' a xs := by
  obtain ⟨i, r, z, c, hb, _⟩ := hB.ex
  rcases h with (h | ⟨o, h⟩) | h
  · exact .inl (.inl (k _ _ h fun e => by
      subst e
      rw [hb] at h
      cases h))
  · exact .inl (.inr ⟨o, k _ _ h fun e => by
      subst e
      rw [hb] at h
      cases h⟩)
  · exact .inr h
theorem TupM.kb {B : Bg} {H H' : Hp} {t : Addr} {M : List (List Int)} (h : TupM K H t M) (hB : Bag B H) (k : Kb B.b H H') : TupM K H' t M := by
  obtain ⟨ys, a1, a2, a3⟩ := h.ex
  refine ⟨ys, seqT_kbB hB k a1, a2, fun n r hr => ?_⟩
  obtain ⟨u, row, b1, b2, b3⟩ := a3 n r hr
  exact ⟨u, row, b1, b2, seqT_kbB hB k b3⟩
def spWd : Sp := fun vs H Q _ => ∃ (B : Bg), vs = [.ref B.b] ∧ Bag B H ∧ ∀ H', Bag B H' → Kb B.b H H' → Q (.bl true) H'
theorem ok_wd (T : Tx K mg) (hP : P.given.tree = none) : FnOk P w K mg base CX0 35 T.f_l_wide_so T.d_l_wide_so ["_law_bag_here"] spWd := by
  have G_l_draw := ok_draw (P := P) (w := w) (base := base) T
  have G_l_of := ok_of (P := P) (w := w) (base := base) T
  have G_l_lot := ok_lot (P := P) (w := w) (base := base) T
  have G_l_common := ok_lcom (P := P) (w := w) (base := base) T
  have G_l_taken := ok_taken (P := P) (w := w) (base := base) T
  have G_l_same := ok_same (P := P) (w := w) (base := base) T 3
  have G_common_minor := ok_common (P := P) (w := w) (base := base) T
  have G_rank_of := ok_rankS (P := P) (w := w) (base := base) T
  have G_l_rank := ok_lrank (P := P) (w := w) (base := base) T hP
  refine T.F_l_wide_so.ok sc_l_wide_so (fun vs H Q E h => ?_) (fun cdv A outer s H vs Q E hr h => ?_)
  · obtain ⟨B, rfl, _⟩ := h
    rfl
  obtain ⟨B, rfl, hB, q⟩ := h
  have nd := sc_l_wide_so.nd
  refine ⟨_, (pss_cons (ps_par (i := 1) (j := 2) rfl nd rfl rfl (by decide) rfl rfl (pa_cons (pe_call G_l_of (hr.mono (by decide)) (by rfl) T.m_l_of T.F_l_of.kp T.b_l_of .nil pass0 (pa_cons (pv 0) (pa_cons (pe_lst (pa_cons pe_int (pa_cons pe_int (pa_cons pe_int (pa_cons pe_int (pa_cons pe_int (pa_cons pe_int (pa_cons pe_int (pa_cons pe_int pa_nil))))))))) pa_nil))) (pa_cons (pe_call G_l_of (hr.mono (by decide)) (by rfl) T.m_l_of T.F_l_of.kp T.b_l_of .nil pass0 (pa_cons (pv 0) (pa_cons (pe_lst (pa_cons pe_int (pa_cons pe_int (pa_cons pe_int (pa_cons pe_int (pa_cons pe_int (pa_cons pe_int (pa_cons pe_int (pa_cons pe_int pa_nil))))))))) pa_nil))) pa_nil)) rfl)
    (pss_cons (ps_set (i := 3) nd rfl (Or.inl rfl) (pe_call G_l_lot (hr.mono (by decide)) (by rfl) T.m_l_lot T.F_l_lot.kp T.b_l_lot .nil pass0 (pa_cons (pv 0) (pa_cons (pv 1) (pa_cons (pv 2) pa_nil)))))
    (pss_cons (ps_set (i := 4) nd rfl (Or.inl rfl) (pe_callTy (show CallR _ _ (rTup1 K) from call_tup1) (by rfl) T.z_tuple (by decide +kernel) (pa_cons (pe_lc (own := [("_law_strip", 9)]) (g := (gName 9)) rfl nd (show PI _ _ _ (iList K _) from pi_list (pv 3)) (blkOk_by (own := [("_law_strip", 9)]) (N := N_l_wide_so) (sc := defScope s_l_wide_so) (by decide +kernel)) (fun _ _ _ _ _ => by exact (pg_name (i := 9) nd rfl (Or.inl rfl))) (fun _ _ _ _ _ => by exact pts_nil) (fun _ _ _ _ _ => by exact (pe_callTy (show CallR _ _ (rTup1 K) from call_tup1) (by rfl) T.z_tuple (by decide +kernel) (pa_cons (pv 9) pa_nil)))) pa_nil)))
    (pss_cons (ps_set (i := 5) nd rfl (Or.inl rfl) (pe_lst (pa_cons (pe_call G_l_rank hr (by rfl) T.m_l_rank T.F_l_rank.kp T.b_l_rank .nil pass0 (pa_cons (pv 3) pa_nil)) (pa_cons (pe_call G_l_common (hr.mono (by decide)) (by rfl) T.m_l_common T.F_l_common.kp T.b_l_common .nil pass0 (pa_cons (pv 3) (pa_cons (pv 2) pa_nil))) pa_nil))))
    (pss_cons (ps_set (i := 6) nd rfl (Or.inl rfl) (pe_call G_l_taken (hr.mono (by decide)) (by rfl) T.m_l_taken T.F_l_taken.kp T.b_l_taken .nil pass0 (pa_cons (pv 0) (pa_cons (pv 3) pa_nil))))
    (pss_cons (ps_if (PW.pt (pw_or (pt_not (pt_val (pe_call G_l_same (hr.mono (by decide)) (by rfl) T.m_l_same T.F_l_same.kp T.b_l_same .nil pass0 (pa_cons (pe_lst (pa_cons (pe_call G_rank_of (hr.mono (by decide)) (by rfl) T.m_rank_of T.F_rank_of.kp T.b_rank_of .nil pass0 (pa_cons (pv 6) pa_nil)) (pa_cons (pe_call G_common_minor (hr.mono (by decide)) (by rfl) T.m_common_minor T.F_common_minor.kp T.b_common_minor .nil pass0 (pa_cons (pv 6) pa_nil)) pa_nil))) (pa_cons (pv 5) pa_nil))))) (pw_or1 (pt_not (pt_val (pe_call G_l_same (hr.mono (by decide)) (by rfl) T.m_l_same T.F_l_same.kp T.b_l_same .nil pass0 (pa_cons (pe_lst (pa_cons (pe_callK0 G_rank_of (hr.mono (by decide)) (by rfl) T.m_rank_of T.F_rank_of.kp T.kb_rank_of pass0 (pk_cons (pv 3) pk_nil)) (pa_cons (pe_callK0 G_common_minor (hr.mono (by decide)) (by rfl) T.m_common_minor T.F_common_minor.kp T.kb_common_minor pass0 (pk_cons (pv 3) pk_nil)) pa_nil))) (pa_cons (pv 5) pa_nil)))))))) (pss_one (ps_ret pe_bl)) pss_nil)
    (pss_cons (ps_if (PW.pt (pw_or (pt_cmpR (show OpR _ _ (rNeD K) from op_neD hr.units) (pv 4) (pe_callTy (show CallR _ _ (rTup1 K) from call_tup1) (by rfl) T.z_tuple (by decide +kernel) (pa_cons (pe_lc (own := [("_law_strip", 9)]) (g := (gName 9)) rfl nd (show PI _ _ _ (iList K _) from pi_list (pv 3)) (blkOk_by (own := [("_law_strip", 9)]) (N := N_l_wide_so) (sc := defScope s_l_wide_so) (by decide +kernel)) (fun _ _ _ _ _ => by exact (pg_name (i := 9) nd rfl (Or.inl rfl))) (fun _ _ _ _ _ => by exact pts_nil) (fun _ _ _ _ _ => by exact (pe_callTy (show CallR _ _ (rTup1 K) from call_tup1) (by rfl) T.z_tuple (by decide +kernel) (pa_cons (pv 9) pa_nil)))) pa_nil)) (nomark _)) (pw_or1 (pt_cmpR (show OpR _ _ (rNeD K) from op_neD hr.units) (pv 4) (pe_callTy (show CallR _ _ (rTup1 K) from call_tup1) (by rfl) T.z_tuple (by decide +kernel) (pa_cons (pe_lc (own := [("_law_strip", 9)]) (g := (gName 9)) rfl nd (show PI _ _ _ (iSeq K _) from pi_seq (pv 6)) (blkOk_by (own := [("_law_strip", 9)]) (N := N_l_wide_so) (sc := defScope s_l_wide_so) (by decide +kernel)) (fun _ _ _ _ _ => by exact (pg_name (i := 9) nd rfl (Or.inl rfl))) (fun _ _ _ _ _ => by exact pts_nil) (fun _ _ _ _ _ => by exact (pe_callTy (show CallR _ _ (rTup1 K) from call_tup1) (by rfl) T.z_tuple (by decide +kernel) (pa_cons (pv 9) pa_nil)))) pa_nil)) (nomark _))))) (pss_one (ps_ret pe_bl)) pss_nil)
    (pss_cons (ps_if (PW.pt (pw_and (pt_cmpR op_gt (pv 1) pe_int (nomark _)) (pw_and1 (pt_cmpR op_gt (pv 2) pe_int (nomark _))))) (pss_cons (ps_par (i := 7) (j := 8) rfl nd rfl rfl (by decide) rfl rfl (pa_cons (pe_call G_l_draw (hr.mono (by decide)) (by rfl) T.m_l_draw T.F_l_draw.kp T.b_l_draw .nil pass0 (pa_cons (pv 0) (pa_cons (pv 1) pa_nil))) (pa_cons (pe_call G_l_draw (hr.mono (by decide)) (by rfl) T.m_l_draw T.F_l_draw.kp T.b_l_draw .nil pass0 (pa_cons (pv 0) (pa_cons (pv 2) pa_nil))) pa_nil)) rfl)
    (pss_cons (ps_set (i := 9) nd rfl (Or.inl rfl) (pe_ix (show IxR _ (rIxL K) from ix_list) (pv 3) (pv 7) (fun _ _ => rfl)))
    (pss_cons (ps_asg (pe_op op_add (pe_ix (show IxR _ (rIx K) from ix_seq) (pv 9) (pv 8) (fun _ _ => rfl)) pe_int) (pg_sub (pv 9) (pv 8) set_list))
    (pss_one (ps_ret (pe_call G_l_same (hr.mono (by decide)) (by rfl) T.m_l_same T.F_l_same.kp T.b_l_same .nil pass0 (pa_cons (pe_lst (pa_cons (pe_call G_common_minor (hr.mono (by decide)) (by rfl) T.m_common_minor T.F_common_minor.kp T.b_common_minor .nil pass0 (pa_cons (pv 3) pa_nil)) (pa_cons (pe_call G_rank_of (hr.mono (by decide)) (by rfl) T.m_rank_of T.F_rank_of.kp T.b_rank_of .nil pass0 (pa_cons (pv 3) pa_nil)) pa_nil))) (pa_cons (pe_lst (pa_cons (pe_call G_l_common (hr.mono (by decide)) (by rfl) T.m_l_common T.F_l_common.kp T.b_l_common .nil pass0 (pa_cons (pv 3) (pa_cons (pv 2) pa_nil))) (pa_cons (pe_call G_l_rank hr (by rfl) T.m_l_rank T.F_l_rank.kp T.b_l_rank .nil pass0 (pa_cons (pv 3) pa_nil)) pa_nil))) pa_nil)))))))) pss_nil)
    (pss_one (ps_ret pe_bl)))))))))), ?_⟩
  have hst : L2.start N_l_wide_so [.ref B.b] = [some (.ref B.b), none, none, none, none, none, none, none, none, none] := rfl
  rw [hst]
  refine ⟨_, rfl, (by show 8 ≤ sizeLine; decide), fun p1 hp1 => ?_⟩
  have hB1 := hB.new (o := .lst [.int 0, .int 1, .int 2, .int 2, .int 3, .int 3, .int 4, .int 6]) hp1
  have k1 := Kb.same (g := B.b) (Same.new (o := .lst [.int 0, .int 1, .int 2, .int 2, .int 3, .int 3, .int 4, .int 6]) hp1)
  refine ⟨B, p1, _, rfl, SqL.of upd_same, hB.nb hp1, (by show 0 < 8; decide), (by show 8 ≤ 1000; decide), hB1, fun i1 v1 H1 hv1 hB2 kb1 => ?_⟩
  obtain ⟨hi, rfl, hhi⟩ := menu_hi hv1
  have k2 := k1.trans kb1
  refine ⟨_, rfl, (by show 8 ≤ sizeLine; decide), fun p2 hp2 => ?_⟩
  have hB3 := hB2.new (o := .lst [.int 6, .int 5, .int 4, .int 3, .int 2, .int 1, .int 0, .int 6]) hp2
  have k3 := k2.new (o := .lst [.int 6, .int 5, .int 4, .int 3, .int 2, .int 1, .int 0, .int 6]) hp2
  refine ⟨B, p2, _, rfl, SqL.of upd_same, hB2.nb hp2, (by show 0 < 8; decide), (by show 8 ≤ 1000; decide), hB3, fun i2 v2 H2 hv2 hB4 kb2 => ?_⟩
  obtain ⟨wd, rfl, hwd⟩ := menu_wd hv2
  have k4 := k3.trans kb2
  clear k1 k2 k3 kb1 kb2 hB3 hB2 hB1 hp1 hp2 hv1 hv2 p1 p2
  refine ⟨_, _, rfl, ?_⟩
  dsimp only [List.set_cons_succ, List.set_cons_zero]
  refine ⟨_, rfl, _, rfl, _, rfl, B, hi, wd, rfl, by omega, by omega, hB4, fun p rs H3 hB5 kb3 hp0 hp hnd hlen hrs => ?_⟩
  have np := hB4.nb hp0
  obtain ⟨M, hz, hM, m1, hads, hkeep, hlow⟩ := lot_mat (by omega) (by omega) hp np hlen hrs
  have hmat : ∀ {H'}, Kb B.b H3 H' → Mat H' p M := fun k => ⟨rs, (hkeep _ k).1, (hkeep _ k).2⟩
  have kA := k4.trans kb3
  have l6 : M.length ≤ 6 := by omega
  obtain ⟨wr1, wr2⟩ := wid_rows hz.rows
  obtain ⟨mb1, mb2, mb3, mb4, mb5, mb6⟩ := hz.mb
  refine kept_L rfl (hmat (Kb.refl _ _)) (by omega) (fun u => rfl) (fun u => rfl) fun kt H4 s4 hkt => ?_
  refine ⟨_, rfl, p, M, wd, 80, rfl, hmat (Kb.same s4), hz.rows, by omega, by omega, hz.eb, hz.fb, fun H5 s5 => ?_⟩
  refine ⟨_, rfl, _, rfl, p, M, wd, 2 ^ 80, 1000, rfl, hmat (Kb.same (s4.trans s5)), hz.rows, by omega, by omega, hz.mb, fun gc H6 s6 hgc => ?_⟩
  have hcom := com_gcd2 hz.rows hwd l6 hgc
  refine ⟨(by show 2 ≤ sizeLine; decide), fun du hdu => ?_⟩
  have s7 := Same.new (o := .lst [.int (clrRank M : Int), .int (gc : Int)]) hdu
  have hdu7 : (upd H6 du (.lst [.int (clrRank M : Int), .int (gc : Int)])) du = some (.lst ([(clrRank M : Int), (gc : Int)].map V.int)) := upd_same
  have s37 := ((s4.trans s5).trans s6).trans s7
  have hkt7 := hkt.same ((s5.trans s6).trans s7)
  generalize upd H6 du (.lst [.int (clrRank M : Int), .int (gc : Int)]) = H7 at *
  have hB7 := hB5.same s37
  have ndu : du ≠ B.b := (hB5.same ((s4.trans s5).trans s6)).nb hdu
  refine ⟨_, rfl, _, rfl, B, p, M, rfl, hB7, fun H' k => hmat ((Kb.same s37).trans k), by omega, fun g H8 hB8 kb8 hg => ?_⟩
  have hdu8 := kb8 _ _ hdu7 ndu
  have hkt8 := hkt7.kb hB7 kb8
  have k38 := (Kb.same (g := B.b) s37).trans kb8
  clear hdu7 hkt7 hB7 s37 s7 hdu s6 s5 s4 hkt
  dsimp only [List.set_cons_succ, List.set_cons_zero]
  -- the first two answers
  refine ⟨_, rfl, g, M, 1000, wd, rfl, hg, hz.rows, hz.clb, by decide, by decide, by omega, by omega, fun H9 s9 => ?_⟩
  refine ⟨_, rfl, g, M, 2 ^ 80, 1000, cmb (widthOf M) 0 M.length, rfl, hg.same s9, wr1, mb1, mb3, mb4, mb5, mb6, by omega, by omega, chs_cmb (by omega) l6, fun H10 s10 => ?_⟩
  rw [hcom]
  refine ⟨(by show 2 ≤ sizeLine; decide), fun La hLa => ?_⟩
  have s11 := (s9.trans s10).trans (Same.new (o := .lst [.int (clrRank M : Int), .int (gc : Int)]) hLa)
  have hLa8 : (upd H10 La (.lst [.int (clrRank M : Int), .int (gc : Int)])) La = some (.lst ([(clrRank M : Int), (gc : Int)].map V.int)) := upd_same
  refine ⟨_, rfl, 1, .ref La, .ref du, rfl, by decide, deq_ints (ns := [(clrRank M : Int), (gc : Int)]) (SqL.of hLa8) (SqL.of (s11 _ _ hdu8)) (by show 2 ≤ 100; decide), fun H11 s12 => ?_⟩
  refine ⟨true, rfl, ?_⟩
  refine iteF' (c := false) rfl ?_
  have s13 := s11.trans s12
  clear hLa8 hLa s11 s12 s10 s9
  refine ⟨_, rfl, p, M, 1000, wd, rfl, matS_of (hmat (k38.trans (Kb.same s13))), hz.rows, hz.clb, by decide, by decide, by omega, by omega, fun H12 s14 => ?_⟩
  refine ⟨_, rfl, p, M, 2 ^ 80, 1000, cmb (widthOf M) 0 M.length, rfl, matS_of (hmat (k38.trans (Kb.same (s13.trans s14)))), wr1, mb1, mb3, mb4, mb5, mb6, by omega, by omega, chs_cmb (by omega) l6, fun H13 s15 => ?_⟩
  rw [hcom]
  refine ⟨(by show 2 ≤ sizeLine; decide), fun Lb hLb => ?_⟩
  have s16 := ((s13.trans s14).trans s15).trans (Same.new (o := .lst [.int (clrRank M : Int), .int (gc : Int)]) hLb)
  have hLb8 : (upd H13 Lb (.lst [.int (clrRank M : Int), .int (gc : Int)])) Lb = some (.lst ([(clrRank M : Int), (gc : Int)].map V.int)) := upd_same
  refine ⟨_, rfl, 1, .ref Lb, .ref du, rfl, by decide, deq_ints (ns := [(clrRank M : Int), (gc : Int)]) (SqL.of hLb8) (SqL.of (s16 _ _ hdu8)) (by show 2 ≤ 100; decide), fun H14 s17 => ?_⟩
  refine ⟨true, rfl, ?_⟩
  refine iteF' (c := false) rfl ?_
  have s18 := s16.trans s17
  clear hLb8 hLb s16 s17 s15 s14 s13
  -- what was kept
  refine ⟨_, rfl, ?_⟩
  refine kept_L rfl (hmat (k38.trans (Kb.same s18))) (by omega) (fun u => rfl) (fun u => rfl) fun t1 H15 s19 ht1 => ?_
  have s20 := s18.trans s19
  refine neq_kept (hkt8.same s20) ht1 ?_
  refine ⟨false, rfl, ?_⟩
  refine iteF' (c := false) rfl ?_
  refine ⟨_, rfl, ?_⟩
  refine kept_S rfl (hg.same s20) (by omega) (fun u => rfl) (fun u => rfl) fun t2 H16 s21 ht2 => ?_
  have s22 := s20.trans s21
  refine neq_kept (hkt8.same s22) ht2 ?_
  refine ⟨false, rfl, ?_⟩
  refine iteF' (c := false) rfl ?_
  have kb5 := k38.trans (Kb.same s22)
  have hB9 := hB8.same s22
  clear ht2 ht1 s21 s20 s19 s18 hg hkt8 s22 hdu8 k38 kb8 hB8
  have fin : Q (.bl true) H16 := q _ hB9 (kA.trans kb5)
  refine ⟨_, rfl, _, _, rfl, rfl, _, rfl, ?_⟩
  refine ite2 (fun c1 => ?_) (fun c1 => ?_)
  case refine_2 => exact iteF' (c := false) rfl fin
  refine ⟨_, rfl, _, _, rfl, rfl, _, rfl, ?_⟩
  refine ite2 (fun c2 => ?_) (fun c2 => ?_)
  case refine_2 => exact fin
  have c1' : 0 < hi := by
    have := of_decide_eq_true c1
    omega
  have c2' : 0 < wd := by
    have := of_decide_eq_true c2
    omega
  -- one number changed
  refine ⟨_, rfl, _, rfl, B, _, rfl, by omega, Nat.lt_of_le_of_lt (by omega : ((hi : Int)).natAbs ≤ 1000) (by decide), hB9, fun i H17 i0 i1 hB10 kb10 => ?_⟩
  obtain ⟨a, rfl⟩ := Int.eq_ofNat_of_zero_le i0
  refine ⟨_, rfl, _, rfl, B, _, rfl, by omega, Nat.lt_of_le_of_lt (by omega : ((wd : Int)).natAbs ≤ 1000) (by decide), hB10, fun j H18 j0 j1 hB11 kb11 => ?_⟩
  obtain ⟨b, rfl⟩ := Int.eq_ofNat_of_zero_le j0
  have kb12 := (kb5.trans kb10).trans kb11
  obtain ⟨hp18, m18⟩ := hkeep _ kb12
  obtain ⟨t, e1, e2⟩ := m18.at (by omega : a < M.length)
  have hrm : M.getD a [] ∈ M := getD_mem (by omega)
  have hrl := hz.rows _ hrm
  have hre := hlow _ hrm
  obtain ⟨t', ht', tb, tn⟩ := hads _ (List.mem_of_getElem? e1)
  cases ht'
  have ntp : t ≠ p := m18.ne hp18 (by omega) e2
  refine ⟨_, _, rfl, ?_⟩
  refine ⟨_, rfl, _, rfl, _, _, _, _, rfl, rfl, SqL.of hp18, at_of (j := a) rfl e1, ?_⟩
  dsimp only [List.set_cons_succ, List.set_cons_zero]
  refine ⟨_, rfl, _, rfl, ix_sq (.inl (SqL.of e2)) (at_of (j := b) rfl (getD_map (by omega))) ?_⟩
  refine ⟨_, _, rfl, rfl, ?_⟩
  refine ⟨_, rfl, _, rfl, t, _, _, b, rfl, rfl, e2, ixN_at (by rw [List.length_map]; omega), ?_⟩
  generalize hrow : M.getD a [] = row at *
  have eset : (row.map V.int).set b (.int (row.getD b 0 + 1)) = (row.set b (row.getD b 0 + 1)).map V.int := by rw [List.map_set]
  have hnd' : rs.Nodup := hnd
  have m19 := m18.put hnd' (k := a) (row := row.set b (row.getD b 0 + 1)) e1
  have hp19 : (upd H18 t (.lst ((row.set b (row.getD b 0 + 1)).map V.int))) p = some (.lst rs) := by rw [upd_ne (Ne.symm ntp)]; exact hp18
  have hB12 : Bag B (upd H18 t (.lst ((row.set b (row.getD b 0 + 1)).map V.int))) := hB11.upd tb (hB4.nL tn)
  have kb19 : Kb B.b H (upd H18 t (.lst ((row.set b (row.getD b 0 + 1)).map V.int))) := fun c o h n => by
    have := kA.trans kb12 c o h n
    rw [upd_ne]
    · exact this
    · intro z
      subst z
      have := k4 _ _ h n
      rw [tn] at this
      cases this
  have hz' : Sz wd (M.set a (row.set b (row.getD b 0 + 1))) := ⟨fun r hr => by
    rcases List.mem_or_eq_of_mem_set hr with h | h
    · exact hz.rows r h
    · rw [h, List.length_set]
      exact hrl, by rw [List.length_set]; omega, by omega, fun r hr => by
    rcases List.mem_or_eq_of_mem_set hr with h | h
    · exact hz.eb r h
    · rw [h]
      intro x hx
      rcases List.mem_or_eq_of_mem_set hx with h2 | h2
      · exact hz.eb row hrm x h2
      · have h3 := hre.at b
        rw [h2]
        have h4 : 10 ^ 20 * 3 ^ 8 + 1 ≤ 2 ^ 80 := by decide
        have h5 : (row.getD b 0).natAbs ≤ 10 ^ 20 * 3 ^ 8 := h3
        generalize 10 ^ 20 * 3 ^ 8 = S at *
        generalize 2 ^ 80 = Z at *
        omega⟩
  show _
  dsimp only
  rw [eset]
  generalize upd H18 t (.lst ((row.set b (row.getD b 0 + 1)).map V.int)) = H19 at *
  generalize hM2 : M.set a (row.set b (row.getD b 0 + 1)) = N at *
  have nl : N.length = M.length := by rw [← hM2, List.length_set]
  have nl6 : N.length ≤ 6 := by omega
  obtain ⟨wr1', wr2'⟩ := wid_rows hz'.rows
  obtain ⟨mb1', mb2', mb3', mb4', mb5', mb6'⟩ := hz'.mb
  have hmN : ∀ {H'}, Same H19 H' → Mat H' p N := fun s => ⟨rs, s _ _ hp19, m19.same s⟩
  refine ⟨_, rfl, p, N, 2 ^ 80, 1000, cmb (widthOf N) 0 N.length, rfl, matS_of (hmN (Same.refl _)), wr1', mb1', mb3', mb4', mb5', mb6', by omega, by omega, chs_cmb (by omega) nl6, fun H20 s20 => ?_⟩
  refine ⟨_, rfl, p, N, 1000, wd, rfl, matS_of (hmN s20), hz'.rows, hz'.clb, by decide, by decide, by omega, by omega, fun H21 s21 => ?_⟩
  dsimp only
  refine ⟨(by show 2 ≤ sizeLine; decide), fun Lc hLc => ?_⟩
  have s22 := (s20.trans s21).trans (Same.new (o := .lst [.int (comG N (cmb (widthOf N) 0 N.length)), .int (clrRank N : Int)]) hLc)
  have hLc8 : (upd H21 Lc (.lst [.int (comG N (cmb (widthOf N) 0 N.length)), .int (clrRank N : Int)])) Lc = some (.lst ([comG N (cmb (widthOf N) 0 N.length), (clrRank N : Int)].map V.int)) := upd_same
  refine ⟨_, rfl, _, rfl, p, N, wd, 2 ^ 80, 1000, rfl, hmN s22, hz'.rows, by omega, by omega, hz'.mb, fun gd H22 s23 hgd => ?_⟩
  have hcom' := com_gcd2 hz'.rows hwd nl6 hgd
  refine ⟨_, rfl, p, N, wd, 80, rfl, hmN (s22.trans s23), hz'.rows, by omega, by omega, hz'.eb, hz'.fb, fun H23 s24 => ?_⟩
  refine ⟨(by show 2 ≤ sizeLine; decide), fun Ld hLd => ?_⟩
  have s25 := (s23.trans s24).trans (Same.new (o := .lst [.int (gd : Int), .int (clrRank N : Int)]) hLd)
  refine ⟨1, .ref Lc, .ref Ld, rfl, by decide, deq_ints (ns := [comG N (cmb (widthOf N) 0 N.length), (clrRank N : Int)]) (SqL.of (s25 _ _ hLc8)) (SqL.of (by rw [hcom']; exact upd_same)) (by show 2 ≤ 100; decide), fun H24 s26 => ?_⟩
  have sF := (s22.trans s25).trans s26
  exact q _ (hB12.same sF) (kb19.trans (Kb.same sF))
end
end TL
namespace TL
open PySem L2

/-! ### steps of a reading -/
local macro_rules | `(tactic| walk_at "hp") => `(tactic| first | assumption | exact upd_same | (refine (upd_ne (by first | assumption | (exact Ne.symm (by assumption)))).trans ?_; walk_at "hp"))
local macro_rules | `(tactic| walk_at "ok") => `(tactic| first | (exact Or.inr ⟨by decide, by decide⟩) | (exact ⟨by decide, by decide⟩) | (exact ⟨by decide, by decide, by decide⟩) | (show _ ≠ _; omega) | (show _ ≠ _; decide) | (exact Or.inl ⟨by omega, by omega⟩) | decide)
local macro_rules | `(tactic| walk_at "sq") => `(tactic| first | assumption | exact SqL.of (by walk_at "hp") | exact SqT.of (by walk_at "hp"))
local macro_rules | `(tactic| walk_at "ty") => `(tactic| first | refine ⟨_, _, Value.type "int", Value.type "list", false, rfl, ClsV.ty _, TyX.base (TyOf.int _), kt_int_list, ?_⟩ | refine ⟨_, _, Value.type "bool", Value.type "list", false, rfl, ClsV.ty _, TyX.base (TyOf.bl _), kt_bool_list, ?_⟩ | refine ⟨_, _, Value.type "str", Value.type "list", false, rfl, ClsV.ty _, TyX.base (TyOf.str _), kt_str_list, ?_⟩ | refine ⟨_, _, Value.type "NoneType", Value.type "list", false, rfl, ClsV.ty _, TyX.base TyOf.non, kt_NoneType_list, ?_⟩ | refine ⟨_, _, Value.type "list", Value.type "list", true, rfl, ClsV.ty _, tyx_L (by walk_at "sq"), kt_list_list, ?_⟩ | refine ⟨_, _, Value.type "tuple", Value.type "list", false, rfl, ClsV.ty _, tyx_T (by walk_at "sq"), kt_tuple_list, ?_⟩ | refine ⟨_, _, Value.type "int", Value.type "tuple", false, rfl, ClsV.ty _, TyX.base (TyOf.int _), kt_int_tuple, ?_⟩ | refine ⟨_, _, Value.type "bool", Value.type "tuple", false, rfl, ClsV.ty _, TyX.base (TyOf.bl _), kt_bool_tuple, ?_⟩ | refine ⟨_, _, Value.type "str", Value.type "tuple", false, rfl, ClsV.ty _, TyX.base (TyOf.str _), kt_str_tuple, ?_⟩ | refine ⟨_, _, Value.type "NoneType", Value.type "tuple", false, rfl, ClsV.ty _, TyX.base TyOf.non, kt_NoneType_tuple, ?_⟩ | refine ⟨_, _, Value.type "list", Value.type "tuple", false, rfl, ClsV.ty _, tyx_L (by walk_at "sq"), kt_list_tuple, ?_⟩ | refine ⟨_, _, Value.type "tuple", Value.type "tuple", true, rfl, ClsV.ty _, tyx_T (by walk_at "sq"), kt_tuple_tuple, ?_⟩ | refine ⟨_, _, Value.type "int", Value.type "bool", false, rfl, ClsV.ty _, TyX.base (TyOf.int _), kt_int_bool, ?_⟩ | refine ⟨_, _, Value.type "bool", Value.type "bool", true, rfl, ClsV.ty _, TyX.base (TyOf.bl _), kt_bool_bool, ?_⟩ | refine ⟨_, _, Value.type "str", Value.type "bool", false, rfl, ClsV.ty _, TyX.base (TyOf.str _), kt_str_bool, ?_⟩ | refine ⟨_, _, Value.type "NoneType", Value.type "bool", false, rfl, ClsV.ty _, TyX.base TyOf.non, kt_NoneType_bool, ?_⟩ | refine ⟨_, _, Value.type "list", Value.type "bool", false, rfl, ClsV.ty _, tyx_L (by walk_at "sq"), kt_list_bool, ?_⟩ | refine ⟨_, _, Value.type "tuple", Value.type "bool", false, rfl, ClsV.ty _, tyx_T (by walk_at "sq"), kt_tuple_bool, ?_⟩ | refine ⟨_, _, Value.type "int", Value.type "int", true, rfl, ClsV.ty _, TyX.base (TyOf.int _), kt_int_int, ?_⟩ | refine ⟨_, _, Value.type "bool", Value.type "int", true, rfl, ClsV.ty _, TyX.base (TyOf.bl _), kt_bool_int, ?_⟩ | refine ⟨_, _, Value.type "str", Value.type "int", false, rfl, ClsV.ty _, TyX.base (TyOf.str _), kt_str_int, ?_⟩ | refine ⟨_, _, Value.type "NoneType", Value.type "int", false, rfl, ClsV.ty _, TyX.base TyOf.non, kt_NoneType_int, ?_⟩ | refine ⟨_, _, Value.type "list", Value.type "int", false, rfl, ClsV.ty _, tyx_L (by walk_at "sq"), kt_list_int, ?_⟩ | refine ⟨_, _, Value.type "tuple", Value.type "int", false, rfl, ClsV.ty _, tyx_T (by walk_at "sq"), kt_tuple_int, ?_⟩ | refine ⟨_, _, Value.type "int", Value.type "str", false, rfl, ClsV.ty _, TyX.base (TyOf.int _), kt_int_str, ?_⟩ | refine ⟨_, _, Value.type "bool", Value.type "str", false, rfl, ClsV.ty _, TyX.base (TyOf.bl _), kt_bool_str, ?_⟩ | refine ⟨_, _, Value.type "str", Value.type "str", true, rfl, ClsV.ty _, TyX.base (TyOf.str _), kt_str_str, ?_⟩ | refine ⟨_, _, Value.type "NoneType", Value.type "str", false, rfl, ClsV.ty _, TyX.base TyOf.non, kt_NoneType_str, ?_⟩ | refine ⟨_, _, Value.type "list", Value.type "str", false, rfl, ClsV.ty _, tyx_L (by walk_at "sq"), kt_list_str, ?_⟩ | refine ⟨_, _, Value.type "tuple", Value.type "str", false, rfl, ClsV.ty _, tyx_T (by walk_at "sq"), kt_tuple_str, ?_⟩)
local macro_rules | `(tactic| walk_at "go1") => `(tactic| first
  | (refine ⟨_, rfl, ?_⟩)
  | (refine ⟨_, _, rfl, rfl, ?_⟩)
  | (refine ⟨_, _, _, _, rfl, rfl, SqL.of (by walk_at "hp"), rfl, ?_⟩)
  | (refine Or.inl ⟨_, rfl, ?_⟩)
  | (refine ⟨rfl, ?_⟩)
  | (refine ⟨_, _, rfl, .inl (SqL.of (by walk_at "hp")), ?_⟩)
  | (refine ⟨_, _, rfl, Or.inl (by assumption), ?_⟩)
  | (refine ⟨_, _, rfl, Or.inr (by assumption), ?_⟩)
  | (refine ⟨(by walk_at "ok"), ?_⟩)
  | (refine ⟨_, _, _, _, rfl, rfl, (by walk_at "hp"), rfl, ?_⟩))
local macro_rules | `(tactic| walk_at "go") => `(tactic| repeat (walk_at "go1"))
local macro_rules | `(tactic| walk_at "gt") => `(tactic| repeat (first | walk_at "go1" | walk_at "ty"))

section
variable {P : Program} {w : World} {K : PySem.W.Frag} {mg : Str → Option Value} {base : Heap}
-- [0=_law_script, 1=_law_bag_here, 2=_law_turn, 3=_law_high]
def spLaw (K : PySem.W.Frag) : Sp := fun vs H Q _ => ∃ (a : Addr) (ns : List Int), vs = [.ref a] ∧ SqL K H a (ns.map V.int) ∧ ns.length ≤ 63 ∧ ∀ H', Q (.bl true) H'
theorem matS_nil {H : Hp} {p : Addr} (h : Sq K H p []) : MatS K H p [] := ⟨[], h, rfl, fun i r hr => by cases hr⟩
theorem sz_nil : Sz 0 [] := ⟨fun row hr => (by cases hr), by decide, by decide, fun row hr => (by cases hr)⟩
theorem ok_law (T : Tx K mg) (hP : P.given.tree = none) : FnOk P w K mg base CX0 36 T.f_law T.d_law ["_law_script"] (spLaw K) := by
  have G_l_bag := ok_bag (P := P) (w := w) (base := base) T
  have G_l_draw := ok_draw (P := P) (w := w) (base := base) T
  have G_l_same := ok_same (P := P) (w := w) (base := base) T 3
  have G_common_minor := ok_common (P := P) (w := w) (base := base) T
  have G_rank_of := ok_rankS (P := P) (w := w) (base := base) T
  have G_determinant := ok_detS (P := P) (w := w) (base := base) T
  have G_l_square_so := ok_sq (P := P) (w := w) (base := base) T hP
  have G_l_wide_so := ok_wd (P := P) (w := w) (base := base) T hP
  refine T.F_law.ok sc_law (fun vs H Q E h => ?_) (fun cdv A outer s H vs Q E hr h => ?_)
  · obtain ⟨a, ns, rfl, _⟩ := h
    rfl
  obtain ⟨a, ns, rfl, hS, h63, q⟩ := h
  have nd := sc_law.nd
  refine ⟨_, (pss_cons (ps_set (i := 1) nd rfl (Or.inl rfl) (pe_call G_l_bag (hr.mono (by decide)) (by rfl) T.m_l_bag T.F_l_bag.kp T.b_l_bag .nil pass0 (pa_cons (pv 0) pa_nil)))
    (pss_cons (ps_if (pt_not (pt_val (pe_call G_l_same (hr.mono (by decide)) (by rfl) T.m_l_same T.F_l_same.kp T.b_l_same .nil pass0 (pa_cons (pe_lst (pa_cons (pe_call G_determinant (hr.mono (by decide)) (by rfl) T.m_determinant T.F_determinant.kp T.b_determinant .nil pass0 (pa_cons (pe_lst pa_nil) pa_nil)) (pa_cons (pe_call G_rank_of (hr.mono (by decide)) (by rfl) T.m_rank_of T.F_rank_of.kp T.b_rank_of .nil pass0 (pa_cons (pe_lst pa_nil) pa_nil)) (pa_cons (pe_call G_common_minor (hr.mono (by decide)) (by rfl) T.m_common_minor T.F_common_minor.kp T.b_common_minor .nil pass0 (pa_cons (pe_lst pa_nil) pa_nil)) (pa_cons (pe_call G_determinant (hr.mono (by decide)) (by rfl) T.m_determinant T.F_determinant.kp T.b_determinant .nil pass0 (pa_cons (pe_tup pa_nil) pa_nil)) (pa_cons (pe_call G_common_minor (hr.mono (by decide)) (by rfl) T.m_common_minor T.F_common_minor.kp T.b_common_minor .nil pass0 (pa_cons (pe_tup pa_nil) pa_nil)) pa_nil)))))) (pa_cons (pe_lst (pa_cons pe_int (pa_cons pe_int (pa_cons pe_int (pa_cons pe_int (pa_cons pe_int pa_nil)))))) pa_nil))))) (pss_one (ps_ret pe_bl)) pss_nil)
    (pss_cons (ps_for PassesOwn.never rfl (pi_range1 (by rfl) T.z_range (pa_cons pe_int pa_nil)) (pg_name (i := 2) nd rfl (Or.inl rfl)) (pss_one (ps_if (pt_not (pt_val (pe_call G_l_wide_so hr (by rfl) T.m_l_wide_so T.F_l_wide_so.kp T.b_l_wide_so .nil pass0 (pa_cons (pv 1) pa_nil)))) (pss_one (ps_ret pe_bl)) pss_nil)))
    (pss_cons (ps_set (i := 3) nd rfl (Or.inl rfl) (pe_ifExp (pt_cmpR op_eq (pe_call G_l_draw (hr.mono (by decide)) (by rfl) T.m_l_draw T.F_l_draw.kp T.b_l_draw .nil pass0 (pa_cons (pv 1) (pa_cons pe_int pa_nil))) pe_int (nomark _)) (pe_op op_add pe_int (pe_call G_l_draw (hr.mono (by decide)) (by rfl) T.m_l_draw T.F_l_draw.kp T.b_l_draw .nil pass0 (pa_cons (pv 1) (pa_cons pe_int pa_nil)))) (pe_call G_l_draw (hr.mono (by decide)) (by rfl) T.m_l_draw T.F_l_draw.kp T.b_l_draw .nil pass0 (pa_cons (pv 1) (pa_cons pe_int pa_nil)))))
    (pss_one (ps_ret (pe_and (pe_call G_l_square_so hr (by rfl) T.m_l_square_so T.F_l_square_so.kp T.b_l_square_so .nil pass0 (pa_cons (pv 1) (pa_cons (pv 3) pa_nil))) (pe_one (pe_call G_l_square_so hr (by rfl) T.m_l_square_so T.F_l_square_so.kp T.b_l_square_so .nil pass0 (pa_cons (pv 1) (pa_cons (pe_call G_l_draw (hr.mono (by decide)) (by rfl) T.m_l_draw T.F_l_draw.kp T.b_l_draw .nil pass0 (pa_cons (pv 1) (pa_cons pe_int pa_nil))) pa_nil))))))))))), ?_⟩
  refine ⟨_, rfl, a, ns, rfl, hS, h63, fun B H1 s1 hB hb => ?_⟩
  have d0 : detV ([] : List (List Int)) = 1 := by decide
  have r0 : clrRank ([] : List (List Int)) = 0 := by decide
  have c0 : comG ([] : List (List Int)) (cmb (widthOf []) 0 0) = 1 := by decide
  obtain ⟨mb1, mb2, mb3, mb4, mb5, mb6⟩ := sz_nil.mb
  refine ⟨(by show 0 ≤ sizeLine; decide), fun p1 hp1 => ?_⟩
  refine ⟨p1, [], 1000, 0, rfl, matS_nil (.inl (SqL.of upd_same)), sz_nil.rows, sz_nil.clb, by decide, by decide, by decide, by decide, fun H2 s2 => ?_⟩
  rw [d0]
  have t2 := (Same.new (o := .lst []) hp1).trans s2
  clear hp1 s2
  refine ⟨(by show 0 ≤ sizeLine; decide), fun p2 hp2 => ?_⟩
  refine ⟨p2, [], 1000, 0, rfl, matS_nil (.inl (SqL.of upd_same)), sz_nil.rows, sz_nil.clb, by decide, by decide, by decide, by decide, fun H3 s3 => ?_⟩
  have t3 := t2.trans ((Same.new (o := .lst []) hp2).trans s3)
  clear hp2 s3 t2
  refine ⟨(by show 0 ≤ sizeLine; decide), fun p3 hp3 => ?_⟩
  refine ⟨p3, [], 2 ^ 80, 1000, cmb (widthOf []) 0 0, rfl, matS_nil (.inl (SqL.of upd_same)), fun row hr => (by cases hr), mb1, mb3, mb4, mb5, mb6, by decide, by decide, chs_cmb (by decide) (by decide), fun H4 s4 => ?_⟩
  rw [c0]
  have t4 := t3.trans ((Same.new (o := .lst []) hp3).trans s4)
  clear hp3 s4 t3
  refine ⟨(by show 0 ≤ sizeLine; decide), fun p4 hp4 => ?_⟩
  refine ⟨p4, [], 1000, 0, rfl, matS_nil (.inr (SqT.of upd_same)), sz_nil.rows, sz_nil.clb, by decide, by decide, by decide, by decide, fun H5 s5 => ?_⟩
  rw [d0]
  have t5 := t4.trans ((Same.new (o := .tup []) hp4).trans s5)
  clear hp4 s5 t4
  refine ⟨(by show 0 ≤ sizeLine; decide), fun p5 hp5 => ?_⟩
  refine ⟨p5, [], 2 ^ 80, 1000, cmb (widthOf []) 0 0, rfl, matS_nil (.inr (SqT.of upd_same)), fun row hr => (by cases hr), mb1, mb3, mb4, mb5, mb6, by decide, by decide, chs_cmb (by decide) (by decide), fun H6 s6 => ?_⟩
  rw [c0]
  have t6 := t5.trans ((Same.new (o := .tup []) hp5).trans s6)
  clear hp5 s6 t5
  refine ⟨(by show 5 ≤ sizeLine; decide), fun La hLa => ?_⟩
  dsimp only
  rw [r0]
  have hLa8 : (upd H6 La (.lst [.int 1, .int ((0 : Nat) : Int), .int 1, .int 1, .int 1])) La = some (.lst ([1, 0, 1, 1, 1].map V.int)) := upd_same
  have t7 := Same.new (o := .lst [.int 1, .int ((0 : Nat) : Int), .int 1, .int 1, .int 1]) hLa
  refine ⟨(by show 5 ≤ sizeLine; decide), fun Lb hLb => ?_⟩
  have t8 := Same.new (o := .lst [.int 1, .int 0, .int 1, .int 1, .int 1]) hLb
  refine ⟨1, .ref La, .ref Lb, rfl, by decide, deq_ints (ns := [1, 0, 1, 1, 1]) (SqL.of (t8 _ _ hLa8)) (SqL.of upd_same) (by show 5 ≤ 100; decide), fun H7 s9 => ?_⟩
  refine ⟨true, rfl, ?_⟩
  refine iteF' (c := false) rfl ?_
  have hB7 := hB.same (t6.trans (t7.trans (t8.trans s9)))
  clear hLa8 t7 t8 s9 hLa hLb t6
  refine ⟨3, rfl, by decide, by decide, for_range (lo := 0) (n := 3) (fun i σ' H' => (∃ b2 b3, σ' = [some (.ref a), some (.ref B.b), b2, b3]) ∧ Bag B H') ⟨⟨_, _, rfl⟩, hB7⟩ ?_ ?_⟩
  · rintro i σ' H8 hi ⟨⟨b2, b3, rfl⟩, hB8⟩
    refine ⟨_, rfl, B, rfl, hB8, fun H9 hB9 kb9 => ?_⟩
    refine ⟨true, rfl, ?_⟩
    exact iteF' (c := false) rfl ⟨⟨_, _, rfl⟩, hB9⟩
  · rintro σ' H8 ⟨⟨b2, b3, rfl⟩, hB8⟩
    refine ⟨_, rfl, B, 6, rfl, by decide, by decide, hB8, fun d H9 d0 d1 hB9 kb9 => ?_⟩
    refine ⟨rfl, _, rfl, ?_⟩
    refine ite2 (fun _ => ?_) (fun _ => ?_)
    · refine ⟨_, rfl, B, 2, rfl, by decide, by decide, hB9, fun e H10 e0 e1 hB10 kb10 => ?_⟩
      refine ⟨_, _, rfl, rfl, ?_⟩
      obtain ⟨n, hn⟩ := Int.eq_ofNat_of_zero_le (show 0 ≤ (7 : Int) + e by omega)
      dsimp only
      rw [hn]
      refine ⟨_, rfl, _, rfl, B, n, rfl, by omega, hB10, fun H11 hB11 kb11 => ?_⟩
      refine ⟨true, rfl, ?_⟩
      refine ⟨_, rfl, _, rfl, B, 5, rfl, by decide, by decide, hB11, fun f H12 f0 f1 hB12 kb12 => ?_⟩
      obtain ⟨m, rfl⟩ := Int.eq_ofNat_of_zero_le f0
      exact ⟨B, m, rfl, by omega, hB12, fun H13 hB13 kb13 => q H13⟩
    · refine ⟨_, rfl, B, 7, rfl, by decide, by decide, hB9, fun e H10 e0 e1 hB10 kb10 => ?_⟩
      obtain ⟨n, rfl⟩ := Int.eq_ofNat_of_zero_le e0
      refine ⟨_, rfl, _, rfl, B, n, rfl, by omega, hB10, fun H11 hB11 kb11 => ?_⟩
      refine ⟨true, rfl, ?_⟩
      refine ⟨_, rfl, _, rfl, B, 5, rfl, by decide, by decide, hB11, fun f H12 f0 f1 hB12 kb12 => ?_⟩
      obtain ⟨m, rfl⟩ := Int.eq_ofNat_of_zero_le f0
      exact ⟨B, m, rfl, by omega, hB12, fun H13 hB13 kb13 => q H13⟩
end
end TL
namespace TL
open PySem L2
/-! ### the end -/
def TupO (o : Obj) (xs : List V) : Prop := ∃ (its : Array Value) (n : Nat), o.cls = .type "tuple" ∧ o.data = .seq its n ∧ its.size ≤ sizeLine ∧ Vals xs its.toList
theorem tupO_sq {K : PySem.W.Frag} {H : Hp} {a : Addr} {o : Obj} {xs : List V} (l : K.lookup a = some o) (v : TupO o xs) : SqT K H a xs := by
  obtain ⟨its, n, h1, h2, h3, h4⟩ := v
  exact .inr ⟨o, its, n, l, h1, h2, h3, h4⟩
set_option maxHeartbeats 0 in
theorem all_mk {P : Program} {w : World} {K : PySem.W.Frag} {h : Heap} {mg : Str → Option Value} {fa : Addr} {f1 : Addr} {od1 an1 : Option Addr} {sl1 : Array (Option Value)} {oc1 kV1 dc1 pm1 cd1 ct1 : Value} {f2 : Addr} {od2 an2 : Option Addr} {sl2 : Array (Option Value)} {oc2 kV2 dc2 pm2 cd2 ct2 : Value} {f3 : Addr} {od3 an3 : Option Addr} {sl3 : Array (Option Value)} {oc3 kV3 dc3 pm3 cd3 ct3 : Value} {f4 : Addr} {od4 an4 : Option Addr} {sl4 : Array (Option Value)} {oc4 kV4 dc4 pm4 cd4 ct4 : Value} {f5 : Addr} {od5 an5 : Option Addr} {sl5 : Array (Option Value)} {oc5 kV5 dc5 pm5 cd5 ct5 : Value} {f6 : Addr} {od6 an6 : Option Addr} {sl6 : Array (Option Value)} {oc6 kV6 dc6 pm6 cd6 ct6 : Value} {f7 : Addr} {od7 an7 : Option Addr} {sl7 : Array (Option Value)} {oc7 kV7 dc7 pm7 cd7 ct7 : Value} {f8 : Addr} {od8 an8 : Option Addr} {sl8 : Array (Option Value)} {oc8 kV8 dc8 pm8 cd8 ct8 : Value} {f9 : Addr} {od9 an9 : Option Addr} {sl9 : Array (Option Value)} {oc9 kV9 dc9 pm9 cd9 ct9 : Value} {f10 : Addr} {od10 an10 : Option Addr} {sl10 : Array (Option Value)} {oc10 kV10 dc10 pm10 cd10 ct10 : Value} {f11 : Addr} {od11 an11 : Option Addr} {sl11 : Array (Option Value)} {oc11 kV11 dc11 pm11 cd11 ct11 : Value} {f12 : Addr} {od12 an12 : Option Addr} {sl12 : Array (Option Value)} {oc12 kV12 dc12 pm12 cd12 ct12 : Value} {f13 : Addr} {od13 an13 : Option Addr} {sl13 : Array (Option Value)} {oc13 kV13 dc13 pm13 cd13 ct13 : Value} {f14 : Addr} {od14 an14 : Option Addr} {sl14 : Array (Option Value)} {oc14 kV14 dc14 pm14 cd14 ct14 : Value} {f15 : Addr} {od15 an15 : Option Addr} {sl15 : Array (Option Value)} {oc15 kV15 dc15 pm15 cd15 ct15 : Value} {f16 : Addr} {od16 an16 : Option Addr} {sl16 : Array (Option Value)} {oc16 kV16 dc16 pm16 cd16 ct16 : Value} {f17 : Addr} {od17 an17 : Option Addr} {sl17 : Array (Option Value)} {oc17 kV17 dc17 pm17 cd17 ct17 : Value} {f18 : Addr} {od18 an18 : Option Addr} {sl18 : Array (Option Value)} {oc18 kV18 dc18 pm18 cd18 ct18 : Value} {f19 : Addr} {od19 an19 : Option Addr} {sl19 : Array (Option Value)} {oc19 kV19 dc19 pm19 cd19 ct19 : Value} {f20 : Addr} {od20 an20 : Option Addr} {sl20 : Array (Option Value)} {oc20 kV20 dc20 pm20 cd20 ct20 : Value} {f21 : Addr} {od21 an21 : Option Addr} {sl21 : Array (Option Value)} {oc21 kV21 dc21 pm21 cd21 ct21 : Value} (X : K.In h) (G : h.Ns mainGlobals mg) (hfa : mg "law" = some (.ref fa)) (hP : P.given.tree = none) (sees : Sees K mg)
    (z_len : PySem.W.nsIn K mainGlobals "len" = some none)
    (z_abs : PySem.W.nsIn K mainGlobals "abs" = some none)
    (z_int : PySem.W.nsIn K mainGlobals "int" = some none)
    (z_isinstance : PySem.W.nsIn K mainGlobals "isinstance" = some none)
    (z_list : PySem.W.nsIn K mainGlobals "list" = some none)
    (z_tuple : PySem.W.nsIn K mainGlobals "tuple" = some none)
    (z_bool : PySem.W.nsIn K mainGlobals "bool" = some none)
    (z_str : PySem.W.nsIn K mainGlobals "str" = some none)
    (z_all : PySem.W.nsIn K mainGlobals "all" = some none)
    (z_zip : PySem.W.nsIn K mainGlobals "zip" = some none)
    (z_range : PySem.W.nsIn K mainGlobals "range" = some none)
    (gb_gcd : PySem.W.nsIn K mainGlobals "gcd" = some (some (.builtin "math.gcd")))
    (gi_combinations : PySem.W.nsIn K mainGlobals "combinations" = some (some (.type "itertools.combinations")))
    (a1 : PySem.W.nsIn K mainGlobals "_filled_from" = some (some (.ref f1)))
    (l1 : K.lookup f1 = some ⟨oc1, od1, .func (PySem.W.fnOf "_filled_from" "_filled_from" (defArgs s__filled_from) (defBody s__filled_from) (defScope s__filled_from) .none kV1 dc1 pm1 an1 cd1 ct1), sl1⟩)
    (c1 : PySem.W.codeIn K cd1 "_filled_from" = true)
    (k1 : PySem.W.keepIn K (.ref f1) = true)
    (a2 : PySem.W.nsIn K mainGlobals "_cleared" = some (some (.ref f2)))
    (l2 : K.lookup f2 = some ⟨oc2, od2, .func (PySem.W.fnOf "_cleared" "_cleared" (defArgs s__cleared) (defBody s__cleared) (defScope s__cleared) .none kV2 dc2 pm2 an2 cd2 ct2), sl2⟩)
    (c2 : PySem.W.codeIn K cd2 "_cleared" = true)
    (k2 : PySem.W.keepIn K (.ref f2) = true)
    (a3 : PySem.W.nsIn K mainGlobals "determinant" = some (some (.ref f3)))
    (l3 : K.lookup f3 = some ⟨oc3, od3, .func (PySem.W.fnOf "determinant" "determinant" (defArgs s_determinant) (defBody s_determinant) (defScope s_determinant) .none kV3 dc3 pm3 an3 cd3 ct3), sl3⟩)
    (c3 : PySem.W.codeIn K cd3 "determinant" = true)
    (k3 : PySem.W.keepIn K (.ref f3) = true)
    (a4 : PySem.W.nsIn K mainGlobals "rank_of" = some (some (.ref f4)))
    (l4 : K.lookup f4 = some ⟨oc4, od4, .func (PySem.W.fnOf "rank_of" "rank_of" (defArgs s_rank_of) (defBody s_rank_of) (defScope s_rank_of) .none kV4 dc4 pm4 an4 cd4 ct4), sl4⟩)
    (c4 : PySem.W.codeIn K cd4 "rank_of" = true)
    (k4 : PySem.W.keepIn K (.ref f4) = true)
    (a5 : PySem.W.nsIn K mainGlobals "common_minor" = some (some (.ref f5)))
    (l5 : K.lookup f5 = some ⟨oc5, od5, .func (PySem.W.fnOf "common_minor" "common_minor" (defArgs s_common_minor) (defBody s_common_minor) (defScope s_common_minor) .none kV5 dc5 pm5 an5 cd5 ct5), sl5⟩)
    (c5 : PySem.W.codeIn K cd5 "common_minor" = true)
    (k5 : PySem.W.keepIn K (.ref f5) = true)
    (a6 : PySem.W.nsIn K mainGlobals "_law_bag" = some (some (.ref f6)))
    (l6 : K.lookup f6 = some ⟨oc6, od6, .func (PySem.W.fnOf "_law_bag" "_law_bag" (defArgs s_l_bag) (defBody s_l_bag) (defScope s_l_bag) .none kV6 dc6 pm6 an6 cd6 ct6), sl6⟩)
    (c6 : PySem.W.codeIn K cd6 "_law_bag" = true)
    (k6 : PySem.W.keepIn K (.ref f6) = true)
    (a7 : PySem.W.nsIn K mainGlobals "_law_draw" = some (some (.ref f7)))
    (l7 : K.lookup f7 = some ⟨oc7, od7, .func (PySem.W.fnOf "_law_draw" "_law_draw" (defArgs s_l_draw) (defBody s_l_draw) (defScope s_l_draw) .none kV7 dc7 pm7 an7 cd7 ct7), sl7⟩)
    (c7 : PySem.W.codeIn K cd7 "_law_draw" = true)
    (k7 : PySem.W.keepIn K (.ref f7) = true)
    (a8 : PySem.W.nsIn K mainGlobals "_law_of" = some (some (.ref f8)))
    (l8 : K.lookup f8 = some ⟨oc8, od8, .func (PySem.W.fnOf "_law_of" "_law_of" (defArgs s_l_of) (defBody s_l_of) (defScope s_l_of) .none kV8 dc8 pm8 an8 cd8 ct8), sl8⟩)
    (c8 : PySem.W.codeIn K cd8 "_law_of" = true)
    (k8 : PySem.W.keepIn K (.ref f8) = true)
    (a9 : PySem.W.nsIn K mainGlobals "_law_mixed" = some (some (.ref f9)))
    (l9 : K.lookup f9 = some ⟨oc9, od9, .func (PySem.W.fnOf "_law_mixed" "_law_mixed" (defArgs s_l_mixed) (defBody s_l_mixed) (defScope s_l_mixed) .none kV9 dc9 pm9 an9 cd9 ct9), sl9⟩)
    (c9 : PySem.W.codeIn K cd9 "_law_mixed" = true)
    (k9 : PySem.W.keepIn K (.ref f9) = true)
    (a10 : PySem.W.nsIn K mainGlobals "_law_same" = some (some (.ref f10)))
    (l10 : K.lookup f10 = some ⟨oc10, od10, .func (PySem.W.fnOf "_law_same" "_law_same" (defArgs s_l_same) (defBody s_l_same) (defScope s_l_same) .none kV10 dc10 pm10 an10 cd10 ct10), sl10⟩)
    (c10 : PySem.W.codeIn K cd10 "_law_same" = true)
    (k10 : PySem.W.keepIn K (.ref f10) = true)
    (a11 : PySem.W.nsIn K mainGlobals "_law_gcd" = some (some (.ref f11)))
    (l11 : K.lookup f11 = some ⟨oc11, od11, .func (PySem.W.fnOf "_law_gcd" "_law_gcd" (defArgs s_l_gcd) (defBody s_l_gcd) (defScope s_l_gcd) .none kV11 dc11 pm11 an11 cd11 ct11), sl11⟩)
    (c11 : PySem.W.codeIn K cd11 "_law_gcd" = true)
    (k11 : PySem.W.keepIn K (.ref f11) = true)
    (a12 : PySem.W.nsIn K mainGlobals "_law_minors" = some (some (.ref f12)))
    (l12 : K.lookup f12 = some ⟨oc12, od12, .func (PySem.W.fnOf "_law_minors" "_law_minors" (defArgs s_l_minors) (defBody s_l_minors) (defScope s_l_minors) .none kV12 dc12 pm12 an12 cd12 ct12), sl12⟩)
    (c12 : PySem.W.codeIn K cd12 "_law_minors" = true)
    (k12 : PySem.W.keepIn K (.ref f12) = true)
    (a13 : PySem.W.nsIn K mainGlobals "_law_determinant" = some (some (.ref f13)))
    (l13 : K.lookup f13 = some ⟨oc13, od13, .func (PySem.W.fnOf "_law_determinant" "_law_determinant" (defArgs s_l_determinant) (defBody s_l_determinant) (defScope s_l_determinant) .none kV13 dc13 pm13 an13 cd13 ct13), sl13⟩)
    (c13 : PySem.W.codeIn K cd13 "_law_determinant" = true)
    (k13 : PySem.W.keepIn K (.ref f13) = true)
    (a14 : PySem.W.nsIn K mainGlobals "_law_rank" = some (some (.ref f14)))
    (l14 : K.lookup f14 = some ⟨oc14, od14, .func (PySem.W.fnOf "_law_rank" "_law_rank" (defArgs s_l_rank) (defBody s_l_rank) (defScope s_l_rank) .none kV14 dc14 pm14 an14 cd14 ct14), sl14⟩)
    (c14 : PySem.W.codeIn K cd14 "_law_rank" = true)
    (k14 : PySem.W.keepIn K (.ref f14) = true)
    (a15 : PySem.W.nsIn K mainGlobals "_law_content" = some (some (.ref f15)))
    (l15 : K.lookup f15 = some ⟨oc15, od15, .func (PySem.W.fnOf "_law_content" "_law_content" (defArgs s_l_content) (defBody s_l_content) (defScope s_l_content) .none kV15 dc15 pm15 an15 cd15 ct15), sl15⟩)
    (c15 : PySem.W.codeIn K cd15 "_law_content" = true)
    (k15 : PySem.W.keepIn K (.ref f15) = true)
    (a16 : PySem.W.nsIn K mainGlobals "_law_lot" = some (some (.ref f16)))
    (l16 : K.lookup f16 = some ⟨oc16, od16, .func (PySem.W.fnOf "_law_lot" "_law_lot" (defArgs s_l_lot) (defBody s_l_lot) (defScope s_l_lot) .none kV16 dc16 pm16 an16 cd16 ct16), sl16⟩)
    (c16 : PySem.W.codeIn K cd16 "_law_lot" = true)
    (k16 : PySem.W.keepIn K (.ref f16) = true)
    (a17 : PySem.W.nsIn K mainGlobals "_law_taken" = some (some (.ref f17)))
    (l17 : K.lookup f17 = some ⟨oc17, od17, .func (PySem.W.fnOf "_law_taken" "_law_taken" (defArgs s_l_taken) (defBody s_l_taken) (defScope s_l_taken) .none kV17 dc17 pm17 an17 cd17 ct17), sl17⟩)
    (c17 : PySem.W.codeIn K cd17 "_law_taken" = true)
    (k17 : PySem.W.keepIn K (.ref f17) = true)
    (a18 : PySem.W.nsIn K mainGlobals "_law_common" = some (some (.ref f18)))
    (l18 : K.lookup f18 = some ⟨oc18, od18, .func (PySem.W.fnOf "_law_common" "_law_common" (defArgs s_l_common) (defBody s_l_common) (defScope s_l_common) .none kV18 dc18 pm18 an18 cd18 ct18), sl18⟩)
    (c18 : PySem.W.codeIn K cd18 "_law_common" = true)
    (k18 : PySem.W.keepIn K (.ref f18) = true)
    (a19 : PySem.W.nsIn K mainGlobals "_law_square_so" = some (some (.ref f19)))
    (l19 : K.lookup f19 = some ⟨oc19, od19, .func (PySem.W.fnOf "_law_square_so" "_law_square_so" (defArgs s_l_square_so) (defBody s_l_square_so) (defScope s_l_square_so) .none kV19 dc19 pm19 an19 cd19 ct19), sl19⟩)
    (c19 : PySem.W.codeIn K cd19 "_law_square_so" = true)
    (k19 : PySem.W.keepIn K (.ref f19) = true)
    (a20 : PySem.W.nsIn K mainGlobals "_law_wide_so" = some (some (.ref f20)))
    (l20 : K.lookup f20 = some ⟨oc20, od20, .func (PySem.W.fnOf "_law_wide_so" "_law_wide_so" (defArgs s_l_wide_so) (defBody s_l_wide_so) (defScope s_l_wide_so) .none kV20 dc20 pm20 an20 cd20 ct20), sl20⟩)
    (c20 : PySem.W.codeIn K cd20 "_law_wide_so" = true)
    (k20 : PySem.W.keepIn K (.ref f20) = true)
    (a21 : PySem.W.nsIn K mainGlobals "law" = some (some (.ref f21)))
    (l21 : K.lookup f21 = some ⟨oc21, od21, .func (PySem.W.fnOf "law" "law" (defArgs s_law) (defBody s_law) (defScope s_law) .none kV21 dc21 pm21 an21 cd21 ct21), sl21⟩)
    (c21 : PySem.W.codeIn K cd21 "law" = true)
    (k21 : PySem.W.keepIn K (.ref f21) = true)
    : ∃ fd : FuncData, (∀ (s : Shared) (v : Value), BindsTo s fd ⟨[v], []⟩ [("_law_script", v)]) ∧ ∀ base : Heap, K.In base → base.Ns mainGlobals mg → FnOk P w K mg base CX0 36 fa fd ["_law_script"] (spLaw K) := by
  have e := hfa.symm.trans (PySem.W.mg_of X G a21)
  cases e
  have F1 := fun_mk (st := s__filled_from) l1 c1 k1
  have b1 := F1.binds (ps := ["rows", "first", "column"]) fun _ _ _ _ _ _ us hl => match us, hl with | [_, _, _], _ => rfl
  have F2 := fun_mk (st := s__cleared) l2 c2 k2
  have b2 := F2.binds (ps := ["matrix"]) fun _ _ _ _ _ _ us hl => match us, hl with | [_], _ => rfl
  have F3 := fun_mk (st := s_determinant) l3 c3 k3
  have b3 := F3.binds (ps := ["matrix"]) fun _ _ _ _ _ _ us hl => match us, hl with | [_], _ => rfl
  have F4 := fun_mk (st := s_rank_of) l4 c4 k4
  have b4 := F4.binds (ps := ["matrix"]) fun _ _ _ _ _ _ us hl => match us, hl with | [_], _ => rfl
  have F5 := fun_mk (st := s_common_minor) l5 c5 k5
  have b5 := F5.binds (ps := ["matrix"]) fun _ _ _ _ _ _ us hl => match us, hl with | [_], _ => rfl
  have F6 := fun_mk (st := s_l_bag) l6 c6 k6
  have b6 := F6.binds (ps := ["_law_script"]) fun _ _ _ _ _ _ us hl => match us, hl with | [_], _ => rfl
  have F7 := fun_mk (st := s_l_draw) l7 c7 k7
  have b7 := F7.binds (ps := ["_law_bag_here", "_law_sides"]) fun _ _ _ _ _ _ us hl => match us, hl with | [_, _], _ => rfl
  have F8 := fun_mk (st := s_l_of) l8 c8 k8
  have b8 := F8.binds (ps := ["_law_bag_here", "_law_things"]) fun _ _ _ _ _ _ us hl => match us, hl with | [_, _], _ => rfl
  have F9 := fun_mk (st := s_l_mixed) l9 c9 k9
  have b9 := F9.binds (ps := ["_law_bag_here", "_law_things"]) fun _ _ _ _ _ _ us hl => match us, hl with | [_, _], _ => rfl
  have F10 := fun_mk (st := s_l_same) l10 c10 k10
  have b10 := F10.binds (ps := ["_law_found", "_law_due"]) fun _ _ _ _ _ _ us hl => match us, hl with | [_, _], _ => rfl
  have F11 := fun_mk (st := s_l_gcd) l11 c11 k11
  have b11 := F11.binds (ps := ["_law_x", "_law_y"]) fun _ _ _ _ _ _ us hl => match us, hl with | [_, _], _ => rfl
  have F12 := fun_mk (st := s_l_minors) l12 c12 k12
  have b12 := F12.binds (ps := ["_law_lot_here", "_law_wide"]) fun _ _ _ _ _ _ us hl => match us, hl with | [_, _], _ => rfl
  have F13 := fun_mk (st := s_l_determinant) l13 c13 k13
  have b13 := F13.binds (ps := ["_law_lot_here"]) fun _ _ _ _ _ _ us hl => match us, hl with | [_], _ => rfl
  have F14 := fun_mk (st := s_l_rank) l14 c14 k14
  have b14 := F14.binds (ps := ["_law_lot_here"]) fun _ _ _ _ _ _ us hl => match us, hl with | [_], _ => rfl
  have F15 := fun_mk (st := s_l_content) l15 c15 k15
  have b15 := F15.binds (ps := ["_law_numbers"]) fun _ _ _ _ _ _ us hl => match us, hl with | [_], _ => rfl
  have F16 := fun_mk (st := s_l_lot) l16 c16 k16
  have b16 := F16.binds (ps := ["_law_bag_here", "_law_high", "_law_wide"]) fun _ _ _ _ _ _ us hl => match us, hl with | [_, _, _], _ => rfl
  have F17 := fun_mk (st := s_l_taken) l17 c17 k17
  have b17 := F17.binds (ps := ["_law_bag_here", "_law_lot_here"]) fun _ _ _ _ _ _ us hl => match us, hl with | [_, _], _ => rfl
  have F18 := fun_mk (st := s_l_common) l18 c18 k18
  have b18 := F18.binds (ps := ["_law_lot_here", "_law_wide"]) fun _ _ _ _ _ _ us hl => match us, hl with | [_, _], _ => rfl
  have F19 := fun_mk (st := s_l_square_so) l19 c19 k19
  have b19 := F19.binds (ps := ["_law_bag_here", "_law_high"]) fun _ _ _ _ _ _ us hl => match us, hl with | [_, _], _ => rfl
  have F20 := fun_mk (st := s_l_wide_so) l20 c20 k20
  have b20 := F20.binds (ps := ["_law_bag_here"]) fun _ _ _ _ _ _ us hl => match us, hl with | [_], _ => rfl
  have F21 := fun_mk (st := s_law) l21 c21 k21
  have b21 := F21.binds (ps := ["_law_script"]) fun _ _ _ _ _ _ us hl => match us, hl with | [_], _ => rfl
  have kb_determinant : KBinds K _ ["matrix"] ["matrix"] g01 g01 := Fun.kb01 F3 fun _ _ _ _ _ _ _ => rfl
  have kb_rank_of : KBinds K _ ["matrix"] ["matrix"] g01 g01 := Fun.kb01 F4 fun _ _ _ _ _ _ _ => rfl
  have kb_common_minor : KBinds K _ ["matrix"] ["matrix"] g01 g01 := Fun.kb01 F5 fun _ _ _ _ _ _ _ => rfl
  exact ⟨PySem.W.fnOf "law" "law" (defArgs s_law) (defBody s_law) (defScope s_law) .none kV21 dc21 pm21 an21 cd21 ct21, fun s v => .of_eq rfl, fun base _ _ => ok_law (T := {
    z_len := PySem.W.mg_none_of X G z_len
    z_abs := PySem.W.mg_none_of X G z_abs
    z_int := PySem.W.mg_none_of X G z_int
    z_isinstance := PySem.W.mg_none_of X G z_isinstance
    z_list := PySem.W.mg_none_of X G z_list
    z_tuple := PySem.W.mg_none_of X G z_tuple
    z_bool := PySem.W.mg_none_of X G z_bool
    z_str := PySem.W.mg_none_of X G z_str
    z_all := PySem.W.mg_none_of X G z_all
    z_zip := PySem.W.mg_none_of X G z_zip
    z_range := PySem.W.mg_none_of X G z_range
    m_gcd := PySem.W.mg_of X G gb_gcd
    m_combinations := PySem.W.mg_of X G gi_combinations
    f__filled_from := f1
    d__filled_from := PySem.W.fnOf "_filled_from" "_filled_from" (defArgs s__filled_from) (defBody s__filled_from) (defScope s__filled_from) .none kV1 dc1 pm1 an1 cd1 ct1
    F__filled_from := F1
    b__filled_from := b1
    m__filled_from := PySem.W.mg_of X G a1
    f__cleared := f2
    d__cleared := PySem.W.fnOf "_cleared" "_cleared" (defArgs s__cleared) (defBody s__cleared) (defScope s__cleared) .none kV2 dc2 pm2 an2 cd2 ct2
    F__cleared := F2
    b__cleared := b2
    m__cleared := PySem.W.mg_of X G a2
    f_determinant := f3
    d_determinant := PySem.W.fnOf "determinant" "determinant" (defArgs s_determinant) (defBody s_determinant) (defScope s_determinant) .none kV3 dc3 pm3 an3 cd3 ct3
    F_determinant := F3
    b_determinant := b3
    m_determinant := PySem.W.mg_of X G a3
    f_rank_of := f4
    d_rank_of := PySem.W.fnOf "rank_of" "rank_of" (defArgs s_rank_of) (defBody s_rank_of) (defScope s_rank_of) .none kV4 dc4 pm4 an4 cd4 ct4
    F_rank_of := F4
    b_rank_of := b4
    m_rank_of := PySem.W.mg_of X G a4
    f_common_minor := f5
    d_common_minor := PySem.W.fnOf "common_minor" "common_minor" (defArgs s_common_minor) (defBody s_common_minor) (defScope s_common_minor) .none kV5 dc5 pm5 an5 cd5 ct5
    F_common_minor := F5
    b_common_minor := b5
    m_common_minor := PySem.W.mg_of X G a5
    f_l_bag := f6
    d_l_bag := PySem.W.fnOf "_law_bag" "_law_bag" (defArgs s_l_bag) (defBody s_l_bag) (defScope s_l_bag) .none kV6 dc6 pm6 an6 cd6 ct6
    F_l_bag := F6
    b_l_bag := b6
    m_l_bag := PySem.W.mg_of X G a6
    f_l_draw := f7
    d_l_draw := PySem.W.fnOf "_law_draw" "_law_draw" (defArgs s_l_draw) (defBody s_l_draw) (defScope s_l_draw) .none kV7 dc7 pm7 an7 cd7 ct7
    F_l_draw := F7
    b_l_draw := b7
    m_l_draw := PySem.W.mg_of X G a7
    f_l_of := f8
    d_l_of := PySem.W.fnOf "_law_of" "_law_of" (defArgs s_l_of) (defBody s_l_of) (defScope s_l_of) .none kV8 dc8 pm8 an8 cd8 ct8
    F_l_of := F8
    b_l_of := b8
    m_l_of := PySem.W.mg_of X G a8
    f_l_mixed := f9
    d_l_mixed := PySem.W.fnOf "_law_mixed" "_law_mixed" (defArgs s_l_mixed) (defBody s_l_mixed) (defScope s_l_mixed) .none kV9 dc9 pm9 an9 cd9 ct9
    F_l_mixed := F9
    b_l_mixed := b9
    m_l_mixed := PySem.W.mg_of X G a9
    f_l_same := f10
    d_l_same := PySem.W.fnOf "_law_same" "_law_same" (defArgs s_l_same) (defBody s_l_same) (defScope s_l_same) .none kV10 dc10 pm10 an10 cd10 ct10
    F_l_same := F10
    b_l_same := b10
    m_l_same := PySem.W.mg_of X G a10
    f_l_gcd := f11
    d_l_gcd := PySem.W.fnOf "_law_gcd" "_law_gcd" (defArgs s_l_gcd) (defBody s_l_gcd) (defScope s_l_gcd) .none kV11 dc11 pm11 an11 cd11 ct11
    F_l_gcd := F11
    b_l_gcd := b11
    m_l_gcd := PySem.W.mg_of X G a11
    f_l_minors := f12
    d_l_minors := PySem.W.fnOf "_law_minors" "_law_minors" (defArgs s_l_minors) (defBody s_l_minors) (defScope s_l_minors) .none kV12 dc12 pm12 an12 cd12 ct12
    F_l_minors := F12
    b_l_minors := b12
    m_l_minors := PySem.W.mg_of X G a12
    f_l_determinant := f13
    d_l_determinant := PySem.W.fnOf "_law_determinant" "_law_determinant" (defArgs s_l_determinant) (defBody s_l_determinant) (defScope s_l_determinant) .none kV13 dc13 pm13 an13 cd13 ct13
    F_l_determinant := F13
    b_l_determinant := b13
    m_l_determinant := PySem.W.mg_of X G a13
    f_l_rank := f14
    d_l_rank := PySem.W.fnOf "_law_rank" "_law_rank" (defArgs s_l_rank) (defBody s_l_rank) (defScope s_l_rank) .none kV14 dc14 pm14 an14 cd14 ct14
    F_l_rank := F14
    b_l_rank := b14
    m_l_rank := PySem.W.mg_of X G a14
    f_l_content := f15
    d_l_content := PySem.W.fnOf "_law_content" "_law_content" (defArgs s_l_content) (defBody s_l_content) (defScope s_l_content) .none kV15 dc15 pm15 an15 cd15 ct15
    F_l_content := F15
    b_l_content := b15
    m_l_content := PySem.W.mg_of X G a15
    f_l_lot := f16
    d_l_lot := PySem.W.fnOf "_law_lot" "_law_lot" (defArgs s_l_lot) (defBody s_l_lot) (defScope s_l_lot) .none kV16 dc16 pm16 an16 cd16 ct16
    F_l_lot := F16
    b_l_lot := b16
    m_l_lot := PySem.W.mg_of X G a16
    f_l_taken := f17
    d_l_taken := PySem.W.fnOf "_law_taken" "_law_taken" (defArgs s_l_taken) (defBody s_l_taken) (defScope s_l_taken) .none kV17 dc17 pm17 an17 cd17 ct17
    F_l_taken := F17
    b_l_taken := b17
    m_l_taken := PySem.W.mg_of X G a17
    f_l_common := f18
    d_l_common := PySem.W.fnOf "_law_common" "_law_common" (defArgs s_l_common) (defBody s_l_common) (defScope s_l_common) .none kV18 dc18 pm18 an18 cd18 ct18
    F_l_common := F18
    b_l_common := b18
    m_l_common := PySem.W.mg_of X G a18
    f_l_square_so := f19
    d_l_square_so := PySem.W.fnOf "_law_square_so" "_law_square_so" (defArgs s_l_square_so) (defBody s_l_square_so) (defScope s_l_square_so) .none kV19 dc19 pm19 an19 cd19 ct19
    F_l_square_so := F19
    b_l_square_so := b19
    m_l_square_so := PySem.W.mg_of X G a19
    f_l_wide_so := f20
    d_l_wide_so := PySem.W.fnOf "_law_wide_so" "_law_wide_so" (defArgs s_l_wide_so) (defBody s_l_wide_so) (defScope s_l_wide_so) .none kV20 dc20 pm20 an20 cd20 ct20
    F_l_wide_so := F20
    b_l_wide_so := b20
    m_l_wide_so := PySem.W.mg_of X G a20
    f_law := fa
    d_law := PySem.W.fnOf "law" "law" (defArgs s_law) (defBody s_law) (defScope s_law) .none kV21 dc21 pm21 an21 cd21 ct21
    F_law := F21
    b_law := b21
    m_law := PySem.W.mg_of X G a21
    sees := sees
    kb_determinant := kb_determinant
    kb_rank_of := kb_rank_of
    kb_common_minor := kb_common_minor
  } ) hP⟩
theorem walk {l : PySem.W.OpenLaw} {q : Program} {loose : List Str} {XP : (Str → Option Value) → Heap → Prop} {YP : World → Heap → Prop} {d : DefRec} {K : Params → PySem.W.Frag} (hn : l.most = some 63) (hdf : d.params.defaults = []) (hq : PyProof.Rows.importsNone q = true)
    (hY : ∀ (w : World) (h : Heap), YP w h → (K w.params).In h)
    (F : ∀ (w : World) (mg : Str → Option Value) (fa : Addr) (h : Heap) (L : PySem.W.Frag), PySem.W.Frag.In (K w.params ++ L) h → h.Ns mainGlobals mg → mg d.name = some (.ref fa) → Sees (K w.params ++ L) mg →
      ∃ fd : FuncData, (∀ (s : Shared) (u : Value), BindsTo s fd ⟨[u], []⟩ [("_law_script", u)]) ∧ ∀ base : Heap, PySem.W.Frag.In (K w.params ++ L) base → base.Ns mainGlobals mg → FnOk l.prog w (K w.params ++ L) mg base CX0 36 fa fd ["_law_script"] (spLaw (K w.params ++ L))) :
    PySem.W.WalkO q loose XP YP l.row.toRowW d [] (fun f vs => PySem.call f vs) :=
  walkS (n := 63) (k := 36) (x := "_law_script") (sp := spLaw) hn (by decide) hdf ⟨rfl, by decide, by decide⟩ hq hY F (fun _ _ a ns hl _ hS => ⟨a, ns, rfl, hS, hl, fun _ => rfl⟩)
end TL
open PySem PySem.W PyProof.Rows
set_option maxRecDepth 100000 in
set_option maxHeartbeats 0 in
theorem PySem.Challenge.cw_turnsleft_k05_matrices_reckoned_holds : PySem.Challenge.rw_turnsleft_k05_matrices_reckoned.Holds := by
  w_on; o_law; k_head; (case hw => w_witness2)
  k_fill
  refine TL.walk (l := PySem.Challenge.rw_turnsleft_k05_matrices_reckoned) rfl rfl (by decide +kernel) (fun w h Y => PySem.W.kIn_of Y) ?F
  case F =>
    intro w mg fa h L KX G hmg S
    refine' TL.all_mk KX G hmg rfl S ?z_len ?z_abs ?z_int ?z_isinstance ?z_list ?z_tuple ?z_bool ?z_str ?z_all ?z_zip ?z_range ?gb_gcd ?gi_combinations ?a1 ?l1 ?c1 ?k1 ?a2 ?l2 ?c2 ?k2 ?a3 ?l3 ?c3 ?k3 ?a4 ?l4 ?c4 ?k4 ?a5 ?l5 ?c5 ?k5 ?a6 ?l6 ?c6 ?k6 ?a7 ?l7 ?c7 ?k7 ?a8 ?l8 ?c8 ?k8 ?a9 ?l9 ?c9 ?k9 ?a10 ?l10 ?c10 ?k10 ?a11 ?l11 ?c11 ?k11 ?a12 ?l12 ?c12 ?k12 ?a13 ?l13 ?c13 ?k13 ?a14 ?l14 ?c14 ?k14 ?a15 ?l15 ?c15 ?k15 ?a16 ?l16 ?c16 ?k16 ?a17 ?l17 ?c17 ?k17 ?a18 ?l18 ?c18 ?k18 ?a19 ?l19 ?c19 ?k19 ?a20 ?l20 ?c20 ?k20 ?a21 ?l21 ?c21 ?k21
    (case z_len => exact TL.ns_app (by k_is))
    (case z_abs => exact TL.ns_app (by k_is))
    (case z_int => exact TL.ns_app (by k_is))
    (case z_isinstance => exact TL.ns_app (by k_is))
    (case z_list => exact TL.ns_app (by k_is))
    (case z_tuple => exact TL.ns_app (by k_is))
    (case z_bool => exact TL.ns_app (by k_is))
    (case z_str => exact TL.ns_app (by k_is))
    (case z_all => exact TL.ns_app (by k_is))
    (case z_zip => exact TL.ns_app (by k_is))
    (case z_range => exact TL.ns_app (by k_is))
    (case gb_gcd => exact TL.ns_app (by k_is))
    (case gi_combinations => exact TL.ns_app (by k_is))
    (case a1 => exact TL.ns_app (by k_is))
    (case l1 => exact TL.lk_app (by k_is))
    (case c1 => exact TL.code_app (by k_is))
    (case k1 => exact TL.keep_app (by k_is) ⟨_, _, _, _, by k_is⟩)
    (case a2 => exact TL.ns_app (by k_is))
    (case l2 => exact TL.lk_app (by k_is))
    (case c2 => exact TL.code_app (by k_is))
    (case k2 => exact TL.keep_app (by k_is) ⟨_, _, _, _, by k_is⟩)
    (case a3 => exact TL.ns_app (by k_is))
    (case l3 => exact TL.lk_app (by k_is))
    (case c3 => exact TL.code_app (by k_is))
    (case k3 => exact TL.keep_app (by k_is) ⟨_, _, _, _, by k_is⟩)
    (case a4 => exact TL.ns_app (by k_is))
    (case l4 => exact TL.lk_app (by k_is))
    (case c4 => exact TL.code_app (by k_is))
    (case k4 => exact TL.keep_app (by k_is) ⟨_, _, _, _, by k_is⟩)
    (case a5 => exact TL.ns_app (by k_is))
    (case l5 => exact TL.lk_app (by k_is))
    (case c5 => exact TL.code_app (by k_is))
    (case k5 => exact TL.keep_app (by k_is) ⟨_, _, _, _, by k_is⟩)
    (case a6 => exact TL.ns_app (by k_is))
    (case l6 => exact TL.lk_app (by k_is))
    (case c6 => exact TL.code_app (by k_is))
    (case k6 => exact TL.keep_app (by k_is) ⟨_, _, _, _, by k_is⟩)
    (case a7 => exact TL.ns_app (by k_is))
    (case l7 => exact TL.lk_app (by k_is))
    (case c7 => exact TL.code_app (by k_is))
    (case k7 => exact TL.keep_app (by k_is) ⟨_, _, _, _, by k_is⟩)
    (case a8 => exact TL.ns_app (by k_is))
    (case l8 => exact TL.lk_app (by k_is))
    (case c8 => exact TL.code_app (by k_is))
    (case k8 => exact TL.keep_app (by k_is) ⟨_, _, _, _, by k_is⟩)
    (case a9 => exact TL.ns_app (by k_is))
    (case l9 => exact TL.lk_app (by k_is))
    (case c9 => exact TL.code_app (by k_is))
    (case k9 => exact TL.keep_app (by k_is) ⟨_, _, _, _, by k_is⟩)
    (case a10 => exact TL.ns_app (by k_is))
    (case l10 => exact TL.lk_app (by k_is))
    (case c10 => exact TL.code_app (by k_is))
    (case k10 => exact TL.keep_app (by k_is) ⟨_, _, _, _, by k_is⟩)
    (case a11 => exact TL.ns_app (by k_is))
    (case l11 => exact TL.lk_app (by k_is))
    (case c11 => exact TL.code_app (by k_is))
    (case k11 => exact TL.keep_app (by k_is) ⟨_, _, _, _, by k_is⟩)
    (case a12 => exact TL.ns_app (by k_is))
    (case l12 => exact TL.lk_app (by k_is))
    (case c12 => exact TL.code_app (by k_is))
    (case k12 => exact TL.keep_app (by k_is) ⟨_, _, _, _, by k_is⟩)
    (case a13 => exact TL.ns_app (by k_is))
    (case l13 => exact TL.lk_app (by k_is))
    (case c13 => exact TL.code_app (by k_is))
    (case k13 => exact TL.keep_app (by k_is) ⟨_, _, _, _, by k_is⟩)
    (case a14 => exact TL.ns_app (by k_is))
    (case l14 => exact TL.lk_app (by k_is))
    (case c14 => exact TL.code_app (by k_is))
    (case k14 => exact TL.keep_app (by k_is) ⟨_, _, _, _, by k_is⟩)
    (case a15 => exact TL.ns_app (by k_is))
    (case l15 => exact TL.lk_app (by k_is))
    (case c15 => exact TL.code_app (by k_is))
    (case k15 => exact TL.keep_app (by k_is) ⟨_, _, _, _, by k_is⟩)
    (case a16 => exact TL.ns_app (by k_is))
    (case l16 => exact TL.lk_app (by k_is))
    (case c16 => exact TL.code_app (by k_is))
    (case k16 => exact TL.keep_app (by k_is) ⟨_, _, _, _, by k_is⟩)
    (case a17 => exact TL.ns_app (by k_is))
    (case l17 => exact TL.lk_app (by k_is))
    (case c17 => exact TL.code_app (by k_is))
    (case k17 => exact TL.keep_app (by k_is) ⟨_, _, _, _, by k_is⟩)
    (case a18 => exact TL.ns_app (by k_is))
    (case l18 => exact TL.lk_app (by k_is))
    (case c18 => exact TL.code_app (by k_is))
    (case k18 => exact TL.keep_app (by k_is) ⟨_, _, _, _, by k_is⟩)
    (case a19 => exact TL.ns_app (by k_is))
    (case l19 => exact TL.lk_app (by k_is))
    (case c19 => exact TL.code_app (by k_is))
    (case k19 => exact TL.keep_app (by k_is) ⟨_, _, _, _, by k_is⟩)
    (case a20 => exact TL.ns_app (by k_is))
    (case l20 => exact TL.lk_app (by k_is))
    (case c20 => exact TL.code_app (by k_is))
    (case k20 => exact TL.keep_app (by k_is) ⟨_, _, _, _, by k_is⟩)
    (case a21 => exact TL.ns_app (by k_is))
    (case l21 => exact TL.lk_app (by k_is))
    (case c21 => exact TL.code_app (by k_is))
    (case k21 => exact TL.keep_app (by k_is) ⟨_, _, _, _, by k_is⟩)
