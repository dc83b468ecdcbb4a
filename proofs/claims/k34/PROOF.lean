import PyProof.Rows.All
import Wide.All
import OpenK.AllK
import Wide.FinOn
import HandS.ForMost
import HandS.OwnEq
import HandS.SlotsOwn
import KE.KOpsOwn
import PyProof.ListMulAny
import PyProof.ConsumeWalk
import PyProof.WalksMore
import HandS.IsInst
import HandS.Wide
import HandS.Zip
import HandS.Defaults
import HandS.Walk
import KE.BitLaws
import KE.KCallOwn
import HandS.ClsMeth
import HandS.MakeKwOnly
import PyProof.InstEq
import KE.KFmtOwn
import HandS.List
import PyProof.WalkInts
import HandS.ForExc
import HandS.ExcInit
import HandS.ExcIs
import HandS.ExcField
import HandS.RevRange
import HandS.Conv
import HandS.SortInts
import PyProof.CollectIter
import PyProof.ListNew
import PyProof.FactsAll.range_iterator_1
import HandS.Iter
import KE.GoesEnum
import HandS.Sort
import HandS.Gcd
import HandS.Property
import HandS.WideBits
import KE.GoesZip
import KE.KIndexOf
import HandS.Strs
import HandS.TupAny
import KE.DataAny
import HandS.Style
import PySem.Challenge.RW_turnsleft_k34_anchors_told
set_option Elab.async false
set_option linter.all false
set_option maxRecDepth 100000
namespace TL
open PySem PySem.Spec PyProof.Rows L2
section
variable {X : Cx} {pins : List (Addr × Obj)} {σ : L2.St} {H : Hp} {s : Shared} {a b C dx dy f : Addr} {fs gs : List (Str × V)} {k : Nat} {fd : FuncData} {ps : List Str} {sp : Sp} {CX : CXT} {E : XK}
theorem inst_at (I : Inv X pins σ H s) (h : H a = some (.ins C dx fs)) : ∃ od, PySem.W.InstAt s.heap a (PySem.W.instObj C dx) C (some od) := by
  obtain ⟨mA, J, _⟩ := ins_get I.hok h
  obtain ⟨od, J, _⟩ := J.look
  exact ⟨od, J⟩
/-- what an own operator's def asks: the def that stands at f in the class at C under a name -/
structure OpAt (K : PySem.W.Frag) (C f : Addr) (name : Str) : Prop where
  sf : PySem.W.selfFirst K C = true
  at_ : PySem.W.findIn K (.ref C) name = some (some (.ref f))
  fn : PySem.W.isFn K (.ref f) = true
/-- x op y, both instances of the class at C -/
def rOw (C : Addr) (sp : Sp) (E : XK) : R2 := fun x y H Q => ∃ a dx fs b dy gs, x = .ref a ∧ y = .ref b ∧ H a = some (.ins C dx fs) ∧ H b = some (.ins C dy gs) ∧ sp [x, y] H Q E
theorem cb {P : Value → Shared → Prop} {z : V} {v : Value} {s' : Shared} (r : RelV z v) (h : P v s') : PySem.W.CmpBack P v s' := by
  cases z with
  | non => cases (show v = Value.none from r); exact h
  | bl b => cases (show v = Value.bool b from r); exact h
  | int i => obtain ⟨t, e⟩ := (show ∃ t, v = Value.int i t from r); cases e; exact h
  | str x => obtain ⟨t, e⟩ := (show ∃ t, v = Value.str x t from r); cases e; exact h
  | byt b => obtain ⟨t, e⟩ := (show ∃ t, v = Value.bytes b t from r); cases e; exact h
  | flt b => obtain ⟨t, e⟩ := (show ∃ t, v = Value.float b t from r); cases e; exact h
  | ref a => cases (show v = Value.ref a from r); exact h
  | ty n => cases (show v = Value.type n from r); exact h
theorem op_ow {op : Operator} (o : OpAt X.K C f (PySem.dunder op.info.2)) (F : FnOk X.prog X.w X.K X.mg X.base CX k f fd ps sp) (hr : Room k X.A) (hb : Binds X.K fd ps []) (hx : Passes CX X E) : OpR X (binaryOp op) (rOw C sp E) := by
  intro pins s σ H x y v u Q I rx ry h
  obtain ⟨a, dx, fs, b, dy, gs, rfl, rfl, ha, hb', q⟩ := h
  cases (show v = Value.ref a from rx)
  cases (show u = Value.ref b from ry)
  obtain ⟨od, J⟩ := inst_at I ha
  obtain ⟨od', J'⟩ := inst_at I hb'
  obtain ⟨m, hF⟩ := I.fr
  refine PySem.W.binop_K hF I.ok.mod.kin J J'.type o.sf o.at_ o.fn ?_
  refine wpAny_mono (run_fn (us := [.ref a, .ref b]) (vs := [.ref a, .ref b]) F hr hb .nil hx I (.cons rfl (.cons rfl .nil)) q) (fun w s' z => ?_) fun _ _ x => x
  obtain ⟨z', H', I', rz, qz⟩ := z
  exact cb rz ⟨z', H', I', rz, qz⟩
/-- x op n, x an instance of the class at C, n a whole number -/
def rOwI (C : Addr) (sp : Sp) (E : XK) : R2 := fun x y H Q => ∃ a dx fs n, x = .ref a ∧ y = .int n ∧ H a = some (.ins C dx fs) ∧ sp [x, y] H Q E
theorem op_owI {op : Operator} {g : Addr} {fo ro : Option Value} (o : OpAt X.K C f (PySem.dunder op.info.2)) (hr1 : PySem.W.findIn X.K (.ref C) (PySem.dunderR op.info.2) = some (some (.ref g)))
    (h1 : PySem.W.findIn X.K (.type "int") (PySem.dunder op.info.2) = some fo) (h2 : PySem.W.findIn X.K (.type "int") (PySem.dunderR op.info.2) = some ro) (hsub : PySem.W.subIn X.K (.type "int") (.ref C) = some false)
    (F : FnOk X.prog X.w X.K X.mg X.base CX k f fd ps sp) (hr : Room k X.A) (hb : Binds X.K fd ps []) (hx : Passes CX X E) : OpR X (binaryOp op) (rOwI C sp E) := by
  intro pins s σ H x y v u Q I rx ry h
  obtain ⟨a, dx, fs, n, rfl, rfl, ha, q⟩ := h
  cases (show v = Value.ref a from rx)
  obtain ⟨t, rfl⟩ := (show ∃ t, u = Value.int n t from ry)
  obtain ⟨od, J⟩ := inst_at I ha
  obtain ⟨m, hF⟩ := I.fr
  refine PySem.W.ksp_binT (T := "int") hF I.ok.mod.kin J rfl o.sf o.at_ o.fn hr1 (.inr ⟨_, rfl⟩) h1 h2 hsub ?_
  refine wpAny_mono (run_fn (us := [.ref a, .int n t]) (vs := [.ref a, .int n]) F hr hb .nil hx I (.cons rfl (.cons ⟨_, rfl⟩ .nil)) q) (fun w s' z => ?_) fun _ _ x => x
  obtain ⟨z', H', I', rz, qz⟩ := z
  exact cb rz ⟨z', H', I', rz, qz⟩
/-- -x -/
def rNeg (C : Addr) (sp : Sp) (E : XK) : V → Hp → VK → Prop := fun x H Q => ∃ a dx fs, x = .ref a ∧ H a = some (.ins C dx fs) ∧ sp [x] H Q E
theorem un_ow (at_ : PySem.W.findIn X.K (.ref C) "__neg__" = some (some (.ref f))) (fn : PySem.W.isFn X.K (.ref f) = true) (F : FnOk X.prog X.w X.K X.mg X.base CX k f fd ps sp) (hr : Room k X.A) (hb : Binds X.K fd ps []) (hx : Passes CX X E) :
    UnR X (unaryOp .USub) (rNeg C sp E) := by
  intro pins s σ H x v Q I rx h
  obtain ⟨a, dx, fs, rfl, ha, q⟩ := h
  cases (show v = Value.ref a from rx)
  obtain ⟨od, J⟩ := inst_at I ha
  obtain ⟨m, hF⟩ := I.fr
  refine PySem.W.ksp_neg hF I.ok.mod.kin J at_ fn ?_
  exact run_fn (us := [.ref a]) (vs := [.ref a]) F hr hb .nil hx I (.cons rfl .nil) q
/-- x == y, both instances of the class at C -/
theorem op_owEq (at_ : PySem.W.findIn X.K (.ref C) "__eq__" = some (some (.ref f))) (fn : PySem.W.isFn X.K (.ref f) = true) (F : FnOk X.prog X.w X.K X.mg X.base CX k f fd ps sp) (hr : Room k X.A) (hb : Binds X.K fd ps []) (hx : Passes CX X E) :
    OpR X (compareOp .Eq) (rOw C sp E) := by
  intro pins s σ H x y v u Q I rx ry h
  obtain ⟨a, dx, fs, b, dy, gs, rfl, rfl, ha, hb', q⟩ := h
  cases (show v = Value.ref a from rx)
  cases (show u = Value.ref b from ry)
  obtain ⟨od, J⟩ := inst_at I ha
  obtain ⟨od', J'⟩ := inst_at I hb'
  obtain ⟨m, hF⟩ := I.fr
  refine PySem.W.cmp_K (op := .Eq) (tb := .ref C) hr.units0 hF I.ok.mod.kin J J'.type (by simp [PySem.W.notFirst]) at_ fn ?_
  refine wpAny_mono (run_fn (us := [.ref a, .ref b]) (vs := [.ref a, .ref b]) F hr hb .nil hx I (.cons rfl (.cons rfl .nil)) q) (fun w s' z => ?_) fun _ _ x => x
  obtain ⟨z', H', I', rz, qz⟩ := z
  exact cb rz ⟨z', H', I', rz, qz⟩
/-- any(t), t a tuple of whole numbers -/
theorem iter_anyT {prog : Program} {w : World} {A : Around} {E : Value → Shared → Prop} {s : Shared} {l : Addr} {items : Array Value} {Q : Value → Shared → Prop} (hl : s.heap.IsTuple l items)
    (h : ∀ s₂ : Shared, s₂ = { s with heap := s.heap.push { cls := .type "tuple_iterator", data := .fields #[.ref l, .int 0 0] } } →
      (s₂.heap.IsTupleIter s.heap.objs.size l 0 ∧ s₂.heap.IsTuple l items) → l ≠ s.heap.objs.size → Q (.ref s.heap.objs.size) s₂) : wpAny (model prog w) A (pyIter (.ref l)) Q E s := by
  have hlt : l < s.heap.objs.size := by obtain ⟨_, e, _⟩ := hl; exact Heap.lt_size e
  exact wpAny_pyIter_tuple hl (h _ rfl ⟨⟨_, Heap.get?_push_size _ rfl, rfl, rfl⟩, hl.push _⟩ (Nat.ne_of_lt hlt))
theorem truth_ints {prog : Program} {w : World} {A : Around} {ns : List Int} {its : List Value} (e : Vals (ns.map V.int) its) :
    TruthOf prog w A (fun i v => its.toArray[i]? = some v) (fun i => ns.getD i 0 != 0) := fun i v s Q E hv hq => by
  have hv' : its[i]? = some v := by simpa using hv
  have hl := e.length
  rw [List.length_map] at hl
  have hi : i < its.length := (List.getElem?_eq_some_iff.mp hv').1
  have hi2 : i < ns.length := by omega
  obtain ⟨u, hu, ru⟩ := e.get (i := i) (x := V.int ns[i]) (by rw [List.getElem?_map, List.getElem?_eq_getElem hi2]; rfl)
  rw [hv'] at hu
  cases hu
  obtain ⟨t, rfl⟩ := ru
  have hg : ns.getD i 0 = ns[i] := by rw [List.getD_eq_getElem?_getD, List.getElem?_eq_getElem hi2]; rfl
  have hq' : Q (ns.getD i 0 != 0) s := hq
  rw [hg] at hq'
  exact PyProof.Rows.truthy_int hq'
theorem any_rangeI : ∀ ns : List Int, (List.range ns.length).any (fun i => ns.getD i 0 != 0) = ns.any (fun n => n != 0)
  | [] => rfl
  | b :: bs => by
    rw [List.length_cons, List.range_succ_eq_map, List.any_cons, List.any_map, List.any_cons, ← any_rangeI bs]
    all_goals rfl
def rAnyT (K : PySem.W.Frag) : List V → Hp → VK → Prop := fun vs H Q => ∃ (a : Addr) (ns : List Int), vs = [V.ref a] ∧ SqT K H a (ns.map V.int) ∧ Q (.bl (ns.any fun n => n != 0)) H
theorem cr_anyT (hc : X.calm = true) : CallR X (.builtin "any") (rAnyT X.K) := by
  intro pins s σ H vs us Q I r h
  obtain ⟨a, ns, rfl, hs, q⟩ := h
  obtain ⟨its, rv, hl, _⟩ := I.tuple hs
  rw [Vals.ref1 r]
  have hlen := rv.length
  rw [List.length_map] at hlen
  refine call_any_walk (iter_anyT (items := its.toArray) (show s.heap.IsTuple a its.toArray from hl) fun s₂ e2 st hne => ?_)
  subst e2
  refine ⟨_, _, _, _, _, _, _, rfl, Walks.tuple (A := X.A.in1) (I.ok.hd hc) _ a hne its.toArray, st, truth_ints rv, fun h' tk hk => ?_⟩
  refine ⟨.bl _, H, I.kept fun b o eo => hk b o (fun hmem => ?_) (Heap.get?_push_of_some _ eo), ?_, q⟩
  · rcases List.mem_cons.mp hmem with e1 | hmem
    · exact absurd (e1 ▸ Heap.lt_size eo) (Nat.lt_irrefl _)
    · cases hmem
  · show Value.bool _ = Value.bool _
    rw [← any_rangeI, List.size_toArray, ← hlen]
/-- bool(x), x an instance with its own __bool__ -/
theorem truthy_X {M : Model} {A : Around} {E' : Value → Shared → Prop} {s : Shared} {K : PySem.W.Frag} {x C f : Addr} {ox : Obj} {od : Option Obj} {Q : Bool → Shared → Prop} (X₀ : K.In s.heap) (I : PySem.W.InstAt s.heap x ox C od) (hs : PySem.W.findIn K (.ref C) "__bool__" = some (some (.ref f))) (hf : PySem.W.isFn K (.ref f) = true)
    (h : wpAny M A (call (.ref f) [.ref x]) (fun r s' => ∃ b, r = Value.bool b ∧ Q b s') E' s) : wpAny M A (truthy (.ref x)) Q E' s := by
  unfold truthy
  refine wpAny_bind (m := callSpecial? (.ref x) (Str.ofString "__bool__")) (PySem.W.special_fn X₀ I hs (beq_iff_eq.mp hf) (wpAny_mono h (fun r s' hr => ?_) fun _ _ y => y))
  obtain ⟨b, rfl, hr⟩ := hr
  exact wpAny_pure hr
theorem bool_own {prog : Program} {w : World} {A : Around} {E' : Value → Shared → Prop} {s : Shared} {K : PySem.W.Frag} {x C f : Addr} {ox : Obj} {od : Option Obj} {Q : Value → Shared → Prop} (X₀ : K.In s.heap) (I : PySem.W.InstAt s.heap x ox C od) (hs : PySem.W.findIn K (.ref C) "__bool__" = some (some (.ref f))) (hf : PySem.W.isFn K (.ref f) = true)
    (h : wpAny (model prog w) A.in1.in1 (call (.ref f) [.ref x]) (fun r s' => ∃ b, r = Value.bool b ∧ Q r s') E' s) : wpAny (model prog w) A (call (.type "bool") [.ref x]) Q E' s := by
  refine callType_codes (T := "bool") (Bi := Builtin.«object.__init__») (Q₁ := fun r s₁ => ∃ b, r = Value.bool b ∧ Q r s₁) PySem.F.called_bool (PySem.F.typeCall_bool_1 _) PySem.F.entry_object_init ?_ ?_
  · refine codeAny_of_tree ?_
    show wpAny _ A.in1.in1 (do checkBuiltinCall "bool.__new__" ⟨[.type "bool", .ref x], []⟩; again (.builtin "bool.__new__" ⟨[.type "bool", .ref x], []⟩)) _ _ s
    refine wpAny_bind (wpAny_of_eq (PySem.F.newCall_bool_1 _) (wpAny_pure ⟨plainId_quiet (by decide +kernel) _, codeAny_builtin PySem.F.entry_bool_new ?_⟩))
    rw [Around.under_plainId (by decide +kernel) _]
    unfold Builtin.«bool.__new__»
    refine wpAny_bind (wpAny_of_eq (a := true) rfl ?_)
    refine PySem.W.KFB.if_not rfl ?_
    refine wpAny_bind (wpAny_of_eq (a := true) PySem.F.conv_sub_bool ?_)
    refine PySem.W.KFB.if_not rfl ?_
    refine wpAny_bind (wpAny_of_eq (a := [Value.ref x]) rfl ?_)
    refine wpAny_bind (truthy_X X₀ I hs hf (wpAny_mono h (fun r s₁ hr => ?_) fun _ _ y => y))
    obtain ⟨b, rfl, hq⟩ := hr
    exact ⟨b, rfl, wpAny_pure ⟨b, rfl, hq⟩⟩
  · rintro obj s₁ ⟨b, rfl, hq⟩
    exact ⟨PySem.typeIs_bool _ _, PySem.F.args_object_init_2 _ _, object_init_meets PySem.F.called_bool.init.lookup PySem.F.called_bool.made (by decide) prog w A.in1 _ s₁ ⟨PySem.typeIs_bool _ _, rfl, hq⟩⟩
def rBoolOw (C : Addr) (sp : Sp) (E : XK) : List V → Hp → VK → Prop := fun vs H Q => ∃ a dx fs, vs = [.ref a] ∧ H a = some (.ins C dx fs) ∧ sp [.ref a] H (fun v H' => ∃ b, v = .bl b ∧ Q v H') E
theorem run_at2 {A : Around} {Q : VK} {us : List Value} {ws : List V} (F : FnOk X.prog X.w X.K X.mg X.base CX k f fd ps sp) (hr : Room k A) (e0 : Env0 X.prog X.w X.K X.mg X.base A X.stack s H) (hb : Binds X.K fd ps []) (hx : Passes CX X E) (I : Inv X pins σ H s) (r : Vals ws us) (h : sp ws H Q E) :
    wpAny (model X.prog X.w) A (call (.ref f) us) (EP X pins σ Q) X.xe s := by
  have hl : us.length = ps.length := by rw [← r.length]; exact F.len _ _ _ _ h
  refine wpAny_call (codeAny_mono (F.run A X.stack s H ⟨us, []⟩ us ws Q E hr e0 (by have := hb s us I.kIn (by simpa using hl); simpa using this) r h) fun r s' hq => ?_)
  cases r with
  | error e => exact hx pins σ H s e s' I hq
  | ok fl =>
    cases fl with
    | ret u => exact I.after hq
    | next => exact False.elim hq
    | brk => exact False.elim hq
    | cont => exact False.elim hq
theorem call_boolOw (at_ : PySem.W.findIn X.K (.ref C) "__bool__" = some (some (.ref f))) (fn : PySem.W.isFn X.K (.ref f) = true) (F : FnOk X.prog X.w X.K X.mg X.base CX k f fd ps sp) (hr : Room (k + 2) X.A) (hb : Binds X.K fd ps []) (hx : Passes CX X E) :
    CallR X (.type "bool") (rBoolOw C sp E) := by
  intro pins s σ H vs us Q I r h
  obtain ⟨a, dx, fs, rfl, ha, q⟩ := h
  obtain rfl := Vals.ref1 r
  obtain ⟨od, J⟩ := inst_at I ha
  have hr2 : Room k X.A.in1.in1 := (show Room (k + 1) X.A.in1 from Room.in1 hr).in1
  refine bool_own I.kIn J at_ fn (wpAny_mono (run_at2 (us := [.ref a]) (ws := [.ref a]) F hr2 I.env0.in1.in1 hb hx I (.cons rfl .nil) q) (fun w s' z => ?_) fun _ _ x => x)
  obtain ⟨z', H', I', rz, b, rfl, qz⟩ := z
  cases (show w = Value.bool b from rz)
  exact ⟨b, rfl, .bl b, H', I', rfl, qz⟩
/-- n op x, n a whole number, x an instance of the class at C with the reflected def -/
theorem int_mul_ref (a : Int) (t : Tok) (x C dx : Addr) :
    Meets (Builtin.«int.__mul__» ⟨[.int a t, .ref x], []⟩) (fun _ R s => (∃ od, s.heap.get? x = some (PySem.W.instObj C dx) ∧ od = dx) ∧ R (.ok (.ret Value.notImplemented)) s) :=
  .of_wp fun prog w A R s h => by obtain ⟨hp, g, d, tk, os⟩ := s; obtain ⟨⟨_, hl, _⟩, h⟩ := h; wp_walk; exact ⟨_, rfl, h⟩
def rIOw (C : Addr) (sp : Sp) (E : XK) : R2 := fun x y H Q => ∃ a dx fs n, x = .int n ∧ y = .ref a ∧ H a = some (.ins C dx fs) ∧ sp [y, x] H Q E
set_option maxHeartbeats 2000000 in
theorem binR {prog : Program} {w : World} {A : Around} {E' : Value → Shared → Prop} {s : Shared} {K : PySem.W.Frag} {x C f g : Addr} {dx : Addr} {od : Option Obj} {n : Int} {t : Tok} {Q : Value → Shared → Prop}
    (X : K.In s.heap) (I : PySem.W.InstAt s.heap x (PySem.W.instObj C dx) C od) (hc : PySem.W.selfFirst K C = true) (hs : PySem.W.findIn K (.ref C) (PySem.dunder "mul") = some (some (.ref g)))
    (hr : PySem.W.findIn K (.ref C) (PySem.dunderR "mul") = some (some (.ref f))) (hf : PySem.W.isFn K (.ref f) = true) (hsub : PySem.W.subIn K (.ref C) (.type "int") = some false) (hx : s.heap.get? x = some (PySem.W.instObj C dx))
    (h : wpAny (model prog w) A (call (.ref f) [.ref x, .int n t]) (PySem.W.CmpBack Q) E' s) : wpAny (model prog w) A (binaryOp .Mult (.int n t) (.ref x)) Q E' s := by
  obtain ⟨cd, rest, hcd, hm⟩ := PySem.W.ksp_first hc
  have one := PySem.W.ksp_try (name := PySem.dunderR "mul") X I hr hf h
  obtain ⟨hh, gg, d, tt, os⟩ := s
  have L1 : PySem.W.Looks (model prog w) hh (typeOf (.ref x)) (.ref C) := I.type
  have L2 : PySem.W.Looks (model prog w) hh (typeOf (.int n t)) (.type "int") := PySem.W.Looks.of_pure rfl
  have L3 : PySem.W.Looks (model prog w) hh (fillsNumberSlot (.ref C) "mul") true := PySem.W.fills_K (nm := "mul") X hcd hm hs
  have L4 : PySem.W.Looks (model prog w) hh (fillsNumberSlot (.type "int") "mul") true := PySem.W.Looks.of_pure PySem.F.fills_int_mul
  have L5 : PySem.W.Looks (model prog w) hh (isSubtype (.ref C) (.type "int")) false := PySem.W.looks_subIn X hsub
  have L7 : PySem.W.Looks (model prog w) hh (numberSlotInPython (.type "int") "mul") false := PySem.W.Looks.of_pure rfl
  have hne : (Value.type "int" == Value.ref C) = false := Bool.eq_false_iff.mpr fun q => by cases beq_iff_eq.mp q
  show wpAny _ _ (binaryOp .Mult (.int n t) (.ref x)) _ _ _
  simp only [binaryOp, Operator.info]
  refine wpAny_holding (wpAny_bind ?_)
  unfold binaryOp1
  refine wpAny_bind (L2.at (wpAny_bind (L1.at (wpAny_bind (L4.at ?_)))))
  simp only [hne, Bool.false_eq_true, if_false]
  refine wpAny_bind (L3.at ?_)
  simp only [Bool.and_self, if_true]
  refine wpAny_bind (L5.at ?_)
  simp only [Bool.false_eq_true, if_false, Bool.not_false, Bool.and_self, if_true, pure_bind]
  refine wpAny_bind (L7.at ?_)
  simp only [Bool.false_eq_true, if_false, pure_bind]
  refine wpAny_bind (wpAny_tryMethod_declines (PySem.typeIs_int _ n t) PySem.F.slot_int_mul (call_meets PySem.F.slot_int_mul (PySem.typeIs_int _ n t) PySem.F.entry_int_mul (PySem.F.args_int_mul_2 _ _) (int_mul_ref n t x C dx) ⟨⟨dx, hx, rfl⟩, rfl, ?_⟩))
  simp only [Bool.false_eq_true, if_false, pure_bind]
  refine wpAny_bind (wpAny_mono one (fun r s' hr' => ?_) fun _ _ e => e)
  obtain ⟨v, rfl, hq⟩ := hr'
  exact wpAny_bind (wpAny_rule (wpAny_pure (wpAny_pure hq)))
theorem op_IOw (o : OpAt X.K C f (PySem.dunderR "mul")) {g : Addr} (hm : PySem.W.findIn X.K (.ref C) (PySem.dunder "mul") = some (some (.ref g))) (hsub : PySem.W.subIn X.K (.ref C) (.type "int") = some false)
    (F : FnOk X.prog X.w X.K X.mg X.base CX k f fd ps sp) (hr : Room k X.A) (hb : Binds X.K fd ps []) (hx : Passes CX X E) : OpR X (binaryOp .Mult) (rIOw C sp E) := by
  intro pins s σ H x y v u Q I rx ry h
  obtain ⟨a, dx, fs, n, rfl, rfl, ha, q⟩ := h
  obtain ⟨t, rfl⟩ := (show ∃ t, v = Value.int n t from rx)
  cases (show u = Value.ref a from ry)
  obtain ⟨mA, O, _⟩ := ins_get I.hok ha
  obtain ⟨od, J, _⟩ := O.look
  refine binR I.kIn J o.sf hm o.at_ o.fn hsub O.obj ?_
  refine wpAny_mono (run_fn (us := [.ref a, .int n t]) (vs := [.ref a, .int n]) F hr hb .nil hx I (.cons rfl (.cons ⟨_, rfl⟩ .nil)) q) (fun w s' z => ?_) fun _ _ x => x
  obtain ⟨z', H', I', rz, qz⟩ := z
  exact cb rz ⟨z', H', I', rz, qz⟩
end
theorem d_add : PySem.dunder Operator.Add.info.2 = ("__add__" : Str) := by decide +kernel
theorem d_sub : PySem.dunder Operator.Sub.info.2 = ("__sub__" : Str) := by decide +kernel
theorem d_mul : PySem.dunder Operator.Mult.info.2 = ("__mul__" : Str) := by decide +kernel
theorem d_mul' : PySem.dunder "mul" = ("__mul__" : Str) := by decide +kernel
theorem d_rmul : PySem.dunderR Operator.Mult.info.2 = ("__rmul__" : Str) := by decide +kernel
theorem d_rmul' : PySem.dunderR "mul" = ("__rmul__" : Str) := by decide +kernel
end TL
namespace TL
open PySem L2
/-! ### heaps -/
theorem Same.new {H : Hp} {p : Addr} {o : HO} (h : H p = none) : Same H (upd H p o) := fun b u q => by rw [upd_ne (ne_of_none q h)]; exact q
theorem seqT {K : PySem.W.Frag} {H H' : Hp} {a : Addr} {xs : List V} (e : Same H H') (h : SqT K H a xs) : SqT K H' a xs := by
  rcases h with (h | ⟨o, h⟩) | h
  · exact .inl (.inl (e _ _ h))
  · exact .inl (.inr ⟨o, e _ _ h⟩)
  · exact .inr h
/-- but for what stands at g, all that was tracked is as it was -/
def Kb (g : Addr) (H H' : Hp) : Prop := ∀ a o, H a = some o → a ≠ g → H' a = some o
theorem Kb.refl (g : Addr) (H : Hp) : Kb g H H := fun _ _ h _ => h
theorem Kb.trans {g : Addr} {H H1 H2 : Hp} (a : Kb g H H1) (b : Kb g H1 H2) : Kb g H H2 := fun c o h n => b c o (a c o h n) n
theorem Kb.same {g : Addr} {H H' : Hp} (a : Same H H') : Kb g H H' := fun c o h _ => a c o h
theorem Kb.at {g : Addr} {H : Hp} {o : HO} : Kb g H (upd H g o) := fun c u h n => by rw [upd_ne n]; exact h
theorem Kb.new {g p : Addr} {H H' : Hp} {o : HO} (a : Kb g H H') (h : H' p = none) : Kb g H (upd H' p o) := a.trans (Kb.same (Same.new h))
theorem tyx_L {K : PySem.W.Frag} {H : Hp} {a : Addr} {xs : List V} (h : SqL K H a xs) : TyX K H (.ref a) (.type "list") := by
  rcases h with (h | ⟨o, h⟩) | ⟨o, its, n, h, c, _⟩
  · exact .base (.lst h)
  · exact .base (.frz h)
  · exact .kList h c
theorem tyx_T {K : PySem.W.Frag} {H : Hp} {a : Addr} {xs : List V} (h : SqT K H a xs) : TyX K H (.ref a) (.type "tuple") := by
  rcases h with (h | ⟨o, h⟩) | ⟨o, its, n, h, c, _⟩
  · exact .base (.tup h)
  · exact .fTuple h
  · exact .kTuple h c
theorem fm {i j : Int} (h : 0 < j) : 0 ≤ i.fmod j ∧ i.fmod j < j := ⟨Int.fmod_nonneg_of_pos _ h, Int.fmod_lt_of_pos _ h⟩
theorem kt_int_list {K : PySem.W.Frag} : PySem.W.kitOne K (.type "int") (.type "list") = some false := kit_ty (by decide +kernel)
theorem kt_int_tuple {K : PySem.W.Frag} : PySem.W.kitOne K (.type "int") (.type "tuple") = some false := kit_ty (by decide +kernel)
theorem kt_int_bool {K : PySem.W.Frag} : PySem.W.kitOne K (.type "int") (.type "bool") = some false := kit_ty (by decide +kernel)
theorem kt_int_int {K : PySem.W.Frag} : PySem.W.kitOne K (.type "int") (.type "int") = some true := kit_ty (by decide +kernel)
theorem kt_int_str {K : PySem.W.Frag} : PySem.W.kitOne K (.type "int") (.type "str") = some false := kit_ty (by decide +kernel)
theorem kt_int_dict {K : PySem.W.Frag} : PySem.W.kitOne K (.type "int") (.type "dict") = some false := kit_ty (by decide +kernel)
theorem kt_bool_list {K : PySem.W.Frag} : PySem.W.kitOne K (.type "bool") (.type "list") = some false := kit_ty (by decide +kernel)
theorem kt_bool_tuple {K : PySem.W.Frag} : PySem.W.kitOne K (.type "bool") (.type "tuple") = some false := kit_ty (by decide +kernel)
theorem kt_bool_bool {K : PySem.W.Frag} : PySem.W.kitOne K (.type "bool") (.type "bool") = some true := kit_ty (by decide +kernel)
theorem kt_bool_int {K : PySem.W.Frag} : PySem.W.kitOne K (.type "bool") (.type "int") = some true := kit_ty (by decide +kernel)
theorem kt_bool_str {K : PySem.W.Frag} : PySem.W.kitOne K (.type "bool") (.type "str") = some false := kit_ty (by decide +kernel)
theorem kt_bool_dict {K : PySem.W.Frag} : PySem.W.kitOne K (.type "bool") (.type "dict") = some false := kit_ty (by decide +kernel)
theorem kt_str_list {K : PySem.W.Frag} : PySem.W.kitOne K (.type "str") (.type "list") = some false := kit_ty (by decide +kernel)
theorem kt_str_tuple {K : PySem.W.Frag} : PySem.W.kitOne K (.type "str") (.type "tuple") = some false := kit_ty (by decide +kernel)
theorem kt_str_bool {K : PySem.W.Frag} : PySem.W.kitOne K (.type "str") (.type "bool") = some false := kit_ty (by decide +kernel)
theorem kt_str_int {K : PySem.W.Frag} : PySem.W.kitOne K (.type "str") (.type "int") = some false := kit_ty (by decide +kernel)
theorem kt_str_str {K : PySem.W.Frag} : PySem.W.kitOne K (.type "str") (.type "str") = some true := kit_ty (by decide +kernel)
theorem kt_str_dict {K : PySem.W.Frag} : PySem.W.kitOne K (.type "str") (.type "dict") = some false := kit_ty (by decide +kernel)
theorem kt_NoneType_list {K : PySem.W.Frag} : PySem.W.kitOne K (.type "NoneType") (.type "list") = some false := kit_ty (by decide +kernel)
theorem kt_NoneType_tuple {K : PySem.W.Frag} : PySem.W.kitOne K (.type "NoneType") (.type "tuple") = some false := kit_ty (by decide +kernel)
theorem kt_NoneType_bool {K : PySem.W.Frag} : PySem.W.kitOne K (.type "NoneType") (.type "bool") = some false := kit_ty (by decide +kernel)
theorem kt_NoneType_int {K : PySem.W.Frag} : PySem.W.kitOne K (.type "NoneType") (.type "int") = some false := kit_ty (by decide +kernel)
theorem kt_NoneType_str {K : PySem.W.Frag} : PySem.W.kitOne K (.type "NoneType") (.type "str") = some false := kit_ty (by decide +kernel)
theorem kt_NoneType_dict {K : PySem.W.Frag} : PySem.W.kitOne K (.type "NoneType") (.type "dict") = some false := kit_ty (by decide +kernel)
theorem kt_list_list {K : PySem.W.Frag} : PySem.W.kitOne K (.type "list") (.type "list") = some true := kit_ty (by decide +kernel)
theorem kt_list_tuple {K : PySem.W.Frag} : PySem.W.kitOne K (.type "list") (.type "tuple") = some false := kit_ty (by decide +kernel)
theorem kt_list_bool {K : PySem.W.Frag} : PySem.W.kitOne K (.type "list") (.type "bool") = some false := kit_ty (by decide +kernel)
theorem kt_list_int {K : PySem.W.Frag} : PySem.W.kitOne K (.type "list") (.type "int") = some false := kit_ty (by decide +kernel)
theorem kt_list_str {K : PySem.W.Frag} : PySem.W.kitOne K (.type "list") (.type "str") = some false := kit_ty (by decide +kernel)
theorem kt_list_dict {K : PySem.W.Frag} : PySem.W.kitOne K (.type "list") (.type "dict") = some false := kit_ty (by decide +kernel)
theorem kt_tuple_list {K : PySem.W.Frag} : PySem.W.kitOne K (.type "tuple") (.type "list") = some false := kit_ty (by decide +kernel)
theorem kt_tuple_tuple {K : PySem.W.Frag} : PySem.W.kitOne K (.type "tuple") (.type "tuple") = some true := kit_ty (by decide +kernel)
theorem kt_tuple_bool {K : PySem.W.Frag} : PySem.W.kitOne K (.type "tuple") (.type "bool") = some false := kit_ty (by decide +kernel)
theorem kt_tuple_int {K : PySem.W.Frag} : PySem.W.kitOne K (.type "tuple") (.type "int") = some false := kit_ty (by decide +kernel)
theorem kt_tuple_str {K : PySem.W.Frag} : PySem.W.kitOne K (.type "tuple") (.type "str") = some false := kit_ty (by decide +kernel)
theorem kt_tuple_dict {K : PySem.W.Frag} : PySem.W.kitOne K (.type "tuple") (.type "dict") = some false := kit_ty (by decide +kernel)
theorem rIsi_mk {K : PySem.W.Frag} {H : Hp} {Q : VK} {x c : V} {t u : Value} {b : Bool} (ty : TyX K H x t) (cl : ClsV c u) (e : PySem.W.kitOne K t u = some b) (q : Q (.bl b) H) : rIsi K [x, c] H Q := ⟨x, c, t, u, b, rfl, cl, ty, e, q⟩
theorem ri_int_list {K : PySem.W.Frag} {H : Hp} {Q : VK} {i : Int} (q : Q (.bl false) H) : rIsi K [.int i, .ty "list"] H Q := rIsi_mk (TyX.base (TyOf.int _)) (ClsV.ty _) kt_int_list q
theorem ri_int_tuple {K : PySem.W.Frag} {H : Hp} {Q : VK} {i : Int} (q : Q (.bl false) H) : rIsi K [.int i, .ty "tuple"] H Q := rIsi_mk (TyX.base (TyOf.int _)) (ClsV.ty _) kt_int_tuple q
theorem ri_int_bool {K : PySem.W.Frag} {H : Hp} {Q : VK} {i : Int} (q : Q (.bl false) H) : rIsi K [.int i, .ty "bool"] H Q := rIsi_mk (TyX.base (TyOf.int _)) (ClsV.ty _) kt_int_bool q
theorem ri_int_int {K : PySem.W.Frag} {H : Hp} {Q : VK} {i : Int} (q : Q (.bl true) H) : rIsi K [.int i, .ty "int"] H Q := rIsi_mk (TyX.base (TyOf.int _)) (ClsV.ty _) kt_int_int q
theorem ri_int_str {K : PySem.W.Frag} {H : Hp} {Q : VK} {i : Int} (q : Q (.bl false) H) : rIsi K [.int i, .ty "str"] H Q := rIsi_mk (TyX.base (TyOf.int _)) (ClsV.ty _) kt_int_str q
theorem ri_int_dict {K : PySem.W.Frag} {H : Hp} {Q : VK} {i : Int} (q : Q (.bl false) H) : rIsi K [.int i, .ty "dict"] H Q := rIsi_mk (TyX.base (TyOf.int _)) (ClsV.ty _) kt_int_dict q
theorem ri_bool_list {K : PySem.W.Frag} {H : Hp} {Q : VK} {c : Bool} (q : Q (.bl false) H) : rIsi K [.bl c, .ty "list"] H Q := rIsi_mk (TyX.base (TyOf.bl _)) (ClsV.ty _) kt_bool_list q
theorem ri_bool_tuple {K : PySem.W.Frag} {H : Hp} {Q : VK} {c : Bool} (q : Q (.bl false) H) : rIsi K [.bl c, .ty "tuple"] H Q := rIsi_mk (TyX.base (TyOf.bl _)) (ClsV.ty _) kt_bool_tuple q
theorem ri_bool_bool {K : PySem.W.Frag} {H : Hp} {Q : VK} {c : Bool} (q : Q (.bl true) H) : rIsi K [.bl c, .ty "bool"] H Q := rIsi_mk (TyX.base (TyOf.bl _)) (ClsV.ty _) kt_bool_bool q
theorem ri_bool_int {K : PySem.W.Frag} {H : Hp} {Q : VK} {c : Bool} (q : Q (.bl true) H) : rIsi K [.bl c, .ty "int"] H Q := rIsi_mk (TyX.base (TyOf.bl _)) (ClsV.ty _) kt_bool_int q
theorem ri_bool_str {K : PySem.W.Frag} {H : Hp} {Q : VK} {c : Bool} (q : Q (.bl false) H) : rIsi K [.bl c, .ty "str"] H Q := rIsi_mk (TyX.base (TyOf.bl _)) (ClsV.ty _) kt_bool_str q
theorem ri_bool_dict {K : PySem.W.Frag} {H : Hp} {Q : VK} {c : Bool} (q : Q (.bl false) H) : rIsi K [.bl c, .ty "dict"] H Q := rIsi_mk (TyX.base (TyOf.bl _)) (ClsV.ty _) kt_bool_dict q
theorem ri_str_list {K : PySem.W.Frag} {H : Hp} {Q : VK} {z : Str} (q : Q (.bl false) H) : rIsi K [.str z, .ty "list"] H Q := rIsi_mk (TyX.base (TyOf.str _)) (ClsV.ty _) kt_str_list q
theorem ri_str_tuple {K : PySem.W.Frag} {H : Hp} {Q : VK} {z : Str} (q : Q (.bl false) H) : rIsi K [.str z, .ty "tuple"] H Q := rIsi_mk (TyX.base (TyOf.str _)) (ClsV.ty _) kt_str_tuple q
theorem ri_str_bool {K : PySem.W.Frag} {H : Hp} {Q : VK} {z : Str} (q : Q (.bl false) H) : rIsi K [.str z, .ty "bool"] H Q := rIsi_mk (TyX.base (TyOf.str _)) (ClsV.ty _) kt_str_bool q
theorem ri_str_int {K : PySem.W.Frag} {H : Hp} {Q : VK} {z : Str} (q : Q (.bl false) H) : rIsi K [.str z, .ty "int"] H Q := rIsi_mk (TyX.base (TyOf.str _)) (ClsV.ty _) kt_str_int q
theorem ri_str_str {K : PySem.W.Frag} {H : Hp} {Q : VK} {z : Str} (q : Q (.bl true) H) : rIsi K [.str z, .ty "str"] H Q := rIsi_mk (TyX.base (TyOf.str _)) (ClsV.ty _) kt_str_str q
theorem ri_str_dict {K : PySem.W.Frag} {H : Hp} {Q : VK} {z : Str} (q : Q (.bl false) H) : rIsi K [.str z, .ty "dict"] H Q := rIsi_mk (TyX.base (TyOf.str _)) (ClsV.ty _) kt_str_dict q
theorem ri_NoneType_list {K : PySem.W.Frag} {H : Hp} {Q : VK}  (q : Q (.bl false) H) : rIsi K [.non, .ty "list"] H Q := rIsi_mk (TyX.base TyOf.non) (ClsV.ty _) kt_NoneType_list q
theorem ri_NoneType_tuple {K : PySem.W.Frag} {H : Hp} {Q : VK}  (q : Q (.bl false) H) : rIsi K [.non, .ty "tuple"] H Q := rIsi_mk (TyX.base TyOf.non) (ClsV.ty _) kt_NoneType_tuple q
theorem ri_NoneType_bool {K : PySem.W.Frag} {H : Hp} {Q : VK}  (q : Q (.bl false) H) : rIsi K [.non, .ty "bool"] H Q := rIsi_mk (TyX.base TyOf.non) (ClsV.ty _) kt_NoneType_bool q
theorem ri_NoneType_int {K : PySem.W.Frag} {H : Hp} {Q : VK}  (q : Q (.bl false) H) : rIsi K [.non, .ty "int"] H Q := rIsi_mk (TyX.base TyOf.non) (ClsV.ty _) kt_NoneType_int q
theorem ri_NoneType_str {K : PySem.W.Frag} {H : Hp} {Q : VK}  (q : Q (.bl false) H) : rIsi K [.non, .ty "str"] H Q := rIsi_mk (TyX.base TyOf.non) (ClsV.ty _) kt_NoneType_str q
theorem ri_NoneType_dict {K : PySem.W.Frag} {H : Hp} {Q : VK}  (q : Q (.bl false) H) : rIsi K [.non, .ty "dict"] H Q := rIsi_mk (TyX.base TyOf.non) (ClsV.ty _) kt_NoneType_dict q
theorem ri_list_list {K : PySem.W.Frag} {H : Hp} {Q : VK} {a : Addr} {xs : List V} (h : SqL K H a xs) (q : Q (.bl true) H) : rIsi K [.ref a, .ty "list"] H Q := rIsi_mk (tyx_L h) (ClsV.ty _) kt_list_list q
theorem ri_list_tuple {K : PySem.W.Frag} {H : Hp} {Q : VK} {a : Addr} {xs : List V} (h : SqL K H a xs) (q : Q (.bl false) H) : rIsi K [.ref a, .ty "tuple"] H Q := rIsi_mk (tyx_L h) (ClsV.ty _) kt_list_tuple q
theorem ri_list_bool {K : PySem.W.Frag} {H : Hp} {Q : VK} {a : Addr} {xs : List V} (h : SqL K H a xs) (q : Q (.bl false) H) : rIsi K [.ref a, .ty "bool"] H Q := rIsi_mk (tyx_L h) (ClsV.ty _) kt_list_bool q
theorem ri_list_int {K : PySem.W.Frag} {H : Hp} {Q : VK} {a : Addr} {xs : List V} (h : SqL K H a xs) (q : Q (.bl false) H) : rIsi K [.ref a, .ty "int"] H Q := rIsi_mk (tyx_L h) (ClsV.ty _) kt_list_int q
theorem ri_list_str {K : PySem.W.Frag} {H : Hp} {Q : VK} {a : Addr} {xs : List V} (h : SqL K H a xs) (q : Q (.bl false) H) : rIsi K [.ref a, .ty "str"] H Q := rIsi_mk (tyx_L h) (ClsV.ty _) kt_list_str q
theorem ri_list_dict {K : PySem.W.Frag} {H : Hp} {Q : VK} {a : Addr} {xs : List V} (h : SqL K H a xs) (q : Q (.bl false) H) : rIsi K [.ref a, .ty "dict"] H Q := rIsi_mk (tyx_L h) (ClsV.ty _) kt_list_dict q
theorem ri_tuple_list {K : PySem.W.Frag} {H : Hp} {Q : VK} {a : Addr} {xs : List V} (h : SqT K H a xs) (q : Q (.bl false) H) : rIsi K [.ref a, .ty "list"] H Q := rIsi_mk (tyx_T h) (ClsV.ty _) kt_tuple_list q
theorem ri_tuple_tuple {K : PySem.W.Frag} {H : Hp} {Q : VK} {a : Addr} {xs : List V} (h : SqT K H a xs) (q : Q (.bl true) H) : rIsi K [.ref a, .ty "tuple"] H Q := rIsi_mk (tyx_T h) (ClsV.ty _) kt_tuple_tuple q
theorem ri_tuple_bool {K : PySem.W.Frag} {H : Hp} {Q : VK} {a : Addr} {xs : List V} (h : SqT K H a xs) (q : Q (.bl false) H) : rIsi K [.ref a, .ty "bool"] H Q := rIsi_mk (tyx_T h) (ClsV.ty _) kt_tuple_bool q
theorem ri_tuple_int {K : PySem.W.Frag} {H : Hp} {Q : VK} {a : Addr} {xs : List V} (h : SqT K H a xs) (q : Q (.bl false) H) : rIsi K [.ref a, .ty "int"] H Q := rIsi_mk (tyx_T h) (ClsV.ty _) kt_tuple_int q
theorem ri_tuple_str {K : PySem.W.Frag} {H : Hp} {Q : VK} {a : Addr} {xs : List V} (h : SqT K H a xs) (q : Q (.bl false) H) : rIsi K [.ref a, .ty "str"] H Q := rIsi_mk (tyx_T h) (ClsV.ty _) kt_tuple_str q
theorem ri_tuple_dict {K : PySem.W.Frag} {H : Hp} {Q : VK} {a : Addr} {xs : List V} (h : SqT K H a xs) (q : Q (.bl false) H) : rIsi K [.ref a, .ty "dict"] H Q := rIsi_mk (tyx_T h) (ClsV.ty _) kt_tuple_dict q
def rLenSq (K : PySem.W.Frag) : List V → Hp → VK → Prop := fun xs H Q => ∃ p ys, xs = [.ref p] ∧ (SqL K H p ys ∨ SqT K H p ys) ∧ Q (.int ys.length) H
def rListOf (K : PySem.W.Frag) : List V → Hp → VK → Prop := fun xs H Q => ∃ p ys, xs = [.ref p] ∧ (SqL K H p ys ∨ SqT K H p ys) ∧ ∀ l, H l = none → Q (.ref l) (upd H l (.lst ys))
def rTupOf (K : PySem.W.Frag) : List V → Hp → VK → Prop := fun xs H Q => ∃ p ys, xs = [.ref p] ∧ ((SqL K H p ys ∧ ∀ l, H l = none → Q (.ref l) (upd H l (.tup ys))) ∨ (SqT K H p ys ∧ Q (.ref p) H))
/-- a list or a tuple -/
def Sq (K : PySem.W.Frag) (H : Hp) (a : Addr) (xs : List V) : Prop := SqL K H a xs ∨ SqT K H a xs
theorem Sq.same {K : PySem.W.Frag} {H H' : Hp} {a : Addr} {xs : List V} (h : Sq K H a xs) (s : Same H H') : Sq K H' a xs := h.elim (fun q => .inl (s.seq q)) fun q => .inr (seqT s q)
theorem seqL_ins {K : PySem.W.Frag} {H : Hp} {a p C dx : Addr} {fs : List (Str × V)} {o : HO} {xs : List V} (hp : H p = some (.ins C dx fs)) (h : SqL K H a xs) : SqL K (upd H p o) a xs := by
  rcases h with (h | ⟨u, h⟩) | h
  · exact .inl (.inl (by rw [upd_ne (ne_of h hp (by intro z; cases z))]; exact h))
  · exact .inl (.inr ⟨u, by rw [upd_ne (ne_of h hp (by intro z; cases z))]; exact h⟩)
  · exact .inr h
theorem seqT_ins {K : PySem.W.Frag} {H : Hp} {a p C dx : Addr} {fs : List (Str × V)} {o : HO} {xs : List V} (hp : H p = some (.ins C dx fs)) (h : SqT K H a xs) : SqT K (upd H p o) a xs := by
  rcases h with (h | ⟨u, h⟩) | h
  · exact .inl (.inl (by rw [upd_ne (ne_of h hp (by intro z; cases z))]; exact h))
  · exact .inl (.inr ⟨u, by rw [upd_ne (ne_of h hp (by intro z; cases z))]; exact h⟩)
  · exact .inr h
theorem Sq.ins {K : PySem.W.Frag} {H : Hp} {a p C dx : Addr} {fs : List (Str × V)} {o : HO} {xs : List V} (h : Sq K H a xs) (hp : H p = some (.ins C dx fs)) : Sq K (upd H p o) a xs := h.elim (fun q => .inl (seqL_ins hp q)) fun q => .inr (seqT_ins hp q)
/-- tuple(x) of either -/
def rTup1 (K : PySem.W.Frag) : List V → Hp → VK → Prop := fun vs H Q => ∃ p xs, vs = [.ref p] ∧ Sq K H p xs ∧ ∀ t H', Same H H' → SqT K H' t xs → Q (.ref t) H'
theorem call_tup1 {X : Cx} : CallR X (.type "tuple") (rTup1 X.K) := by
  intro pins s σ H xs us Q I r h
  obtain ⟨p, ys, rfl, hq, q⟩ := h
  refine call_tuple_of pins s σ H _ us Q I r ⟨p, ys, rfl, ?_⟩
  rcases hq with hq | hq
  · exact .inl ⟨hq, fun l hl => q l _ (Same.new hl) (SqT.of upd_same)⟩
  · exact .inr ⟨hq, q p H (Same.refl H) hq⟩
/-! ### a statement, then the rest, with a word between them -/
def tCut (t u : TS) : TS := fun D σ H => ∃ Mid : L2.St → Hp → Prop, t { D with nx := Mid } σ H ∧ ∀ σ' H', Mid σ' H' → u D σ' H'
theorem pss_cut {X : Cx} {st : Stmt} {rest : List Stmt} {t u : TS} (h1 : PS X st t) (h2 : PSs X rest u) : PSs X (st :: rest) (tCut t u) := by
  refine ⟨fun pins s σ H D I h => ?_⟩
  obtain ⟨Mid, hm, hu⟩ := h
  refine wpAny_execs_cons (thn (h1.run pins s σ H { D with nx := Mid } I hm) fun f s1 q => ?_)
  cases f with
  | next =>
    obtain ⟨σ', H', I', q⟩ := q
    exact h2.run pins s1 σ' H' D I' (hu σ' H' q)
  | ret v => exact q
  | brk => exact q
  | cont => exact q
/-! ### the law's bag: the cells, how many were taken, the rest of a great cell, a mixed number, a count -/
structure Bg where
  b : Addr
  L : Addr
  ns : List Int
structure Bag (B : Bg) (H : Hp) : Prop where
  ex : ∃ (i r s c : Int), H B.b = some (.lst [.ref B.L, .int i, .int r, .int s, .int c]) ∧ 0 ≤ i ∧ 0 ≤ r ∧ 0 ≤ s ∧ s < 2147483648
  cells : H B.L = some (.lst (B.ns.map V.int))
  ne : B.L ≠ B.b
theorem Bag.same {B : Bg} {H H' : Hp} (h : Bag B H) (s : Same H H') : Bag B H' := by
  obtain ⟨i, r, z, c, h1, h2⟩ := h.ex
  exact ⟨⟨i, r, z, c, s _ _ h1, h2⟩, s _ _ h.cells, h.ne⟩
theorem Bag.nb {B : Bg} {H : Hp} {p : Addr} (h : Bag B H) (hp : H p = none) : p ≠ B.b := by
  obtain ⟨i, r, z, c, h1, h2⟩ := h.ex
  exact Ne.symm (ne_of_none h1 hp)
theorem Bag.nL {B : Bg} {H : Hp} {p : Addr} (h : Bag B H) (hp : H p = none) : p ≠ B.L := Ne.symm (ne_of_none h.cells hp)
theorem Bag.upd {B : Bg} {H : Hp} {p : Addr} {o : HO} (h : Bag B H) (h1 : p ≠ B.b) (h2 : p ≠ B.L) : Bag B (L2.upd H p o) := by
  obtain ⟨i, r, z, c, e1, e2⟩ := h.ex
  exact ⟨⟨i, r, z, c, by rw [upd_ne (Ne.symm h1)]; exact e1, e2⟩, by rw [upd_ne (Ne.symm h2)]; exact h.cells, h.ne⟩
theorem Bag.new {B : Bg} {H : Hp} {p : Addr} {o : HO} (h : Bag B H) (hp : H p = none) : Bag B (L2.upd H p o) := h.upd (h.nb hp) (h.nL hp)
/-! ### comprehensions: what each turn gives is known (Same), or only bounded, while the bag changes (Kb) -/
section
variable {J : It} {n : Nat} {G : Hp → Prop} {Y : Nat → Hp → V → Hp → Prop} {K : PySem.W.Frag} {a b D : Addr} {xs ys : List V} {g : TG} {te : TE} {vs : List Nat} {σ : L2.St} {H0 : Hp} {Qd : Hp → Prop} {j : Nat}
theorem take_app {ys : List V} {i : Nat} {y : V} (h : ys[i]? = some y) : ys.take i ++ [y] = ys.take (i + 1) := by
  rw [List.take_add_one, h]
  rfl
/-- what is to be shown of a comprehension -/
def LcGoal (J : It) (g : TG) (te : TE) (vs : List Nat) (σ : L2.St) (H0 : Hp) (D : Addr) (Qd : Hp → Prop) : Prop :=
  ∃ W : Nat → Nat → Hp → Prop, (∃ m, W 0 m (upd H0 D (.lst []))) ∧ ∀ i m H, W i m H →
      (J.stop i H ∧ Qd H) ∨ (J.go i H ∧ ∃ Nx : Hp → Prop, (∀ H', Nx H' → ∃ m', m' < m ∧ W (i + 1) m' H') ∧ ∀ x H', J.yld i H x H' → g x (wipe σ vs) H' fun σ2 H2 => wipe σ2 vs = wipe σ vs ∧ tYes σ2 H2 fun b H3 =>
        if b = true then te σ2 H3 fun y H4 => ∃ acc, H4 D = some (.lst acc) ∧ acc.length < sizeLine ∧ Nx (upd H4 D (.lst (acc ++ [y]))) else Nx H3)
theorem lcm (w : Walk J n G Y) (ys : List V) (hn : ys.length = n) (hz : n ≤ 100000) (hD : H0 D = none) (hG : ∀ H, Same H0 H → G H)
    (hs : ∀ i y x H H', i < n → ys[i]? = some y → Same H0 H → Y i H x H' → ∀ k : VK, (∀ H4, Same H H4 → k y H4) → g x (wipe σ vs) H' fun σ2 H2 => wipe σ2 vs = wipe σ vs ∧ te σ2 H2 k)
    (hd : ∀ H, Same H0 H → H D = some (.lst ys) → Qd H) : LcGoal J g te vs σ H0 D Qd := by
  refine lc_it w (fun i H => Same H0 H ∧ H D = some (.lst (ys.take i))) ⟨Same.new hD, upd_same⟩ (fun i H _ h => hG H h.1) (fun i x H H' hi h hy => ?_) (fun H h => ?_)
  · have hi2 : i < ys.length := by omega
    refine hs i ys[i] x H H' hi (List.getElem?_eq_getElem hi2) h.1 hy _ fun H4 s4 => ⟨ys.take i, s4 _ _ h.2, ?_, fun c u q => ?_, ?_⟩
    · refine Nat.lt_of_le_of_lt (Nat.le_trans (List.length_take_le' _ _) (by omega : ys.length ≤ 100000)) (by decide)
    · rw [upd_ne (ne_of_none q hD)]
      exact s4 _ _ (h.1 _ _ q)
    · rw [upd_same, take_app (List.getElem?_eq_getElem hi2)]
  · refine hd H h.1 ?_
    rw [h.2, ← hn, List.take_length]
theorem lcb {B : Bg} (w : Walk J n G Y) (P : V → Prop) (hz : n ≤ 100000) (hB : Bag B H0) (hD : H0 D = none) (hG : ∀ H, Kb B.b H0 H → G H)
    (hs : ∀ i x H H', i < n → Kb B.b H0 H → Bag B H → Y i H x H' → ∀ k : VK, (∀ y H4, P y → Kb B.b H H4 → Bag B H4 → k y H4) → g x (wipe σ vs) H' fun σ2 H2 => wipe σ2 vs = wipe σ vs ∧ te σ2 H2 k)
    (hd : ∀ ys H, ys.length = n → (∀ y ∈ ys, P y) → Kb B.b H0 H → Bag B H → H D = some (.lst ys) → Qd H) : LcGoal J g te vs σ H0 D Qd := by
  have nb := hB.nb hD
  have nL := hB.nL hD
  refine lc_it w (fun i H => Kb B.b H0 H ∧ Bag B H ∧ ∃ ys, H D = some (.lst ys) ∧ ys.length = i ∧ ∀ y ∈ ys, P y) ⟨Kb.same (Same.new hD), hB.new hD, [], upd_same, rfl, fun y hy => by cases hy⟩ (fun i H _ h => hG H h.1) (fun i x H H' hi h hy => ?_) (fun H h => ?_)
  · obtain ⟨h1, h2, ys, h3, h4, h5⟩ := h
    refine hs i x H H' hi h1 h2 hy _ fun y H4 p kb b4 => ⟨ys, kb _ _ h3 nb, ?_, fun c u q ne => ?_, b4.upd nb nL, ys ++ [y], upd_same, ?_, ?_⟩
    · exact Nat.lt_of_le_of_lt (by omega : ys.length ≤ 100000) (by decide)
    · rw [upd_ne (ne_of_none q hD)]
      exact kb _ _ (h1 _ _ q ne) ne
    · rw [List.length_append, h4]
      rfl
    · intro z hz
      rcases List.mem_append.mp hz with q | q
      · exact h5 z q
      · rw [List.mem_singleton.mp q]
        exact p
  · obtain ⟨h1, h2, ys, h3, h4, h5⟩ := h
    exact hd ys H h4 h5 h1 h2 h3
end
theorem walk_zipT {K : PySem.W.Frag} {a b : Addr} {xs ys : List V} {n : Nat} (hn : n = min xs.length ys.length) : Walk (RZ.ItzT K a b) n (fun H => SqT K H a xs ∧ SqT K H b ys) (YPair (fun i => xs[i]?) (fun i => ys[i]?)) := by
  subst hn
  refine ⟨fun i _ hi q => ?_, fun _ q => ⟨xs, ys, q.1, q.2, by omega⟩, fun i H v H' _ q y => ?_⟩
  · have h1 : i < xs.length := by omega
    have h2 : i < ys.length := by omega
    exact ⟨xs, ys, xs[i], ys[i], q.1, q.2, by simp [h1], by simp [h2]⟩
  · obtain ⟨T, x, z, h1, h2, h3, h4, h5⟩ := y
    exact ⟨T, x, z, h1, h2, h3, h4 xs q.1, h5 ys q.2⟩
theorem ite_dec {p A B : Prop} [Decidable p] (h : p) (q : A) : if decide p = true then A else B := by
  rw [decide_eq_true h]
  exact q
theorem ite_dec' {p A B : Prop} [Decidable p] (h : ¬ p) (q : B) : if decide p = true then A else B := by
  rw [decide_eq_false h]
  exact q
theorem all_rep (n : Nat) : (List.replicate n true).all id = true := by
  rw [List.all_eq_true]
  intro x hx
  rw [(List.mem_replicate.mp hx).2]
  rfl
theorem rep_get {n i : Nat} {x y : V} (h : (List.replicate n x)[i]? = some y) : y = x := (List.mem_replicate.mp (List.mem_of_getElem? h)).2
theorem lc_zipT {K : PySem.W.Frag} {a b D : Addr} {xs ys : List Int} {f : Int → Int → Int} {te : TE} {vs : List Nat} {σ : L2.St} {H0 : Hp} {Qd : Hp → Prop} {i j : Nat} (h1 : SqT K H0 a (xs.map V.int)) (h2 : SqT K H0 b (ys.map V.int)) (hl : xs.length = ys.length) (hz : xs.length ≤ 1000) (hD : H0 D = none)
    (hw : ∀ u v, wipe (((wipe σ vs).set i (some u)).set j (some v)) vs = wipe σ vs)
    (hs : ∀ (u v : Int) (H : Hp) (k : VK), u ∈ xs → v ∈ ys → k (.int (f u v)) H → te (((wipe σ vs).set i (some (.int u))).set j (some (.int v))) H k)
    (hd : ∀ H, Same H0 H → H D = some (.lst ((List.zipWith f xs ys).map V.int)) → Qd H) : LcGoal (RZ.ItzT K a b) (gTup K 2 (gCons (gName i) (gCons (gName j) gNil))) te vs σ H0 D Qd := by
  refine lcm (walk_zipT (n := xs.length) (by rw [List.length_map, List.length_map]; omega)) ((List.zipWith f xs ys).map V.int) (by rw [List.length_map, List.length_zipWith]; omega) (by omega) hD (fun H' s => ⟨seqT s h1, seqT s h2⟩) ?_ hd
  rintro t y x H1 H2 hi hy s1 ⟨Tp, u, z, rfl, hT, rfl, hu, hz'⟩ k hk
  replace hu : (xs.map V.int)[t]? = some u := hu
  replace hz' : (ys.map V.int)[t]? = some z := hz'
  rw [List.getElem?_map] at hy hu hz'
  obtain ⟨y', hy1, rfl⟩ := Option.map_eq_some_iff.mp hy
  obtain ⟨u', hu1, rfl⟩ := Option.map_eq_some_iff.mp hu
  obtain ⟨z', hz1, rfl⟩ := Option.map_eq_some_iff.mp hz'
  rw [List.getElem?_zipWith, hu1, hz1] at hy1
  obtain rfl : f u' z' = y' := Option.some.inj hy1
  refine ⟨Tp, [.int u', .int z'], rfl, SqT.of upd_same, rfl, .int u', [.int z'], rfl, .int z', [], rfl, rfl, hw _ _, ?_⟩
  exact hs u' z' _ k (List.mem_of_getElem? hu1) (List.mem_of_getElem? hz1) (hk _ (Same.new hT))
theorem lc_zipL {K : PySem.W.Frag} {a b D : Addr} {xs ys : List Int} {f : Int → Int → Int} {te : TE} {vs : List Nat} {σ : L2.St} {H0 : Hp} {Qd : Hp → Prop} {i j : Nat} (h1 : SqL K H0 a (xs.map V.int)) (h2 : SqL K H0 b (ys.map V.int)) (hl : xs.length = ys.length) (hz : xs.length ≤ 1000) (hD : H0 D = none)
    (hw : ∀ u v, wipe (((wipe σ vs).set i (some u)).set j (some v)) vs = wipe σ vs)
    (hs : ∀ (u v : Int) (H : Hp) (k : VK), u ∈ xs → v ∈ ys → k (.int (f u v)) H → te (((wipe σ vs).set i (some (.int u))).set j (some (.int v))) H k)
    (hd : ∀ H, Same H0 H → H D = some (.lst ((List.zipWith f xs ys).map V.int)) → Qd H) : LcGoal (Itz K a b) (gTup K 2 (gCons (gName i) (gCons (gName j) gNil))) te vs σ H0 D Qd := by
  refine lcm (walk_zip (n := xs.length) (by rw [List.length_map, List.length_map]; omega)) ((List.zipWith f xs ys).map V.int) (by rw [List.length_map, List.length_zipWith]; omega) (by omega) hD (fun H' s => ⟨s.seq h1, s.seq h2⟩) ?_ hd
  rintro t y x H1 H2 hi hy s1 ⟨Tp, u, z, rfl, hT, rfl, hu, hz'⟩ k hk
  replace hu : (xs.map V.int)[t]? = some u := hu
  replace hz' : (ys.map V.int)[t]? = some z := hz'
  rw [List.getElem?_map] at hy hu hz'
  obtain ⟨y', hy1, rfl⟩ := Option.map_eq_some_iff.mp hy
  obtain ⟨u', hu1, rfl⟩ := Option.map_eq_some_iff.mp hu
  obtain ⟨z', hz1, rfl⟩ := Option.map_eq_some_iff.mp hz'
  rw [List.getElem?_zipWith, hu1, hz1] at hy1
  obtain rfl : f u' z' = y' := Option.some.inj hy1
  refine ⟨Tp, [.int u', .int z'], rfl, SqT.of upd_same, rfl, .int u', [.int z'], rfl, .int z', [], rfl, rfl, hw _ _, ?_⟩
  exact hs u' z' _ k (List.mem_of_getElem? hu1) (List.mem_of_getElem? hz1) (hk _ (Same.new hT))
theorem lc_mapT {K : PySem.W.Frag} {a D : Addr} {xs : List Int} {f : Int → Int} {te : TE} {vs : List Nat} {σ : L2.St} {H0 : Hp} {Qd : Hp → Prop} {i : Nat} (h1 : SqT K H0 a (xs.map V.int)) (hz : xs.length ≤ 1000) (hD : H0 D = none)
    (hw : ∀ u, wipe ((wipe σ vs).set i (some u)) vs = wipe σ vs) (hs : ∀ (u : Int) (H : Hp) (k : VK), u ∈ xs → k (.int (f u)) H → te ((wipe σ vs).set i (some (.int u))) H k)
    (hd : ∀ H, Same H0 H → H D = some (.lst ((xs.map f).map V.int)) → Qd H) : LcGoal (Itt K a) (gName i) te vs σ H0 D Qd := by
  refine lcm (walk_tup (K := K) (a := a) (xs := xs.map V.int)) ((xs.map f).map V.int) (by simp) (by rw [List.length_map]; omega) hD (fun H' s => seqT s h1) ?_ hd
  rintro t y x H1 H2 hi hy s1 ⟨rfl, hu⟩ k hk
  rw [List.getElem?_map] at hy hu
  obtain ⟨y', hy1, rfl⟩ := Option.map_eq_some_iff.mp hy
  obtain ⟨u', hu1, rfl⟩ := Option.map_eq_some_iff.mp hu
  rw [List.getElem?_map, hu1] at hy1
  obtain rfl : f u' = y' := Option.some.inj hy1
  exact ⟨hw _, hs u' _ k (List.mem_of_getElem? hu1) (hk _ (Same.refl _))⟩
theorem lc_mapL {K : PySem.W.Frag} {a D : Addr} {xs : List Int} {f : Int → Int} {te : TE} {vs : List Nat} {σ : L2.St} {H0 : Hp} {Qd : Hp → Prop} {i : Nat} (h1 : SqL K H0 a (xs.map V.int)) (hz : xs.length ≤ 1000) (hD : H0 D = none)
    (hw : ∀ u, wipe ((wipe σ vs).set i (some u)) vs = wipe σ vs) (hs : ∀ (u : Int) (H : Hp) (k : VK), u ∈ xs → k (.int (f u)) H → te ((wipe σ vs).set i (some (.int u))) H k)
    (hd : ∀ H, Same H0 H → H D = some (.lst ((xs.map f).map V.int)) → Qd H) : LcGoal (Itl K a) (gName i) te vs σ H0 D Qd := by
  refine lcm (walk_list (K := K) (a := a) (xs := xs.map V.int)) ((xs.map f).map V.int) (by simp) (by rw [List.length_map]; omega) hD (fun H' s => s.seq h1) ?_ hd
  rintro t y x H1 H2 hi hy s1 ⟨rfl, hu⟩ k hk
  rw [List.getElem?_map] at hy hu
  obtain ⟨y', hy1, rfl⟩ := Option.map_eq_some_iff.mp hy
  obtain ⟨u', hu1, rfl⟩ := Option.map_eq_some_iff.mp hu
  rw [List.getElem?_map, hu1] at hy1
  obtain rfl : f u' = y' := Option.some.inj hy1
  exact ⟨hw _, hs u' _ k (List.mem_of_getElem? hu1) (hk _ (Same.refl _))⟩
/-! ### whole data: lists and tuples of whole numbers -/
theorem dpAll_ints {K : PySem.W.Frag} {H : Hp} : ∀ ns : List Int, DpAll K H (ns.map V.int) (ns.map PyData.int)
  | [] => .nil
  | n :: ns => .cons (.int n) (dpAll_ints ns)
theorem lay_ints : ∀ ns : List Int, PyData.canLayAll0 (ns.map PyData.int) = true
  | [] => by simp [PyData.canLayAll0]
  | n :: ns => by simp [PyData.canLayAll0, PyData.canLay0, lay_ints ns]
theorem depth_ints : ∀ ns : List Int, PyData.depthAll (ns.map PyData.int) = 0
  | [] => by simp [PyData.depthAll]
  | n :: ns => by simp [PyData.depthAll, PyData.depth, depth_ints ns]
theorem shaped_tupI (ns : List Int) : SeqAt.shaped (.tuple (ns.map PyData.int)) = true := by simp [SeqAt.shaped, PyData.canLay0, PyData.depth, lay_ints, depth_ints]
theorem shaped_lstI (ns : List Int) : SeqAt.shaped (.list (ns.map PyData.int)) = true := by simp [SeqAt.shaped, PyData.canLay0, PyData.depth, lay_ints, depth_ints]
theorem shaped_two (xs ys : List Int) : SeqAt.shaped (.tuple [.list (xs.map PyData.int), .list (ys.map PyData.int)]) = true := by simp [SeqAt.shaped, PyData.canLay0, PyData.canLayAll0, PyData.depth, PyData.depthAll, lay_ints, depth_ints]
theorem eqv_ints : ∀ xs ys : List Int, PyData.eqvAll (xs.map PyData.int) (ys.map PyData.int) = decide (xs = ys)
  | [], [] => by simp [PyData.eqvAll]
  | [], y :: ys => by simp [PyData.eqvAll]
  | x :: xs, [] => by simp [PyData.eqvAll]
  | x :: xs, y :: ys => by
    simp only [List.map_cons, PyData.eqvAll, PyData.eqv, eqv_ints xs ys, List.cons.injEq]
    by_cases h1 : x = y <;> by_cases h2 : xs = ys <;> simp [h1, h2]
theorem eqv_tupI (xs ys : List Int) : PyData.eqv (.tuple (xs.map PyData.int)) (.tuple (ys.map PyData.int)) = decide (xs = ys) := by simp only [PyData.eqv, eqv_ints]
theorem eqv_lstI (xs ys : List Int) : PyData.eqv (.list (xs.map PyData.int)) (.list (ys.map PyData.int)) = decide (xs = ys) := by simp only [PyData.eqv, eqv_ints]
theorem eqv_two (x y : List Int × List Int) : PyData.eqv (.tuple [.list (x.1.map PyData.int), .list (x.2.map PyData.int)]) (.tuple [.list (y.1.map PyData.int), .list (y.2.map PyData.int)]) = decide (x = y) := by
  obtain ⟨a, b⟩ := x
  obtain ⟨c, d⟩ := y
  simp only [PyData.eqv, PyData.eqvAll, eqv_ints, Prod.mk.injEq]
  by_cases h1 : a = c <;> by_cases h2 : b = d <;> simp [h1, h2]
/-- == of two tuples of whole numbers -/
def rEqTI (K : PySem.W.Frag) : R2 := fun x y H Q => ∃ (a b : Addr) (xs ys : List Int), x = .ref a ∧ y = .ref b ∧ SqT K H a (xs.map V.int) ∧ SqT K H b (ys.map V.int) ∧ Q (.bl (decide (xs = ys))) H
theorem op_eqTI {X : Cx} (hu : X.A.units + 64 < cLine) : OpR X (compareOp .Eq) (rEqTI X.K) := by
  intro pins s σ H x y v u Q I rx ry h
  obtain ⟨a, b, xs, ys, rfl, rfl, h1, h2, q⟩ := h
  exact op_eqD hu pins s σ H _ _ v u Q I rx ry ⟨_, _, .tup h1 (dpAll_ints xs), .tup h2 (dpAll_ints ys), shaped_tupI xs, shaped_tupI ys, by rw [eqv_tupI]; exact q⟩
theorem and1 (n : Int) : Builtin.bitAnd n 1 = n.fmod 2 := by
  have h := PyProof.Rows.bitAnd_m1 n
  rw [Int.fmod_eq_emod_of_nonneg _ (by decide)]
  exact h
/-- a tuple that is read stands when a list is changed -/
theorem seqT_lst {K : PySem.W.Frag} {H : Hp} {a p : Addr} {zs : List V} {o : HO} {xs : List V} (hp : H p = some (.lst zs)) (h : SqT K H a xs) : SqT K (upd H p o) a xs := by
  rcases h with (h | ⟨u, h⟩) | h
  · exact .inl (.inl (by rw [upd_ne (ne_of h hp (by intro z; cases z))]; exact h))
  · exact .inl (.inr ⟨u, by rw [upd_ne (ne_of h hp (by intro z; cases z))]; exact h⟩)
  · exact .inr h
theorem seqT_kb {K : PySem.W.Frag} {H H' : Hp} {b a : Addr} {zs xs : List V} (hb : H b = some (.lst zs)) (k : Kb b H H') (h : SqT K H a xs) : SqT K H' a xs := by
  rcases h with (h | ⟨u, h⟩) | h
  · exact .inl (.inl (k _ _ h (ne_of h hb (by intro z; cases z))))
  · exact .inl (.inr ⟨u, k _ _ h (ne_of h hb (by intro z; cases z))⟩)
  · exact .inr h
section
variable {J : It} {n : Nat} {G : Hp → Prop} {Y : Nat → Hp → V → Hp → Prop} {D : Addr} {g : TG} {te : TE} {vs : List Nat} {σ : L2.St} {H0 : Hp} {Qd : Hp → Prop}
/-- a comprehension whose turns give new things, of which something is known -/
theorem lcs (w : Walk J n G Y) (P : Nat → V → Hp → Prop) (hP : ∀ i y H H', Same H H' → P i y H → P i y H') (hPD : ∀ i y H zs zs', H D = some (.lst zs) → P i y H → P i y (upd H D (.lst zs'))) (hz : n ≤ 100000) (hD : H0 D = none) (hG : ∀ H, Same H0 H → G H)
    (hs : ∀ i x H H', i < n → Same H0 H → Y i H x H' → ∀ k : VK, (∀ y H4, Same H H4 → P i y H4 → k y H4) → g x (wipe σ vs) H' fun σ2 H2 => wipe σ2 vs = wipe σ vs ∧ te σ2 H2 k)
    (hd : ∀ (ys : List V) H, ys.length = n → (∀ (i : Nat) y, ys[i]? = some y → P i y H) → Same H0 H → H D = some (.lst ys) → Qd H) : LcGoal J g te vs σ H0 D Qd := by
  refine lc_it w (fun i H => Same H0 H ∧ ∃ ys : List V, H D = some (.lst ys) ∧ ys.length = i ∧ ∀ (t : Nat) y, ys[t]? = some y → P t y H) ⟨Same.new hD, [], upd_same, rfl, fun t y h => by cases h⟩ (fun i H _ h => hG H h.1) (fun i x H H' hi h hy => ?_) (fun H h => ?_)
  · obtain ⟨h1, ys, h3, h4, h5⟩ := h
    refine hs i x H H' hi h1 hy _ fun y H4 s4 p => ⟨ys, s4 _ _ h3, ?_, fun c u q => ?_, ys ++ [y], upd_same, ?_, ?_⟩
    · exact Nat.lt_of_le_of_lt (by omega : ys.length ≤ 100000) (by decide)
    · rw [upd_ne (ne_of_none q hD)]
      exact s4 _ _ (h1 _ _ q)
    · rw [List.length_append, h4]
      rfl
    · intro t z hz
      refine hPD t z H4 ys _ (s4 _ _ h3) ?_
      rcases Nat.lt_or_ge t ys.length with q | q
      · rw [List.getElem?_append_left q] at hz
        exact hP _ _ _ _ s4 (h5 t z hz)
      · rw [List.getElem?_append_right q] at hz
        have e : t - ys.length = 0 := by
          have := (List.getElem?_eq_some_iff.mp hz).1
          simp at this
          omega
        rw [e] at hz
        obtain rfl : y = z := Option.some.inj hz
        have : t = i := by omega
        rw [this]
        exact p
  · obtain ⟨h1, ys, h3, h4, h5⟩ := h
    exact hd ys H h4 h5 h1 h3
end
end TL
namespace TL
/-! ### products of powers of primes -/
def pp : List Nat → List Nat → Nat
  | p :: ps, a :: as => p ^ a * pp ps as
  | _, _ => 1
def prs : List Nat := [2, 3, 5, 7, 11, 13]
def PC : List Nat → Prop
  | [] => True
  | p :: ps => 1 < p ∧ (∀ q ∈ ps, Nat.Coprime p q) ∧ PC ps
theorem pc_prs : PC prs := by simp only [PC, prs]; decide
theorem pc_drop : ∀ (n : Nat) {ps : List Nat}, PC ps → PC (ps.drop n)
  | 0, _, h => h
  | n + 1, [], h => h
  | n + 1, p :: ps, h => pc_drop n h.2.2
theorem pc_take : ∀ (n : Nat) {ps : List Nat}, PC ps → PC (ps.take n)
  | 0, _, _ => trivial
  | n + 1, [], h => h
  | n + 1, p :: ps, h => ⟨h.1, fun q hq => h.2.1 q (List.mem_of_mem_take hq), pc_take n h.2.2⟩
theorem pp_pos : ∀ {ps : List Nat} (as : List Nat), PC ps → 0 < pp ps as
  | [], _, _ => Nat.one_pos
  | p :: ps, [], _ => Nat.one_pos
  | p :: ps, a :: as, h => Nat.mul_pos (Nat.pow_pos (Nat.lt_trans Nat.one_pos h.1)) (pp_pos as h.2.2)
theorem cop_pp {k : Nat} : ∀ {ps : List Nat} (as : List Nat), (∀ q ∈ ps, Nat.Coprime k q) → Nat.Coprime k (pp ps as)
  | [], _, _ => Nat.coprime_one_right k
  | p :: ps, [], _ => Nat.coprime_one_right k
  | p :: ps, a :: as, h => Nat.Coprime.mul_right ((h p (List.mem_cons_self ..)).pow_right a) (cop_pp as fun q hq => h q (List.mem_cons_of_mem _ hq))
def Apart : List Nat → List Nat → Prop
  | a :: as, b :: bs => (a = 0 ∨ b = 0) ∧ Apart as bs
  | _, _ => True
theorem cop_ud : ∀ {ps as bs : List Nat}, PC ps → Apart as bs → Nat.Coprime (pp ps as) (pp ps bs)
  | [], _, _, _, _ => Nat.coprime_one_left _
  | p :: ps, [], _, _, _ => Nat.coprime_one_left _
  | p :: ps, a :: as, [], _, _ => Nat.coprime_one_right _
  | p :: ps, a :: as, b :: bs, h, d => by
    have ih := cop_ud h.2.2 d.2
    have h1 : Nat.Coprime (p ^ a) (pp ps bs) := (cop_pp bs h.2.1).pow_left a
    have h2 : Nat.Coprime (pp ps as) (p ^ b) := (Nat.Coprime.symm (cop_pp as h.2.1)).pow_right b
    have h3 : Nat.Coprime (p ^ a) (p ^ b) := by
      rcases d.1 with e | e
      · rw [e, Nat.pow_zero]
        exact Nat.coprime_one_left _
      · rw [e, Nat.pow_zero]
        exact Nat.coprime_one_right _
    exact Nat.Coprime.mul_left (Nat.Coprime.mul_right h3 h1) (Nat.Coprime.mul_right h2 ih)
theorem pp_add : ∀ (ps as bs : List Nat), as.length = bs.length → pp ps as * pp ps bs = pp ps (List.zipWith (· + ·) as bs)
  | [], _, _, _ => by simp [pp]
  | p :: ps, [], [], _ => by simp [pp]
  | p :: ps, a :: as, b :: bs, h => by
    have ih := pp_add ps as bs (by simpa using h)
    simp only [pp, List.zipWith_cons_cons, ← ih, Nat.pow_add]
    ac_rfl
theorem pp_pow (n : Nat) : ∀ (ps as : List Nat), pp ps as ^ n = pp ps (as.map (n * ·))
  | [], _ => by simp [pp]
  | p :: ps, [] => by simp [pp]
  | p :: ps, a :: as => by
    simp only [pp, List.map_cons, ← pp_pow n ps as, Nat.mul_pow]
    rw [← Nat.pow_mul, Nat.mul_comm a n]
/-! ### a ratio by its exponents -/
def upE (e : List Int) : List Nat := e.map Int.toNat
def dnE (e : List Int) : List Nat := e.map fun x => (-x).toNat
def up (e : List Int) : Nat := pp prs (upE e)
def dn (e : List Int) : Nat := pp prs (dnE e)
def addE (e f : List Int) : List Int := List.zipWith (· + ·) e f
def subE (e f : List Int) : List Int := List.zipWith (· - ·) e f
def mulE (n : Int) (e : List Int) : List Int := e.map (n * ·)
def negE (e : List Int) : List Int := e.map (- ·)
theorem up_pos (e : List Int) : 0 < up e := pp_pos _ pc_prs
theorem dn_pos (e : List Int) : 0 < dn e := pp_pos _ pc_prs
theorem apart_ud : ∀ e : List Int, Apart (upE e) (dnE e)
  | [] => trivial
  | x :: e => ⟨(show x.toNat = 0 ∨ (-x).toNat = 0 by omega), apart_ud e⟩
theorem cop_e (e : List Int) : Nat.Coprime (up e) (dn e) := cop_ud pc_prs (apart_ud e)
theorem up_neg (e : List Int) : up (negE e) = dn e := by
  unfold up dn upE dnE negE
  rw [List.map_map]
  rfl
theorem dn_neg (e : List Int) : dn (negE e) = up e := by
  unfold up dn upE dnE negE
  rw [List.map_map]
  congr 1
  apply List.map_congr_left
  intro x _
  simp
def both (e f : List Int) : List Nat := List.zipWith (fun x y => x.toNat + y.toNat - (x + y).toNat) e f
theorem up_mul (e f : List Int) (h : e.length = f.length) : up e * up f = pp prs (both e f) * up (addE e f) := by
  unfold up
  rw [pp_add _ _ _ (by simpa [upE] using h), pp_add _ _ _ (by simp [both, upE, addE])]
  congr 1
  apply List.ext_getElem
  · simp [both, upE, addE]
  · intro i h1 h2
    simp [both, upE, addE]
    omega
theorem dn_mul (e f : List Int) (h : e.length = f.length) : dn e * dn f = pp prs (both e f) * dn (addE e f) := by
  unfold dn
  rw [pp_add _ _ _ (by simpa [dnE] using h), pp_add _ _ _ (by simp [both, dnE, addE])]
  congr 1
  apply List.ext_getElem
  · simp [both, dnE, addE]
  · intro i h1 h2
    simp [both, dnE, addE]
    omega
/-- a fraction told over a common factor -/
theorem gcd_of {a b e m : Nat} (g : Nat.Coprime a b) : Nat.gcd (m * a) (m * b) = m := by
  rw [Nat.gcd_mul_left, g.gcd_eq_one, Nat.mul_one]
theorem ud_nil_iff {e : List Int} (h : e.length = 6) : up e = 1 → (∀ x ∈ e, x ≤ 0) := by
  intro u
  suffices H : ∀ {ps : List Nat} {as : List Nat}, PC ps → as.length ≤ ps.length → pp ps as = 1 → ∀ a ∈ as, a = 0 by
    intro x hx
    have := H pc_prs (by simp [upE, prs, h]) u x.toNat (List.mem_map.mpr ⟨x, hx, rfl⟩)
    omega
  intro ps
  induction ps with
  | nil =>
    intro as _ hl _ a ha
    have := List.length_eq_zero_iff.mp (Nat.le_zero.mp hl)
    rw [this] at ha
    cases ha
  | cons p ps ih =>
    intro as hp hl hu a ha
    cases as with
    | nil => cases ha
    | cons b bs =>
      have hu' : p ^ b = 1 ∧ pp ps bs = 1 := ⟨Nat.eq_one_of_mul_eq_one_right hu, Nat.eq_one_of_mul_eq_one_left hu⟩
      rcases List.mem_cons.mp ha with e | e
      · subst e
        have h1 := hu'.1
        rcases Nat.eq_zero_or_pos a with z | z
        · exact z
        · have := Nat.one_lt_pow (by omega : a ≠ 0) hp.1
          omega
      · exact ih hp.2.2 (by simpa using hl) hu'.2 a e
theorem pp_one : ∀ {ps as : List Nat}, PC ps → as.length ≤ ps.length → pp ps as = 1 → ∀ a ∈ as, a = 0
  | _, [], _, _, _, a, ha => by cases ha
  | [], b :: bs, _, hl, _, a, ha => by simp at hl
  | p :: ps, b :: bs, hp, hl, hu, a, ha => by
    have h1 : p ^ b = 1 := Nat.eq_one_of_mul_eq_one_right hu
    have h2 : pp ps bs = 1 := Nat.eq_one_of_mul_eq_one_left hu
    rcases List.mem_cons.mp ha with e | e
    · subst e
      rcases Nat.eq_zero_or_pos a with z | z
      · exact z
      · have := Nat.one_lt_pow (by omega : a ≠ 0) hp.1
        omega
    · exact pp_one hp.2.2 (by simpa using hl) h2 a e
theorem pp_drop {as : List Nat} {i : Nat} (hi : i < 6) (hl : as.length = 6) : ∃ p a, prs[i]? = some p ∧ as[i]? = some a ∧ 1 < p ∧ p ≤ 13 ∧ pp (prs.drop i) (as.drop i) = p ^ a * pp (prs.drop (i + 1)) (as.drop (i + 1)) ∧
    Nat.Coprime p (pp (prs.drop (i + 1)) (as.drop (i + 1))) ∧ 0 < pp (prs.drop (i + 1)) (as.drop (i + 1)) := by
  have h1 : i < prs.length := hi
  have h2 : i < as.length := by omega
  have hp := pc_drop i pc_prs
  rw [List.drop_eq_getElem_cons h1] at hp
  refine ⟨prs[i], as[i], List.getElem?_eq_getElem h1, List.getElem?_eq_getElem h2, hp.1, ?_, ?_, cop_pp _ hp.2.1, pp_pos _ hp.2.2⟩
  · have : ∀ p ∈ prs, p ≤ 13 := by decide
    exact this _ (List.getElem_mem h1)
  · rw [List.drop_eq_getElem_cons h1, List.drop_eq_getElem_cons h2]
    rfl
theorem pp_take : ∀ {ps as : List Nat} {i p a : Nat}, ps[i]? = some p → as[i]? = some a → pp (ps.take (i + 1)) (as.take (i + 1)) = pp (ps.take i) (as.take i) * p ^ a
  | [], _, _, _, _, h, _ => by simp at h
  | q :: ps, [], _, _, _, _, h => by simp at h
  | q :: ps, b :: bs, 0, p, a, h1, h2 => by
    simp at h1 h2
    subst h1 h2
    simp [pp]
  | q :: ps, b :: bs, i + 1, p, a, h1, h2 => by
    have ih := pp_take (ps := ps) (as := bs) (i := i) (p := p) (a := a) (by simpa using h1) (by simpa using h2)
    simp only [List.take_succ_cons, pp] at ih ⊢
    rw [ih, Nat.mul_assoc]
theorem pp_split : ∀ (i : Nat) (ps as : List Nat), ps.length = as.length → pp ps as = pp (ps.take i) (as.take i) * pp (ps.drop i) (as.drop i)
  | 0, ps, as, _ => by simp [pp]
  | i + 1, [], [], _ => by simp [pp]
  | i + 1, p :: ps, a :: as, h => by
    simp only [List.take_succ_cons, List.drop_succ_cons, pp]
    rw [pp_split i ps as (by simpa using h), Nat.mul_assoc]
theorem pp_take_le {i : Nat} {as : List Nat} (hl : as.length = 6) : pp (prs.take i) (as.take i) ≤ pp prs as := by
  rw [pp_split i prs as (by rw [hl]; rfl)]
  exact Nat.le_mul_of_pos_right _ (pp_pos _ (pc_drop i pc_prs))
def fill (as : List Nat) (i : Nat) : List Nat := as.take i ++ List.replicate (6 - i) 0
theorem fill_len {as : List Nat} {i : Nat} (hl : as.length = 6) (hi : i ≤ 6) : (fill as i).length = 6 := by
  simp [fill, hl]
  omega
theorem fill_all {as : List Nat} (hl : as.length = 6) : fill as 6 = as := by simp [fill, List.take_of_length_le (Nat.le_of_eq hl)]
theorem fill_set {as : List Nat} {i a : Nat} (hi : i < 6) (hl : as.length = 6) (ha : as[i]? = some a) : (fill as i).set i a = fill as (i + 1) := by
  apply List.ext_getElem
  · rw [List.length_set, fill_len hl (by omega), fill_len hl (by omega)]
  · intro j h1 h2
    have ha' := (List.getElem?_eq_some_iff.mp ha).2
    simp only [fill, List.getElem_set, List.getElem_append, List.length_take, List.getElem_take, List.getElem_replicate]
    by_cases e : i = j
    · subst e
      simp [hl, ha', show i < min (i + 1) 6 by omega]
    · rw [if_neg e]
      by_cases e2 : j < i
      · simp [hl, show j < min i 6 by omega, show j < min (i + 1) 6 by omega]
      · simp [hl, show ¬ j < min i 6 by omega, show ¬ j < min (i + 1) 6 by omega]
theorem fill_one {as : List Nat} {i : Nat} (hi : i < 6) (hl : as.length = 6) (h : pp (prs.drop i) (as.drop i) = 1) : fill as i = as := by
  have z := pp_one (pc_drop i pc_prs) (by simp [prs, hl]) h
  apply List.ext_getElem
  · rw [fill_len hl (by omega), hl]
  · intro j h1 h2
    simp only [fill, List.getElem_append, List.length_take, List.getElem_take, List.getElem_replicate]
    by_cases e : j < min i as.length
    · rw [dif_pos e]
    · rw [dif_neg e]
      have : as[j] ∈ as.drop i := by
        rw [List.mem_iff_getElem]
        exact ⟨j - i, by simp; omega, by simp [show i + (j - i) = j by omega]⟩
      exact (z _ this).symm
/-! ### how often a number divides -/
theorem split_at {p a n : Nat} (hp : 1 < p) (hc : Nat.Coprime p n) (hn : 0 < n) : ¬ p ^ 64 ∣ p ^ (a % 64) * n ∧ ¬ p ∣ n := by
  have h1 : ¬ p ∣ n := fun h => by
    have := hc.eq_one_of_dvd h
    omega
  refine ⟨fun h => h1 ?_, h1⟩
  have h2 : p ^ (a % 64 + 1) ∣ p ^ (a % 64) * n := Nat.dvd_trans (Nat.pow_dvd_pow p (by omega)) h
  rw [Nat.pow_succ] at h2
  exact Nat.dvd_of_mul_dvd_mul_left (Nat.pow_pos (by omega)) h2
theorem split_eq (p a n : Nat) : p ^ a * n = (p ^ 64) ^ (a / 64) * (p ^ (a % 64) * n) := by
  rw [← Nat.mul_assoc, ← Nat.pow_mul, ← Nat.pow_add, Nat.div_add_mod]
theorem pow_inj {p a b A B : Nat} (hp : 1 < p) (hA : Nat.Coprime p A) (h : p ^ a * A = p ^ b * B) : b ≤ a := by
  rcases Nat.lt_or_ge a b with c | c
  · exfalso
    have e : b = a + (b - a - 1 + 1) := by omega
    rw [e, Nat.pow_add, Nat.mul_assoc, Nat.pow_succ] at h
    have h2 := Nat.eq_of_mul_eq_mul_left (Nat.pow_pos (Nat.lt_trans Nat.one_pos hp)) h
    have : p ∣ A := ⟨p ^ (b - a - 1) * B, by rw [h2]; ac_rfl⟩
    have := hA.eq_one_of_dvd this
    omega
  · exact c
theorem pp_inj : ∀ {ps as bs : List Nat}, PC ps → as.length = ps.length → bs.length = ps.length → pp ps as = pp ps bs → as = bs
  | [], [], [], _, _, _, _ => rfl
  | p :: ps, a :: as, b :: bs, hp, h1, h2, h => by
    have cA := cop_pp (k := p) as hp.2.1
    have cB := cop_pp (k := p) bs hp.2.1
    have l1 := pow_inj hp.1 cA h
    have l2 := pow_inj hp.1 cB h.symm
    obtain rfl : a = b := by omega
    have h3 := Nat.eq_of_mul_eq_mul_left (Nat.pow_pos (Nat.lt_trans Nat.one_pos hp.1)) (show p ^ a * pp ps as = p ^ a * pp ps bs from h)
    rw [pp_inj hp.2.2 (by simpa using h1) (by simpa using h2) h3]
theorem e_inj {e f : List Int} (he : e.length = 6) (hf : f.length = 6) (hu : up e = up f) (hd : dn e = dn f) : e = f := by
  have a := pp_inj pc_prs (by simp [upE, he, prs]) (by simp [upE, hf, prs]) (show pp prs (upE e) = pp prs (upE f) from hu)
  have b := pp_inj pc_prs (by simp [dnE, he, prs]) (by simp [dnE, hf, prs]) (show pp prs (dnE e) = pp prs (dnE f) from hd)
  apply List.ext_getElem (by omega)
  intro i h1 h2
  have a' : (upE e)[i]? = (upE f)[i]? := by rw [a]
  have b' : (dnE e)[i]? = (dnE f)[i]? := by rw [b]
  simp [upE, dnE, h1, h2] at a' b'
  omega
theorem toNat_mulN (n : Nat) (x : Int) : ((n : Int) * x).toNat = n * x.toNat := by
  rcases Int.le_total 0 x with c | c
  · obtain ⟨k, rfl⟩ := Int.eq_ofNat_of_zero_le c
    rw [← Int.natCast_mul, Int.toNat_natCast, Int.toNat_natCast]
  · rw [Int.toNat_of_nonpos c, Int.toNat_of_nonpos (Int.mul_nonpos_of_nonneg_of_nonpos (by omega) c), Nat.mul_zero]
theorem up_pow (n : Nat) (e : List Int) : up e ^ n = up (mulE n e) := by
  unfold up
  rw [pp_pow]
  congr 1
  apply List.ext_getElem
  · simp [upE, mulE]
  · intro i h1 h2
    simp only [upE, mulE, List.getElem_map, toNat_mulN]
theorem neg_mulE (n : Int) (e : List Int) : negE (mulE n e) = mulE (-n) e := by
  apply List.ext_getElem
  · simp [negE, mulE]
  · intro i h1 h2
    simp [negE, mulE, Int.neg_mul]
theorem mul_negE (n : Int) (e : List Int) : mulE n (negE e) = mulE (-n) e := by
  apply List.ext_getElem
  · simp [negE, mulE]
  · intro i h1 h2
    simp [negE, mulE, Int.neg_mul, Int.mul_neg]
theorem dn_pow (n : Nat) (e : List Int) : dn e ^ n = dn (mulE n e) := by
  rw [← up_neg, ← up_neg, up_pow, mul_negE, neg_mulE]
theorem pp_at {as : List Nat} {i : Nat} (hi : i < 6) (hl : as.length = 6) : ∃ p a r, prs[i]? = some p ∧ as[i]? = some a ∧ 1 < p ∧ p ≤ 13 ∧ pp prs as = p ^ a * r ∧ 0 < r ∧ ¬ p ∣ r := by
  obtain ⟨p, a, e1, e2, g1, g2, g3, g4, g5⟩ := pp_drop hi hl
  have c1 : ∀ i : Fin 6, ∀ q ∈ prs.take i.val, Nat.Coprime (prs[i.val]'i.isLt) q := by decide
  have ep : prs[i]'hi = p := (List.getElem?_eq_some_iff.mp e1).2
  have c2 := c1 ⟨i, hi⟩
  simp only [ep] at c2
  have cop : Nat.Coprime p (pp (prs.take i) (as.take i) * pp (prs.drop (i + 1)) (as.drop (i + 1))) := Nat.Coprime.mul_right (cop_pp _ c2) g4
  refine ⟨p, a, pp (prs.take i) (as.take i) * pp (prs.drop (i + 1)) (as.drop (i + 1)), e1, e2, g1, g2, ?_, Nat.mul_pos (pp_pos _ (pc_take i pc_prs)) g5, fun h => ?_⟩
  · rw [pp_split i prs as (by rw [hl]; rfl), g3]
    ac_rfl
  · have := cop.eq_one_of_dvd h
    omega
end TL
namespace TL
open PySem PySem.Spec PyProof.Rows L2
theorem repr_X {prog : Program} {w : World} {A : Around} {E' : Value → Shared → Prop} {s : Shared} {K : PySem.W.Frag} {x C f : Addr} {ox : Obj} {od : Option Obj} {Q : Value → Shared → Prop} (hu : A.in1.units < cLine) (X₀ : K.In s.heap) (I : PySem.W.InstAt s.heap x ox C od) (hs : PySem.W.findIn K (.ref C) "__repr__" = some (some (.ref f)))
    (hf : PySem.W.isFn K (.ref f) = true) (h : wpAny (model prog w) A.in1 (call (.ref f) [.ref x]) (fun r s' => ∃ b t, r = Value.str b t ∧ Q r s') E' s) : wpAny (model prog w) A (call (.builtin "repr") [.ref x]) Q E' s := by
  refine Calls.call_function_entry PySem.F.kind_repr PySem.F.plain_repr PySem.F.entry_repr (PySem.F.args_repr1 _) (show wpAny _ _ (Builtin.«repr» _) _ _ s from ?_)
  unfold Builtin.«repr»
  refine wpAny_bind (m := oneArg "repr" _) (wpAny_pure (wpAny_bind (wpAny_cRoomFor hu (wpAny_bind (wpAny_bind (I.type.here ((PySem.W.looks_findIn X₀ hs).here ?_)))))))
  show wpAny _ _ (if (some (Value.ref f)).isNone = true then _ else _) _ _ s
  refine (if_neg (by simp) : (if (some (Value.ref f)).isNone = true then _ else _) = _) ▸ ?_
  refine wpAny_bind (m := callSpecialIfBound? (.ref x) (Str.ofString "__repr__") _) (PySem.W.ifBound_K X₀ I hs hf (wpAny_mono h (fun r s' ⟨b, t, e, hr⟩ => ?_) fun _ _ y => y))
  subst e
  refine wpAny_bind (wpAny_isInstance (typeIs_str _ _ _) isSubtype_str_str (by first | exact wpAny_pure ⟨_, rfl, hr⟩ | (rw [if_pos rfl]; exact wpAny_pure ⟨_, rfl, hr⟩)))
section
variable {X : Cx} {CX : CXT} {k : Nat} {C f : Addr} {fd : FuncData} {ps : List Str} {sp : Sp} {E : XK}
/-! ### str(x), x an instance with its own __str__ -/
def rStrOw (C : Addr) (sp : Sp) (E : XK) : List V → Hp → VK → Prop := fun vs H Q => ∃ a dx fs, vs = [.ref a] ∧ H a = some (.ins C dx fs) ∧ sp [.ref a] H (fun v H' => ∃ b, v = .str b ∧ Q v H') E
theorem call_strOw (at_ : PySem.W.findIn X.K (.ref C) "__str__" = some (some (.ref f))) (fn : PySem.W.isFn X.K (.ref f) = true) (F : FnOk X.prog X.w X.K X.mg X.base CX k f fd ps sp) (hr : Room (k + 2) X.A) (hb : Binds X.K fd ps []) (hx : Passes CX X E) :
    CallR X (.type "str") (rStrOw C sp E) := by
  intro pins s σ H vs us Q I r h
  obtain ⟨a, dx, fs, rfl, ha, q⟩ := h
  obtain rfl := Vals.ref1 r
  obtain ⟨od, J⟩ := inst_at I ha
  have hr2 : Room k X.A.in1.in1 := (show Room (k + 1) X.A.in1 from Room.in1 hr).in1
  refine PySem.W.kso_call (by have := hr2.units; omega) I.kIn J at_ fn (wpAny_mono (run_at2 (us := [.ref a]) (ws := [.ref a]) F hr2 I.env0.in1.in1 hb hx I (.cons rfl .nil) q) (fun w s' z => ?_) fun _ _ x => x)
  obtain ⟨z', H', I', rz, b, rfl, qz⟩ := z
  obtain ⟨t, rfl⟩ := rz
  exact ⟨.str b, H', I', ⟨t, rfl⟩, qz⟩
/-! ### repr(x), x an instance with its own __repr__ -/
theorem call_reprOw (at_ : PySem.W.findIn X.K (.ref C) "__repr__" = some (some (.ref f))) (fn : PySem.W.isFn X.K (.ref f) = true) (F : FnOk X.prog X.w X.K X.mg X.base CX k f fd ps sp) (hr : Room (k + 1) X.A) (hb : Binds X.K fd ps []) (hx : Passes CX X E) :
    CallR X (.builtin "repr") (rStrOw C sp E) := by
  intro pins s σ H vs us Q I r h
  obtain ⟨a, dx, fs, rfl, ha, q⟩ := h
  obtain rfl := Vals.ref1 r
  obtain ⟨od, J⟩ := inst_at I ha
  have hr1 : Room k X.A.in1 := Room.in1 hr
  refine repr_X (by have := hr1.units; omega) I.kIn J at_ fn (wpAny_mono (run_at2 (us := [.ref a]) (ws := [.ref a]) F hr1 I.env0.in1 hb hx I (.cons rfl .nil) q) (fun w s' z => ?_) fun _ _ x => x)
  obtain ⟨z', H', I', rz, b, rfl, qz⟩ := z
  obtain ⟨t, rfl⟩ := rz
  exact ⟨b, t, rfl, .str b, H', I', ⟨t, rfl⟩, qz⟩
/-! ### o.m(k = v, ..), a method called by names alone -/
def tMethK (C : Addr) (m : Str) (sp : Sp) (gV : List V → List V → List V) (E : XK) (ta : TE) (tk : TA) : TE := fun σ H Q => ta σ H fun x H1 => ∃ a dx fs, x = .ref a ∧ H1 a = some (.ins C dx fs) ∧ fs.lookup m = none ∧
  tk σ H1 fun zs H2 => sp (gV [x] zs) H2 Q E
theorem pe_methK {o : Expr} {m : Str} {apos pos : Pos} {kws : List Keyword} {ta : TE} {tk : TA} {ks : List Str} {g : List Value → List Value → List Value} {gV : List V → List V → List V} {pl : Sem Bool} (he : PE X o ta) (c : Cls X.K C) (hm : Meth X.K C m f) (F : FnOk X.prog X.w X.K X.mg X.base CX k f fd ps sp) (hr : Room k X.A)
    (hb : KBinds X.K fd ps ks g gV) (hx : Passes CX X E) (hkw : PK X kws tk) (hall : (backToKw pos (keywordEach kws X.env)).all (·.1.isSome) = true := by rfl) (hks : (backToKw pos (keywordEach kws X.env)).filterMap (·.1) = ks := by rfl)
    (hpl : ((backTo pos (starEach [] X.env)).any (·.1) || (backToKw pos (keywordEach kws X.env)).any (·.1.isNone)) = false := by rfl)
    (ht : eval (.Call (.Attribute o m apos) [] kws pos) X.env = (do
      let ov ← eval o X.env
      standAt apos.atName
      let (f, first) ← holding [ov] (getMethod ov m pl)
      callWith pos f first (backTo pos (starEach [] X.env)) (backToKw pos (keywordEach kws X.env))) := by rfl) : PE X (.Call (.Attribute o m apos) [] kws pos) (tMethK C m sp gV E ta tk) := by
  refine ⟨fun pins s σ H Q I h => PySem.W.methodCall_KW (pl := pl) (thn (he.run pins s σ H _ I h) fun u s1 ⟨x, H1, I1, rx, a, dx, fs, ex, ea, l, q⟩ => ?_) ht⟩
  subst ex
  obtain rfl : u = Value.ref a := rx
  refine getmeth_ok I1 ea c hm l (PySem.W.callWith_KW0 (first := [.ref a]) (h₀ := X.base) I.ok.mod.kin hm.kp hall (thn (hkw.run pos pins s1 σ H1 _ I1 q) fun ws s2 ⟨zs, H2, I2, rz, q2⟩ => ⟨I2.kIn, ?_⟩) hpl)
  rw [hks]
  exact run_fnk (us := [.ref a]) (vs := [.ref a]) F hr hb hx I2 (.cons rfl .nil) rz q2
/-! ### C.m(..), m a staticmethod of C: its record at p, its def at f -/
structure SMet (K : PySem.W.Frag) (C : Addr) (m : Str) (p f : Addr) : Prop where
  at_ : PySem.W.findCls K (.ref C) (.type "type") m = some (.get (.builtin "staticmethod.__get__") (.ref p) .none (.ref C))
  rc : ∃ rest, PySem.W.recIn K p "staticmethod" = some (.ref f :: rest)
  kp : PySem.W.keepIn K (.ref f) = true
theorem getsm_ok {pins : List (Addr × Obj)} {σ : L2.St} {H : Hp} {s : Shared} {A : Around} {E : Value → Shared → Prop} {m : Str} {p : Addr} {pl : Sem Bool} {Q : Value × List Value → Shared → Prop} (I : Inv X pins σ H s) (r : ClX.CRead X.K C (.type "type")) (c : SMet X.K C m p f)
    (h : ∀ s', Inv X pins σ H s' → Q (.ref f, []) s') : wpAny (model X.prog X.w) A (getMethod (.ref C) m pl) Q E s := by
  obtain ⟨rest, hp⟩ := c.rc
  exact PySem.W.method_cls I.kIn r.ga (PySem.W.cls_bind I.kIn r.rd c.at_ (wpAny_call (PySem.W.sm_get (s := { s with toks := s.toks + 1 }) I.kIn hp (PySem.W.handed_on rfl (h _ (I.tok _))))))
def tSm (C : Addr) (sp : Sp) (dvs : List V) (E : XK) (ta : TE) (t : TA) : TE := fun σ H Q => ta σ H fun x H1 => x = .ref C ∧ t σ H1 fun vs H2 => sp (vs ++ dvs) H2 Q E
theorem pe_sm {o e : Expr} {es : List Expr} {m : Str} {p : Addr} {apos pos : Pos} {ta : TE} {t : TA} {dvs : List V} {ds : List Value} {pl : Sem Bool} (he : PE X o ta) (r : ClX.CRead X.K C (.type "type")) (c : SMet X.K C m p f) (F : FnOk X.prog X.w X.K X.mg X.base CX k f fd ps sp) (hr : Room k X.A) (hb : Binds X.K fd ps ds) (hd : Vals dvs ds) (hx : Passes CX X E)
    (ha : PA X (e :: es) t) (hst : starEach (e :: es) X.env = (false, eval e X.env) :: starEach es X.env := by rfl) (hpl : (backTo pos (starEach es X.env)).any (·.1) = false := by rfl)
    (ht : eval (.Call (.Attribute o m apos) (e :: es) [] pos) X.env = (do
      let ov ← eval o X.env
      standAt apos.atName
      let (f, first) ← holding [ov] (getMethod ov m pl)
      callWith pos f first (backTo pos (starEach (e :: es) X.env)) (backToKw pos (keywordEach [] X.env))) := by rfl) : PE X (.Call (.Attribute o m apos) (e :: es) [] pos) (tSm C sp dvs E ta t) := by
  refine ⟨fun pins s σ H Q I h => PySem.W.methodCall_KW (pl := pl) (thn (he.run pins s σ H _ I h) fun u s1 ⟨x, H1, I1, rx, ex, q⟩ => ?_) ht⟩
  subst ex
  obtain rfl : u = Value.ref C := rx
  refine getsm_ok I1 r c fun s2 I2 => PySem.W.callWith_K (first := []) (h₀ := X.base) I.ok.mod.kin c.kp (thn (ha.run pos pins s2 σ H1 _ I2 q) fun us s3 ⟨vs, H2, I3, rv, q2⟩ => ⟨I3.kIn, ?_⟩) hst hpl
  exact run_fn (us := us) (vs := vs) F hr hb hd hx I3 rv q2
def tSmK (C : Addr) (sp : Sp) (gV : List V → List V → List V) (E : XK) (ta : TE) (tk : TA) : TE := fun σ H Q => ta σ H fun x H1 => x = .ref C ∧ tk σ H1 fun zs H2 => sp (gV [] zs) H2 Q E
theorem pe_smK {o : Expr} {m : Str} {p : Addr} {apos pos : Pos} {kws : List Keyword} {ta : TE} {tk : TA} {ks : List Str} {g : List Value → List Value → List Value} {gV : List V → List V → List V} {pl : Sem Bool} (he : PE X o ta) (r : ClX.CRead X.K C (.type "type")) (c : SMet X.K C m p f) (F : FnOk X.prog X.w X.K X.mg X.base CX k f fd ps sp) (hr : Room k X.A)
    (hb : KBinds X.K fd ps ks g gV) (hx : Passes CX X E) (hkw : PK X kws tk) (hall : (backToKw pos (keywordEach kws X.env)).all (·.1.isSome) = true := by rfl) (hks : (backToKw pos (keywordEach kws X.env)).filterMap (·.1) = ks := by rfl)
    (hpl : ((backTo pos (starEach [] X.env)).any (·.1) || (backToKw pos (keywordEach kws X.env)).any (·.1.isNone)) = false := by rfl)
    (ht : eval (.Call (.Attribute o m apos) [] kws pos) X.env = (do
      let ov ← eval o X.env
      standAt apos.atName
      let (f, first) ← holding [ov] (getMethod ov m pl)
      callWith pos f first (backTo pos (starEach [] X.env)) (backToKw pos (keywordEach kws X.env))) := by rfl) : PE X (.Call (.Attribute o m apos) [] kws pos) (tSmK C sp gV E ta tk) := by
  refine ⟨fun pins s σ H Q I h => PySem.W.methodCall_KW (pl := pl) (thn (he.run pins s σ H _ I h) fun u s1 ⟨x, H1, I1, rx, ex, q⟩ => ?_) ht⟩
  subst ex
  obtain rfl : u = Value.ref C := rx
  refine getsm_ok I1 r c fun s2 I2 => PySem.W.callWith_KW0 (first := []) (h₀ := X.base) I.ok.mod.kin c.kp hall (thn (hkw.run pos pins s2 σ H1 _ I2 q) fun ws s3 ⟨zs, H2, I3, rz, q2⟩ => ⟨I3.kIn, ?_⟩) hpl
  rw [hks]
  exact run_fnk (us := []) (vs := []) F hr hb hx I3 .nil rz q2
/-! ### x == y, x an instance with its own __eq__, y something else -/
def rOwN (K : PySem.W.Frag) (C : Addr) (sp : Sp) (E : XK) : R2 := fun x y H Q => ∃ a dx fs t, x = .ref a ∧ H a = some (.ins C dx fs) ∧ TyX K H y (.type t) ∧ PySem.W.subIn K (.type t) (.ref C) = some false ∧ sp [x, y] H Q E
theorem op_owEqN (at_ : PySem.W.findIn X.K (.ref C) "__eq__" = some (some (.ref f))) (fn : PySem.W.isFn X.K (.ref f) = true) (F : FnOk X.prog X.w X.K X.mg X.base CX k f fd ps sp) (hr : Room k X.A) (hb : Binds X.K fd ps []) (hx : Passes CX X E) :
    OpR X (compareOp .Eq) (rOwN X.K C sp E) := by
  intro pins s σ H x y v u Q I rx ry h
  obtain ⟨a, dx, fs, t, rfl, ha, ty, hsub, q⟩ := h
  cases (show v = Value.ref a from rx)
  obtain ⟨od, J⟩ := inst_at I ha
  obtain ⟨P, Z, hP, _⟩ := kit_of I ry ty
  obtain ⟨m, hF⟩ := I.fr
  refine PySem.W.cmp_K (op := .Eq) (tb := .type t) hr.units0 hF I.ok.mod.kin J (Z.ty _ s.heap I.kIn hP) (by simp [PySem.W.notFirst, hsub]) at_ fn ?_
  refine wpAny_mono (run_fn (us := [.ref a, u]) (vs := [.ref a, y]) F hr hb .nil hx I (.cons rfl (.cons ry .nil)) q) (fun w s' z => ?_) fun _ _ x => x
  obtain ⟨z', H', I', rz, qz⟩ := z
  exact cb rz ⟨z', H', I', rz, qz⟩
end
end TL
namespace TL
open PySem L2
/-! ### how keywords bind: one value by place and one by name, or one by name alone -/
def g11 {α : Type} : List α → List α → List α
  | [a], [b] => [a, b]
  | _, _ => []
def g01 {α : Type} : List α → List α → List α
  | [], [a] => [a]
  | _, _ => []
theorem vals_g11 {vs zs : List V} {us ws : List Value} (r : Vals vs us) (q : Vals zs ws) : Vals (g11 vs zs) (g11 us ws) := by
  rcases r with _ | ⟨h1, _ | ⟨_, _⟩⟩ <;> rcases q with _ | ⟨h2, _ | ⟨_, _⟩⟩ <;> first | exact .nil | exact .cons h1 (.cons h2 .nil)
theorem vals_g01 {vs zs : List V} {us ws : List Value} (r : Vals vs us) (q : Vals zs ws) : Vals (g01 vs zs) (g01 us ws) := by
  rcases r with _ | ⟨h1, _ | ⟨_, _⟩⟩ <;> rcases q with _ | ⟨h2, _ | ⟨_, _⟩⟩ <;> first | exact .nil | exact .cons h2 .nil
theorem g11_two {α : Type} {us ws : List α} (h : (g11 us ws).length = 2) : ∃ a b, us = [a] ∧ ws = [b] := by
  match us, ws, h with
  | [a], [b], _ => exact ⟨a, b, rfl, rfl⟩
  | [], _, h => simp [g11] at h
  | _ :: _ :: _, _, h => simp [g11] at h
  | [_], [], h => simp [g11] at h
  | [_], _ :: _ :: _, h => simp [g11] at h
theorem g01_one {α : Type} {us ws : List α} (h : (g01 us ws).length = 1) : ∃ a, us = [] ∧ ws = [a] := by
  match us, ws, h with
  | [], [a], _ => exact ⟨a, rfl, rfl⟩
  | _ :: _, _, h => simp [g01] at h
  | [], [], h => simp [g01] at h
  | [], _ :: _ :: _, h => simp [g01] at h
theorem Fun.kb11 {K : PySem.W.Frag} {x qual : Str} {st : Stmt} {f : Addr} {fd : FuncData} {p1 p2 : Str} (F : L2.Fun K x qual st f fd)
    (h : ∀ (kV doc pm : Value) (an : Option Addr) (cdv ct a b : Value), bindArgs (PySem.W.fnOf x qual (defArgs st) (defBody st) (defScope st) .none kV doc pm an cdv ct) ⟨[a], [(p2, b)]⟩ = pure [(p1, a), (p2, b)]) : KBinds K fd [p1, p2] [p2] g11 g11 := by
  obtain ⟨oc, od, kV, doc, pm, an, cdv, ct, osl, rfl, lk, hcd⟩ := F.ex
  refine ⟨fun s us ws X hl => ?_, vals_g11⟩
  obtain ⟨a, b, rfl, rfl⟩ := g11_two hl
  exact .of_eq (h _ _ _ _ _ _ a b)
theorem Fun.kb01 {K : PySem.W.Frag} {x qual : Str} {st : Stmt} {f : Addr} {fd : FuncData} {p1 : Str} (F : L2.Fun K x qual st f fd)
    (h : ∀ (kV doc pm : Value) (an : Option Addr) (cdv ct a : Value), bindArgs (PySem.W.fnOf x qual (defArgs st) (defBody st) (defScope st) .none kV doc pm an cdv ct) ⟨[], [(p1, a)]⟩ = pure [(p1, a)]) : KBinds K fd [p1] [p1] g01 g01 := by
  obtain ⟨oc, od, kV, doc, pm, an, cdv, ct, osl, rfl, lk, hcd⟩ := F.ex
  refine ⟨fun s us ws X hl => ?_, vals_g01⟩
  obtain ⟨a, rfl, rfl⟩ := g01_one hl
  exact .of_eq (h _ _ _ _ _ _ a)
/-- a def with defaults, called with keywords, all parameters written: g puts them in order -/
theorem FunD.kbinds1 {K : PySem.W.Frag} {x qual : Str} {params : Arguments} {body : List Stmt} {scope : Scope} {dvs : List V} {kws : List (Str × V)} {f : Addr} {fd : FuncData} {ps : List Str} (F : FunD K x qual params body scope dvs kws f fd) (n : Nat) (ks : List Str) (g : {α : Type} → List α → List α → List α) (hd : dvs ≠ [])
    (hrel : ∀ {vs zs : List V} {us ws : List Value}, Vals vs us → Vals zs ws → Vals (g vs zs) (g us ws))
    (h : ∀ (T : Addr) (kV doc pm : Value) (an : Option Addr) (cdv ct : Value) (us its ws : List Value), us.length = n → its.length = dvs.length → ws.length = ks.length →
      ∃ k, bindArgs (PySem.W.fnOf x qual params body scope (.ref T) kV doc pm an cdv ct) ⟨us, ks.zip ws⟩ = seqItems? (.ref T) >>= k ∧ k (some its.toArray) = pure (ps.zip (g us ws))) : KBn K fd ps n ks (fun us ws => g us ws) (fun vs zs => g vs zs) := by
  obtain ⟨oc, od, dV, kV, doc, pm, an, cdv, ct, osl, rfl, lk, hcd, hD, hK⟩ := F.ex
  rcases hD with ⟨e, _⟩ | ⟨_, T, o, its, m, rfl, lT, oT, rT⟩
  · exact absurd e hd
  · refine ⟨fun s us ws X l1 l2 => BindsTo.of_looks fun M => ?_, hrel⟩
    obtain ⟨k, e1, e2⟩ := h T kV doc pm an cdv ct us its ws l1 rT.length.symm l2
    rw [e1]
    exact looks_items X lT oT (.of_pure e2)
/-- the two values by name, the second parameter first -/
def gSwap {α : Type} (us ws : List α) : List α := us ++ ws.reverse
theorem vals_rev {vs : List V} {us : List Value} (r : Vals vs us) : Vals vs.reverse us.reverse := by
  induction r with
  | nil => exact .nil
  | cons h _ ih => rw [List.reverse_cons, List.reverse_cons]; exact ih.append (.cons h .nil)
theorem vals_swap {vs zs : List V} {us ws : List Value} (r : Vals vs us) (q : Vals zs ws) : Vals (gSwap vs zs) (gSwap us ws) := r.append (vals_rev q)
def gApp {α : Type} (us ws : List α) : List α := us ++ ws
theorem vals_app {vs zs : List V} {us ws : List Value} (r : Vals vs us) (q : Vals zs ws) : Vals (gApp vs zs) (gApp us ws) := r.append q
end TL
namespace TL
open PySem L2
/-! ### a def called by names alone -/
section
variable {X : Cx} {CX : CXT} {k : Nat} {x : Str} {f : Addr} {fd : FuncData} {ps ks : List Str} {sp : Sp} {E : XK} {tk : TA} {kws : List Keyword} {p pos : Pos} {g : List Value → List Value → List Value} {gV : List V → List V → List V}
def tCallK0 (sp : Sp) (gV : List V → List V → List V) (E : XK) (tk : TA) : TE := fun σ H Q => tk σ H fun zs H2 => sp (gV [] zs) H2 Q E
theorem pe_callK0 (F : FnOk X.prog X.w X.K X.mg X.base CX k f fd ps sp) (hr : Room k X.A) (hg : Gl X x) (hm : X.mg x = some (.ref f)) (hk : PySem.W.keepIn X.K (.ref f) = true) (hb : KBinds X.K fd ps ks g gV) (hx : Passes CX X E)
    (hkw : PK X kws tk) (hall : (backToKw pos (keywordEach kws X.env)).all (·.1.isSome) = true := by rfl) (hks : (backToKw pos (keywordEach kws X.env)).filterMap (·.1) = ks := by rfl)
    (hdb : (x == ("__debug__" : Str)) = false := by decide)
    (hpl : ((backTo pos (starEach [] X.env)).any (·.1) || (backToKw pos (keywordEach kws X.env)).any (·.1.isNone)) = false := by rfl) :
    PE X (.Call (.Name x p) [] kws pos) (tCallK0 sp gV E tk) := by
  refine ⟨fun pins s σ H Q I h => ?_⟩
  refine wpAny_Call_Name_kw (ld_glob I hg hm ?_ hdb)
  refine PySem.W.callWith_KW0 (first := []) (h₀ := X.base) I.ok.mod.kin hk hall (thn (hkw.run pos pins s σ H _ I h) fun ws s2 ⟨zs, H2, I2, rz, q2⟩ => ⟨I2.kIn, ?_⟩) hpl
  rw [hks]
  exact run_fnk (us := []) (vs := []) F hr hb hx I2 .nil rz q2
end
/-- two values by name, the second parameter first -/
def g02s {α : Type} : List α → List α → List α
  | [], [a, b] => [b, a]
  | _, _ => []
theorem vals_g02s {vs zs : List V} {us ws : List Value} (r : Vals vs us) (q : Vals zs ws) : Vals (g02s vs zs) (g02s us ws) := by
  rcases r with _ | ⟨h1, _⟩
  · rcases q with _ | ⟨h2, _ | ⟨h3, _ | ⟨_, _⟩⟩⟩ <;> first | exact .nil | exact .cons h3 (.cons h2 .nil)
  · exact .nil
theorem g02s_two {α : Type} {us ws : List α} (h : (g02s us ws).length = 2) : ∃ a b, us = [] ∧ ws = [a, b] := by
  match us, ws, h with
  | [], [a, b], _ => exact ⟨a, b, rfl, rfl⟩
  | _ :: _, _, h => simp [g02s] at h
  | [], [], h => simp [g02s] at h
  | [], [_], h => simp [g02s] at h
  | [], _ :: _ :: _ :: _, h => simp [g02s] at h
theorem Fun.kb02s {K : PySem.W.Frag} {x qual : Str} {st : Stmt} {f : Addr} {fd : FuncData} {p1 p2 : Str} (F : L2.Fun K x qual st f fd)
    (h : ∀ (kV doc pm : Value) (an : Option Addr) (cdv ct a b : Value), bindArgs (PySem.W.fnOf x qual (defArgs st) (defBody st) (defScope st) .none kV doc pm an cdv ct) ⟨[], [(p2, b), (p1, a)]⟩ = pure [(p1, a), (p2, b)]) : KBinds K fd [p1, p2] [p2, p1] g02s g02s := by
  obtain ⟨oc, od, kV, doc, pm, an, cdv, ct, osl, rfl, lk, hcd⟩ := F.ex
  refine ⟨fun s us ws X hl => ?_, vals_g02s⟩
  obtain ⟨a, b, rfl, rfl⟩ := g02s_two hl
  exact .of_eq (h _ _ _ _ _ _ b a)
end TL
namespace PySem.W
open PySem PySem.Spec PySem.Calls PyProof.Rows
section
variable {prog : Program} {w : World} {A : Around} {E : Value → Shared → Prop} {s : Shared} {K : Frag} {x C L : Addr} {h₀ : Heap} {m : Str → Option Value} {ox : Obj} {od : Option Obj} {f : Addr} {b tb : Value} {name : Str} {id : String}
theorem ifBound_KB {M : Model} {args : List Value} {Q : Option Value → Shared → Prop} (X : K.In s.heap) (I : InstAt s.heap x ox C od) (hs : findIn K (.ref C) name = some (some (.builtin id))) (hb : ∀ self, bindSpecial (.builtin id) self = pure (.builtin id, [self]))
    (h : wpAny M A (call (.builtin id) (.ref x :: args)) (fun v => Q (some v)) E s) : wpAny M A (callSpecialIfBound? (.ref x) name args) Q E s := by
  simp only [callSpecialIfBound?, bindSpecialIfBound?]
  refine wpAny_holding (wpAny_bind (wpAny_bind (wpAny_bind (I.type.here ((looks_findIn X hs).here ?_)))))
  refine wpAny_bind (wpAny_askSetting (wpAny_ite ?_))
  have fin : wpAny M A (call (.builtin id) ([.ref x] ++ args) >>= fun v => pure (some v)) Q E s := wpAny_bind (wpAny_mono h (fun v s' h' => wpAny_pure h') fun _ _ h' => h')
  split
  · exact wpAny_bind ((Looks.of_pure (hb _)).here (wpAny_pure (by exact fin)))
  · exact wpAny_tryCatch (wpAny_bind ((Looks.of_pure (hb _)).here (wpAny_pure (by exact fin))))
open Builtin in
theorem one_ne {Q : Value → Shared → Prop} (hu : A.in1.units < cLine) (X : K.In s.heap) (I : InstAt s.heap x ox C od) (hm : mroIn K C (.type "object") = some true) (hr : findIn K (.ref C) "__eq__" = some (some (.ref f))) (hf : isFn K (.ref f) = true)
    (h : wpAny (model prog w) A.in1 (call (.ref f) [.ref x, b]) (fun v s' => ∃ c, v = .bool c ∧ Q (.bool (!c)) s') E s) : wpAny (model prog w) A (call (.builtin "object.__ne__") [.ref x, b]) Q E s := by
  refine wpAny_call (codeAny_call_builtin PySem.F.cmp_object.ne.plain PySem.F.cmpEntry_ne (check_slot (i := "object.__ne__") (owner := "object") (n := "__ne__") (by decide +kernel) (by decide +kernel) (I.type.andThen (looks_mroIn X hm)) (PySem.F.cmpArgs_ne _ _) ?_))
  unfold Builtin.«object.__ne__»
  refine wpAny_bind (m := slotArgs "__ne__" 1 _) (wpAny_pure ?_)
  refine wpAny_bind (m := cRoomFor _ _) (wpAny_cRoomFor hu ?_)
  refine wpAny_bind (m := callSpecialIfBound? (.ref x) (Str.ofString "__eq__") _) (ifBound_K X I hr hf (wpAny_mono h (fun r s' hq => ?_) fun _ _ y => y))
  obtain ⟨c, rfl, hq⟩ := hq
  exact wpAny_bind (wpAny_truthy_bool (wpAny_pure hq))
theorem cmp_KNe {Q : Value → Shared → Prop} (hu : A.units < cLine) (hu1 : A.in1.units < cLine) (F : Fr h₀ L s.heap m) (X₀ : K.In h₀) (I : InstAt s.heap x ox C od) (hb : Looks (model prog w) s.heap (typeOf b) tb) (hn : notFirst K C tb = true)
    (hne : findIn K (.ref C) "__ne__" = some (some (.builtin "object.__ne__"))) (hm : mroIn K C (.type "object") = some true) (hs : findIn K (.ref C) "__eq__" = some (some (.ref f))) (hf : isFn K (.ref f) = true)
    (h : wpAny (model prog w) A.in1 (call (.ref f) [.ref x, b]) (fun v s' => ∃ c, v = .bool c ∧ Q (.bool (!c)) s') E s) : wpAny (model prog w) A (richCompare .NotEq (.ref x) b) Q E s := by
  have X := X₀.keeps F.keep
  have one : wpAny (model prog w) A (tryCompare (.ref x) (cmpInfo .NotEq).2.1 b) (fun r s' => ∃ v, r = some v ∧ Q v s') E s := by
    unfold tryCompare
    refine wpAny_bind (ifBound_KB X I hne PySem.F.cmp_object.ne.bind (one_ne hu1 X I hm hs hf (wpAny_mono h (fun v s' hv => ?_) fun _ _ e => e)))
    obtain ⟨c, rfl, hq⟩ := hv
    exact ⟨c, rfl, wpAny_pure ⟨_, rfl, hq⟩⟩
  unfold richCompare
  simp only [oneThing_ref]
  refine wpAny_holding (wpAny_bind (wpAny_cRoomFor hu ?_))
  refine wpAny_bind (I.type.here (wpAny_bind (hb.here ?_)))
  split
  · rename_i q
    have e : subIn K tb (.ref C) = some false := by
      rcases Bool.or_eq_true_iff.mp hn with e | e
      · rw [beq_iff_eq.mp e] at q; simp at q
      · exact beq_iff_eq.mp e
    refine wpAny_bind ((looks_subIn X e).here ?_)
    simp only [Bool.false_eq_true, if_false]
    refine wpAny_bind (wpAny_mono one (fun r s' z => ?_) fun _ _ e => e)
    obtain ⟨v, rfl, hq⟩ := z
    exact wpAny_pure hq
  · refine wpAny_bind (wpAny_pure ?_)
    simp only [Bool.false_eq_true, if_false]
    refine wpAny_bind (wpAny_mono one (fun r s' z => ?_) fun _ _ e => e)
    obtain ⟨v, rfl, hq⟩ := z
    exact wpAny_pure hq
end
end PySem.W
namespace TL
open PySem L2
section
variable {X : Cx} {C f : Addr} {k : Nat} {fd : FuncData} {ps : List Str} {sp : Sp} {CX : CXT} {E : XK}
/-- x != y, both instances of the class at C that has __eq__ alone -/
def rOwNe (C : Addr) (sp : Sp) (E : XK) : R2 := fun x y H Q => ∃ a dx fs b dy gs, x = .ref a ∧ y = .ref b ∧ H a = some (.ins C dx fs) ∧ H b = some (.ins C dy gs) ∧ sp [x, y] H (fun v H' => ∃ c, v = .bl c ∧ Q (.bl (!c)) H') E
theorem op_owNe (at_ : PySem.W.findIn X.K (.ref C) "__eq__" = some (some (.ref f))) (fn : PySem.W.isFn X.K (.ref f) = true) (ne : PySem.W.findIn X.K (.ref C) "__ne__" = some (some (.builtin "object.__ne__"))) (hm : PySem.W.mroIn X.K C (.type "object") = some true)
    (F : FnOk X.prog X.w X.K X.mg X.base CX k f fd ps sp) (hr : Room (k + 1) X.A) (hb : Binds X.K fd ps []) (hx : Passes CX X.nox E) : OpR X (compareOp .NotEq) (rOwNe C sp E) := by
  intro pins s σ H x y v u Q I rx ry h
  obtain ⟨a, dx, fs, b, dy, gs, rfl, rfl, ha, hb', q⟩ := h
  cases (show v = Value.ref a from rx)
  cases (show u = Value.ref b from ry)
  obtain ⟨od, J⟩ := inst_at I ha
  obtain ⟨od', J'⟩ := inst_at I hb'
  obtain ⟨m, hF⟩ := I.fr
  refine PySem.W.cmp_KNe (tb := .ref C) hr.units0 hr.in1.units0 hF I.ok.mod.kin J J'.type (by simp [PySem.W.notFirst]) ne hm at_ fn ?_
  have hl : ([Value.ref a, Value.ref b] ++ []).length = ps.length := by
    rw [← F.len _ _ _ _ q]
    rfl
  refine wpAny_call (codeAny_mono (F.run X.A.in1 X.stack s H ⟨[.ref a, .ref b], []⟩ [.ref a, .ref b] [.ref a, .ref b] _ E hr.in1 I.env0.in1 (hb s [.ref a, .ref b] I.kIn hl) (.cons rfl (.cons rfl .nil)) q) fun r s' hq => ?_)
  cases r with
  | error er => exact False.elim (hx pins σ H s er s' (I.wish _) hq)
  | ok fl =>
    cases fl with
    | ret u =>
      obtain ⟨v, H', I3, rv, c, rfl, q3⟩ := I.after hq
      cases (show u = Value.bool c from rv)
      exact ⟨c, rfl, .bl (!c), H', I3, rfl, q3⟩
    | next => exact False.elim hq
    | brk => exact False.elim hq
    | cont => exact False.elim hq
end
end TL
namespace TL
open PySem L2
/-- two values by name, in order -/
def g02 {α : Type} : List α → List α → List α
  | [], [a, b] => [a, b]
  | _, _ => []
theorem vals_g02 {vs zs : List V} {us ws : List Value} (r : Vals vs us) (q : Vals zs ws) : Vals (g02 vs zs) (g02 us ws) := by
  rcases r with _ | ⟨h1, _⟩
  · rcases q with _ | ⟨h2, _ | ⟨h3, _ | ⟨_, _⟩⟩⟩ <;> first | exact .nil | exact .cons h2 (.cons h3 .nil)
  · exact .nil
theorem g02_two {α : Type} {us ws : List α} (h : (g02 us ws).length = 2) : ∃ a b, us = [] ∧ ws = [a, b] := by
  match us, ws, h with
  | [], [a, b], _ => exact ⟨a, b, rfl, rfl⟩
  | _ :: _, _, h => simp [g02] at h
  | [], [], h => simp [g02] at h
  | [], [_], h => simp [g02] at h
  | [], _ :: _ :: _ :: _, h => simp [g02] at h
theorem Fun.kb02 {K : PySem.W.Frag} {x qual : Str} {st : Stmt} {f : Addr} {fd : FuncData} {p1 p2 : Str} (F : L2.Fun K x qual st f fd)
    (h : ∀ (kV doc pm : Value) (an : Option Addr) (cdv ct a b : Value), bindArgs (PySem.W.fnOf x qual (defArgs st) (defBody st) (defScope st) .none kV doc pm an cdv ct) ⟨[], [(p1, a), (p2, b)]⟩ = pure [(p1, a), (p2, b)]) : KBinds K fd [p1, p2] [p1, p2] g02 g02 := by
  obtain ⟨oc, od, kV, doc, pm, an, cdv, ct, osl, rfl, lk, hcd⟩ := F.ex
  refine ⟨fun s us ws X hl => ?_, vals_g02⟩
  obtain ⟨a, b, rfl, rfl⟩ := g02_two hl
  exact .of_eq (h _ _ _ _ _ _ a b)
/-- three values by name, the third parameter ahead of the second -/
def g03s {α : Type} : List α → List α → List α
  | [], [a, c, b] => [a, b, c]
  | _, _ => []
theorem vals_g03s {vs zs : List V} {us ws : List Value} (r : Vals vs us) (q : Vals zs ws) : Vals (g03s vs zs) (g03s us ws) := by
  rcases r with _ | ⟨h1, _⟩
  · rcases q with _ | ⟨h2, _ | ⟨h3, _ | ⟨h4, _ | ⟨_, _⟩⟩⟩⟩ <;> first | exact .nil | exact .cons h2 (.cons h4 (.cons h3 .nil))
  · exact .nil
theorem g03s_three {α : Type} {us ws : List α} (h : (g03s us ws).length = 3) : ∃ a c b, us = [] ∧ ws = [a, c, b] := by
  match us, ws, h with
  | [], [a, c, b], _ => exact ⟨a, c, b, rfl, rfl⟩
  | _ :: _, _, h => simp [g03s] at h
  | [], [], h => simp [g03s] at h
  | [], [_], h => simp [g03s] at h
  | [], [_, _], h => simp [g03s] at h
  | [], _ :: _ :: _ :: _ :: _, h => simp [g03s] at h
theorem Fun.kb03s {K : PySem.W.Frag} {x qual : Str} {st : Stmt} {f : Addr} {fd : FuncData} {p1 p2 p3 : Str} (F : L2.Fun K x qual st f fd)
    (h : ∀ (kV doc pm : Value) (an : Option Addr) (cdv ct a c b : Value), bindArgs (PySem.W.fnOf x qual (defArgs st) (defBody st) (defScope st) .none kV doc pm an cdv ct) ⟨[], [(p1, a), (p3, c), (p2, b)]⟩ = pure [(p1, a), (p2, b), (p3, c)]) : KBinds K fd [p1, p2, p3] [p1, p3, p2] g03s g03s := by
  obtain ⟨oc, od, kV, doc, pm, an, cdv, ct, osl, rfl, lk, hcd⟩ := F.ex
  refine ⟨fun s us ws X hl => ?_, vals_g03s⟩
  obtain ⟨a, c, b, rfl, rfl⟩ := g03s_three hl
  exact .of_eq (h _ _ _ _ _ _ a c b)
end TL
namespace TL
open PySem PySem.Spec PyProof.Rows L2
/-! ### max and min of a tuple of ints -/
section
variable {prog : Program} {w : World} {A : Around} {E : Value → Shared → Prop} {s : Shared} {l : Addr} {xs : Array (Int × Tok)}
theorem iter_intTuple {Q : Value → Shared → Prop} (hl : s.heap.IsTuple l (intItems xs))
    (h : ∀ s₂ : Shared, s₂ = { s with heap := s.heap.push { cls := .type "tuple_iterator", data := .fields #[.ref l, .int 0 0] } } →
      (s₂.heap.IsTupleIter s.heap.objs.size l 0 ∧ s₂.heap.IsTuple l (intItems xs)) → (∀ b ∈ [s.heap.objs.size, l], b < s₂.heap.objs.size) → l ≠ s.heap.objs.size → Q (.ref s.heap.objs.size) s₂) :
    wpAny (model prog w) A (pyIter (.ref l)) Q E s := by
  have hlt : l < s.heap.objs.size := by obtain ⟨_, e, _⟩ := hl; exact Heap.lt_size e
  refine wpAny_pyIter_tuple hl (h _ rfl ⟨⟨_, Heap.get?_push_size _ rfl, rfl, rfl⟩, hl.push _⟩ (fun b hb => ?_) (Nat.ne_of_lt hlt))
  show b < (s.heap.push _).objs.size
  rw [Heap.size_push]
  rcases List.mem_cons.mp hb with rfl | hb
  · exact Nat.lt_succ_self _
  · rcases List.mem_cons.mp hb with rfl | hb
    · exact Nat.lt_succ_of_lt hlt
    · cases hb
theorem old_keptT {h' : Heap} (hk : ∀ b o, b ∉ [s.heap.objs.size] → (s.heap.push { cls := .type "tuple_iterator", data := .fields #[.ref l, .int 0 0] }).get? b = some o → h'.get? b = some o) :
    ∀ b o, s.heap.get? b = some o → h'.get? b = some o := fun b o e => by
  refine hk b o (fun hm => ?_) (Heap.get?_push_of_some _ e)
  rcases List.mem_cons.mp hm with e1 | hm
  · rw [e1] at e
    exact absurd (Heap.lt_size e) (Nat.lt_irrefl _)
  · cases hm
theorem max_intTuple {Q : Value → Shared → Prop} (hh : A.handled = none) (hl : s.heap.IsTuple l (intItems xs)) (hne : 0 < xs.size)
    (h : ∀ v h' tk, (intItems xs)[argBest (fun i j => decide (numAt xs i > numAt xs j)) (xs.size - 1)]? = some v → (∀ b o, s.heap.get? b = some o → h'.get? b = some o) → Q v { s with heap := h', toks := tk }) :
    wpAny (model prog w) A (call (.builtin "max") [.ref l]) Q E s := by
  refine call_max_walk (iter_intTuple hl fun s₂ e st hfp hlI => ?_)
  subst e
  refine ⟨_, _, _, _, _, _, _, rfl, Walks.tuple (A := A.in1) hh _ l hlI (intItems xs), st, hfp, by simpa [intItems] using hne, CmpOf.ints_gt (numAt xs) (fun _ _ => intItems_at), fun v h' tk hP hk => ?_⟩
  exact h v h' tk (by simpa [intItems] using hP) (old_keptT hk)
theorem min_intTuple {Q : Value → Shared → Prop} (hh : A.handled = none) (hl : s.heap.IsTuple l (intItems xs)) (hne : 0 < xs.size)
    (h : ∀ v h' tk, (intItems xs)[argBest (fun i j => decide (numAt xs i < numAt xs j)) (xs.size - 1)]? = some v → (∀ b o, s.heap.get? b = some o → h'.get? b = some o) → Q v { s with heap := h', toks := tk }) :
    wpAny (model prog w) A (call (.builtin "min") [.ref l]) Q E s := by
  refine call_min_walk (iter_intTuple hl fun s₂ e st hfp hlI => ?_)
  subst e
  refine ⟨_, _, _, _, _, _, _, rfl, Walks.tuple (A := A.in1) hh _ l hlI (intItems xs), st, hfp, by simpa [intItems] using hne, CmpOf.ints_lt (numAt xs) (fun _ _ => intItems_at), fun v h' tk hP hk => ?_⟩
  exact h v h' tk (by simpa [intItems] using hP) (old_keptT hk)
end
section
variable {prog : Program} {w : World} {A : Around} {E : Value → Shared → Prop} {s : Shared} {l : Addr} {its : List Value} {ns : List Int} {Q : Value → Shared → Prop}
theorem max_rawT (hh : A.handled = none) (hl : s.heap.IsTuple l its.toArray) (hi : IntsAre its ns) (hne : 0 < ns.length)
    (h : ∀ h' tk M t', (∀ b o, s.heap.get? b = some o → h'.get? b = some o) → M ∈ ns → (∀ a, a ∈ ns → a ≤ M) → Q (.int M t') { s with heap := h', toks := tk }) : wpAny (model prog w) A (call (.builtin "max") [.ref l]) Q E s := by
  obtain ⟨xs, e⟩ := hi.allInts.items
  have hn : numsOf (intItems xs).toList = ns := by rw [← e]; exact hi.numsOf
  rw [nums_intItems] at hn
  subst hn
  rw [e] at hl
  have hsz : 0 < xs.size := by simpa using hne
  refine max_intTuple hh hl hsz fun v h' tk hv hk => ?_
  obtain ⟨t, rfl⟩ := intItems_at hv
  obtain ⟨h1, h2⟩ := argBest_gt (numAt xs) (xs.size - 1)
  refine h h' tk _ t hk ?_ fun a ha => ?_
  · rw [numAt_eq]; exact PySem.getD_mem (by rw [List.length_map, Array.length_toList]; omega)
  · obtain ⟨j, hj, rfl⟩ := mem_getD ha
    rw [List.length_map, Array.length_toList] at hj
    rw [← numAt_eq]; exact h2 j (by omega)
theorem min_rawT (hh : A.handled = none) (hl : s.heap.IsTuple l its.toArray) (hi : IntsAre its ns) (hne : 0 < ns.length)
    (h : ∀ h' tk M t', (∀ b o, s.heap.get? b = some o → h'.get? b = some o) → M ∈ ns → (∀ a, a ∈ ns → M ≤ a) → Q (.int M t') { s with heap := h', toks := tk }) : wpAny (model prog w) A (call (.builtin "min") [.ref l]) Q E s := by
  obtain ⟨xs, e⟩ := hi.allInts.items
  have hn : numsOf (intItems xs).toList = ns := by rw [← e]; exact hi.numsOf
  rw [nums_intItems] at hn
  subst hn
  rw [e] at hl
  have hsz : 0 < xs.size := by simpa using hne
  refine min_intTuple hh hl hsz fun v h' tk hv hk => ?_
  obtain ⟨t, rfl⟩ := intItems_at hv
  obtain ⟨h1, h2⟩ := argBest_lt (numAt xs) (xs.size - 1)
  refine h h' tk _ t hk ?_ fun a ha => ?_
  · rw [numAt_eq]; exact PySem.getD_mem (by rw [List.length_map, Array.length_toList]; omega)
  · obtain ⟨j, hj, rfl⟩ := mem_getD ha
    rw [List.length_map, Array.length_toList] at hj
    rw [← numAt_eq]; exact h2 j (by omega)
end
section
variable {X : Cx}
/-- max(xs), min(xs) of a list or a tuple of ints -/
def rMaxS (K : PySem.W.Frag) : List V → Hp → VK → Prop := fun vs H Q => ∃ (a : Addr) (ns : List Int), vs = [V.ref a] ∧ Sq K H a (ns.map V.int) ∧ 0 < ns.length ∧ ∀ m, m ∈ ns → (∀ y, y ∈ ns → y ≤ m) → Q (.int m) H
def rMinS (K : PySem.W.Frag) : List V → Hp → VK → Prop := fun vs H Q => ∃ (a : Addr) (ns : List Int), vs = [V.ref a] ∧ Sq K H a (ns.map V.int) ∧ 0 < ns.length ∧ ∀ m, m ∈ ns → (∀ y, y ∈ ns → m ≤ y) → Q (.int m) H
theorem cr_maxS (hc : X.calm = true) : CallR X (.builtin "max") (rMaxS X.K) := by
  intro pins s σ H vs us Q I r h
  obtain ⟨a, ns, rfl, hs, hne, q⟩ := h
  rcases hs with hs | hs
  · exact cr_max hc pins s σ H _ us Q I r ⟨a, ns, rfl, hs, hne, q⟩
  · obtain ⟨its, rv, hl, _⟩ := I.tuple hs
    rw [Vals.ref1 r]
    exact max_rawT (I.ok.hd hc) hl rv.ints hne fun h' tk m t' hk h1 h2 => ⟨.int _, H, I.kept hk, ⟨_, rfl⟩, q m h1 h2⟩
theorem cr_minS (hc : X.calm = true) : CallR X (.builtin "min") (rMinS X.K) := by
  intro pins s σ H vs us Q I r h
  obtain ⟨a, ns, rfl, hs, hne, q⟩ := h
  rcases hs with hs | hs
  · exact cr_min hc pins s σ H _ us Q I r ⟨a, ns, rfl, hs, hne, q⟩
  · obtain ⟨its, rv, hl, _⟩ := I.tuple hs
    rw [Vals.ref1 r]
    exact min_rawT (I.ok.hd hc) hl rv.ints hne fun h' tk m t' hk h1 h2 => ⟨.int _, H, I.kept hk, ⟨_, rfl⟩, q m h1 h2⟩
end
end TL
namespace TL
theorem pp_bound {k : Nat} : ∀ {ps as : List Nat}, (∀ p ∈ ps, 0 < p) → (∀ a ∈ as, a ≤ k) → pp ps as ≤ ps.foldr (· * ·) 1 ^ k
  | [], _, _, _ => by simp [pp]
  | p :: ps, [], h, _ => by
    have : ∀ qs : List Nat, (∀ q ∈ qs, 0 < q) → 0 < qs.foldr (· * ·) 1 := by
      intro qs
      induction qs with
      | nil => intro _; exact Nat.one_pos
      | cons q qs ih => intro hq; exact Nat.mul_pos (hq q (List.mem_cons_self ..)) (ih fun r hr => hq r (List.mem_cons_of_mem _ hr))
    exact Nat.pow_pos (this (p :: ps) h)
  | p :: ps, a :: as, h, ha => by
    have ih := pp_bound (ps := ps) (as := as) (fun q hq => h q (List.mem_cons_of_mem _ hq)) (fun b hb => ha b (List.mem_cons_of_mem _ hb))
    simp only [pp, List.foldr_cons, Nat.mul_pow]
    exact Nat.mul_le_mul (Nat.pow_le_pow_right (h p (List.mem_cons_self ..)) (ha a (List.mem_cons_self ..))) ih
/-- exponents of at most k -/
def Ex (k : Nat) (e : List Int) : Prop := ∀ x ∈ e, x.natAbs ≤ k
theorem ex_up {k : Nat} {e : List Int} (h : Ex k e) : up e ≤ 30030 ^ k := pp_bound (ps := prs) (by decide) fun a ha => by
  obtain ⟨x, hx, rfl⟩ := List.mem_map.mp (show a ∈ e.map Int.toNat from ha)
  have := h x hx
  omega
theorem ex_neg {k : Nat} {e : List Int} (h : Ex k e) : Ex k (negE e) := fun x hx => by
  obtain ⟨y, hy, rfl⟩ := List.mem_map.mp (show x ∈ e.map (- ·) from hx)
  rw [Int.natAbs_neg]
  exact h y hy
theorem ex_dn {k : Nat} {e : List Int} (h : Ex k e) : dn e ≤ 30030 ^ k := by
  rw [← up_neg]
  exact ex_up (ex_neg h)
theorem ex_mul {k : Nat} {e : List Int} {n : Int} {m : Nat} (hn : n.natAbs ≤ m) (h : Ex k e) : Ex (m * k) (mulE n e) := fun x hx => by
  obtain ⟨y, hy, rfl⟩ := List.mem_map.mp (show x ∈ e.map (n * ·) from hx)
  rw [Int.natAbs_mul]
  exact Nat.mul_le_mul hn (h y hy)
theorem big {k : Nat} (h : k ≤ 266) : 30030 ^ k < 2 ^ 4000 := by
  have h1 : 30030 ^ k ≤ (2 ^ 15) ^ k := Nat.pow_le_pow_left (by decide) k
  rw [← Nat.pow_mul] at h1
  exact Nat.lt_of_le_of_lt h1 (Nat.pow_lt_pow_right (by decide) (by omega))
end TL
namespace TL
theorem pp_sum : ∀ {ps as : List Nat}, (∀ p ∈ ps, 0 < p ∧ p ≤ 13) → pp ps as ≤ 13 ^ as.sum
  | [], _, _ => by simp only [pp]; exact Nat.pow_pos (by decide)
  | p :: ps, [], h => by simp [pp]
  | p :: ps, a :: as, h => by
    have ih := pp_sum (ps := ps) (as := as) (fun q hq => h q (List.mem_cons_of_mem _ hq))
    simp only [pp, List.sum_cons, Nat.pow_add]
    exact Nat.mul_le_mul (Nat.pow_le_pow_left (h p (List.mem_cons_self ..)).2 a) ih
theorem set_sum : ∀ (as : List Nat) (j a : Nat), (as.set j a).sum ≤ as.sum + a
  | [], _, _ => by simp
  | x :: as, 0, a => by simp only [List.set_cons_zero, List.sum_cons]; omega
  | x :: as, j + 1, a => by
    have := set_sum as j a
    simp only [List.set_cons_succ, List.sum_cons]
    omega
theorem sum_le {k : Nat} : ∀ {as : List Nat}, (∀ a ∈ as, a ≤ k) → as.sum ≤ as.length * k
  | [], _ => by simp
  | x :: as, h => by
    have ih := sum_le (as := as) fun a ha => h a (List.mem_cons_of_mem _ ha)
    have := h x (List.mem_cons_self ..)
    simp only [List.sum_cons, List.length_cons, Nat.add_mul, Nat.one_mul]
    omega
theorem prs_le : ∀ p ∈ prs, 0 < p ∧ p ≤ 13 := by decide
theorem upE_le {k : Nat} {e : List Int} (h : Ex k e) : ∀ a ∈ upE e, a ≤ k := fun a ha => by
  obtain ⟨x, hx, rfl⟩ := List.mem_map.mp (show a ∈ e.map Int.toNat from ha)
  have := h x hx
  omega
/-- what is known of a drawn ratio -/
def Kd (e : List Int) : Prop := up e < 2 ^ 200 ∧ dn e < 2 ^ 200
theorem up_sum {e : List Int} {m : Nat} (h : (upE e).sum ≤ m) (hm : m ≤ 50) : up e < 2 ^ 200 :=
  Nat.lt_of_le_of_lt (Nat.le_trans (pp_sum (ps := prs) prs_le) (Nat.pow_le_pow_right (by decide) (Nat.le_trans h hm))) (by decide : 13 ^ 50 < 2 ^ 200)
theorem up_ex3 {e : List Int} (h6 : e.length = 6) (h : Ex 3 e) : up e < 2 ^ 200 := up_sum (m := 18) (Nat.le_trans (sum_le (upE_le h)) (by rw [upE, List.length_map, h6]; decide)) (by decide)
theorem kd_ex3 {e : List Int} (h6 : e.length = 6) (h : Ex 3 e) : Kd e := ⟨up_ex3 h6 h, by rw [← up_neg]; exact up_ex3 (by simpa [negE] using h6) (ex_neg h)⟩
theorem up_set40 {e : List Int} {j : Nat} {v : Int} (h6 : e.length = 6) (h : Ex 1 e) (hv : v.natAbs ≤ 40) : up (e.set j v) < 2 ^ 200 := by
  have e1 : upE (e.set j v) = (upE e).set j v.toNat := by simp only [upE, List.map_set]
  refine up_sum (m := 46) ?_ (by decide)
  rw [e1]
  have h1 := set_sum (upE e) j v.toNat
  have h2 := sum_le (upE_le h)
  have h3 : (upE e).length = 6 := by rw [upE, List.length_map, h6]
  rw [h3] at h2
  omega
theorem kd_set40 {e : List Int} {j : Nat} {v : Int} (h6 : e.length = 6) (h : Ex 1 e) (hv : v.natAbs ≤ 40) : Kd (e.set j v) := ⟨up_set40 h6 h hv, by
  rw [← up_neg]
  have e1 : negE (e.set j v) = (negE e).set j (-v) := by simp only [negE, List.map_set]
  rw [e1]
  exact up_set40 (by simpa [negE] using h6) (ex_neg h) (by omega)⟩
theorem pp_ge : ∀ {ps as : List Nat}, (∀ p ∈ ps, 2 ≤ p) → as.length ≤ ps.length → ∀ a ∈ as, 2 ^ a ≤ pp ps as
  | [], [], _, _, _, h => by cases h
  | [], _ :: _, _, h, _, _ => absurd h (by simp)
  | _ :: _, [], _, _, _, h => by cases h
  | p :: ps, b :: as, hp, hl, a, ha => by
    have pos : ∀ (ps as : List Nat), (∀ p ∈ ps, 2 ≤ p) → 0 < pp ps as := by
      intro ps
      induction ps with
      | nil => intro as _; simp [pp]
      | cons q ps ih => intro as h; cases as with
        | nil => simp [pp]
        | cons c as => exact Nat.mul_pos (Nat.pow_pos (Nat.lt_of_lt_of_le (by decide) (h q (List.mem_cons_self ..)))) (ih as fun r hr => h r (List.mem_cons_of_mem _ hr))
    have hp' : ∀ q ∈ ps, 2 ≤ q := fun q hq => hp q (List.mem_cons_of_mem _ hq)
    simp only [pp]
    have p2 := hp p (List.mem_cons_self ..)
    rcases List.mem_cons.mp ha with z | z
    · rw [z]
      exact Nat.le_trans (Nat.pow_le_pow_left p2 b) (Nat.le_mul_of_pos_right _ (pos ps as hp'))
    · exact Nat.le_trans (pp_ge hp' (by simpa using hl) a z) (Nat.le_mul_of_pos_left _ (Nat.pow_pos (by omega)))
theorem ex_of_up {k : Nat} {e : List Int} (h6 : e.length = 6) (hu : up e < 2 ^ k) (hd : dn e < 2 ^ k) : Ex k e := fun x hx => by
  have h1 := pp_ge (ps := prs) (as := upE e) (by decide) (by rw [upE, List.length_map, h6]; decide) x.toNat (List.mem_map.mpr ⟨x, hx, rfl⟩)
  have h2 := pp_ge (ps := prs) (as := dnE e) (by decide) (by rw [dnE, List.length_map, h6]; decide) (-x).toNat (List.mem_map.mpr ⟨x, hx, rfl⟩)
  have g1 : x.toNat < k := (Nat.pow_lt_pow_iff_right (by decide : 1 < 2)).mp (Nat.lt_of_le_of_lt h1 hu)
  have g2 : (-x).toNat < k := (Nat.pow_lt_pow_iff_right (by decide : 1 < 2)).mp (Nat.lt_of_le_of_lt h2 hd)
  omega
/-- the ratio of the numerator alone -/
def posE (e : List Int) : List Int := e.map fun x => ((x.toNat : Nat) : Int)
theorem pos_len (e : List Int) : (posE e).length = e.length := by simp [posE]
theorem up_posE (e : List Int) : up (posE e) = up e := by
  simp only [up, upE, posE, List.map_map]
  congr 1
theorem pp_zero : ∀ (ps as : List Nat), (∀ a ∈ as, a = 0) → pp ps as = 1
  | [], _, _ => by simp [pp]
  | p :: ps, [], _ => by simp [pp]
  | p :: ps, a :: as, h => by
    have := pp_zero ps as fun b hb => h b (List.mem_cons_of_mem _ hb)
    simp only [pp, this, h a (List.mem_cons_self ..), Nat.pow_zero]
theorem dn_posE (e : List Int) : dn (posE e) = 1 := pp_zero _ _ fun a ha => by
  simp only [dnE, posE, List.map_map, List.mem_map] at ha
  obtain ⟨x, _, rfl⟩ := ha
  show (-(x.toNat : Int)).toNat = 0
  omega
theorem kd_pow {e : List Int} {n : Nat} (h : up e < 2 ^ 200) (hn : n ≤ 200) : up e ^ n < 2 ^ 50000 := by
  have h1 : up e ^ n ≤ (2 ^ 200) ^ n := Nat.pow_le_pow_left (Nat.le_of_lt h) n
  rw [← Nat.pow_mul] at h1
  exact Nat.lt_of_le_of_lt h1 (Nat.pow_lt_pow_right (by decide) (by
    have := Nat.mul_le_mul_left 200 hn
    omega))
end TL
namespace TL
/-- the exponents shifted right -/
def shrE (k : Nat) (as : List Nat) : List Nat := as.map (· / 2 ^ k)
def bitE (k : Nat) (as : List Nat) : List Nat := as.map (· / 2 ^ k % 2)
theorem half_step (a k : Nat) : a / 2 ^ k = a / 2 ^ (k + 1) + a / 2 ^ (k + 1) + a / 2 ^ k % 2 := by
  have h : a / 2 ^ (k + 1) = a / 2 ^ k / 2 := by rw [Nat.pow_succ, Nat.div_div_eq_div_mul]
  rw [h]
  omega
theorem pp_step (k : Nat) : ∀ ps as : List Nat, pp ps (shrE k as) = pp ps (shrE (k + 1) as) * pp ps (shrE (k + 1) as) * pp ps (bitE k as)
  | [], _ => by simp [pp, shrE, bitE]
  | _ :: _, [] => by simp [pp, shrE, bitE]
  | p :: ps, a :: as => by
    have ih := pp_step k ps as
    simp only [shrE, bitE, List.map_cons, pp] at ih ⊢
    rw [ih]
    have e : p ^ (a / 2 ^ k) = p ^ (a / 2 ^ (k + 1)) * p ^ (a / 2 ^ (k + 1)) * p ^ (a / 2 ^ k % 2) := by
      rw [← Nat.pow_add, ← Nat.pow_add, ← half_step]
    rw [e]
    simp only [Nat.mul_assoc, Nat.mul_left_comm, Nat.mul_comm]
theorem pp_pos2 : ∀ {ps : List Nat} (as : List Nat), (∀ p ∈ ps, 2 ≤ p) → 0 < pp ps as
  | [], _, _ => by simp [pp]
  | _ :: _, [], _ => by simp [pp]
  | p :: ps, a :: as, h => Nat.mul_pos (Nat.pow_pos (Nat.lt_of_lt_of_le (by decide) (h p (List.mem_cons_self ..)))) (pp_pos2 as fun q hq => h q (List.mem_cons_of_mem _ hq))
theorem pp_mono : ∀ {ps as bs : List Nat}, (∀ p ∈ ps, 2 ≤ p) → as.length = bs.length → (∀ (i a b : Nat), as[i]? = some a → bs[i]? = some b → a ≤ b) → pp ps as ≤ pp ps bs
  | [], _, _, _, _, _ => by simp [pp]
  | _ :: _, [], [], _, _, _ => Nat.le_refl _
  | _ :: _, [], _ :: _, _, h, _ => absurd h (by simp)
  | _ :: _, _ :: _, [], _, h, _ => absurd h (by simp)
  | p :: ps, a :: as, b :: bs, hp, hl, h => by
    have p2 := hp p (List.mem_cons_self ..)
    exact Nat.mul_le_mul (Nat.pow_le_pow_right (by omega) (h 0 a b rfl rfl)) (pp_mono (fun q hq => hp q (List.mem_cons_of_mem _ hq)) (Nat.succ.inj hl) fun i x y hx hy => h (i + 1) x y hx hy)
theorem pp_shr_le {ps as : List Nat} (k : Nat) (hp : ∀ p ∈ ps, 2 ≤ p) : pp ps (shrE k as) ≤ pp ps as := pp_mono hp (by simp [shrE]) fun i a b ha hb => by
  rw [shrE, List.getElem?_map, hb] at ha
  cases ha
  exact Nat.div_le_self _ _
theorem shr_zero (as : List Nat) : shrE 0 as = as := by simp [shrE]
theorem shr_top {as : List Nat} {n : Nat} (h : ∀ a ∈ as, a < 2 ^ n) (ps : List Nat) : pp ps (shrE n as) = 1 := pp_zero _ _ fun a ha => by
  obtain ⟨b, hb, rfl⟩ := List.mem_map.mp (show a ∈ as.map (· / 2 ^ n) from ha)
  exact Nat.div_eq_of_lt (h b hb)
end TL
namespace TL
theorem iteT' {A B : Prop} {c : Bool} (e : c = true) (h : A) : if c = true then A else B := by
  rw [e]
  exact h
theorem iteF' {A B : Prop} {c : Bool} (e : c = false) (h : B) : if c = true then A else B := by
  rw [e]
  exact h
end TL
namespace TL
open PySem PySem.Spec PyProof.Rows L2
/-! ### own errors whose __init__ takes nothing -/
section
variable {X : Cx} {p pos : Pos}
theorem pmk_oex0 {CX : CXT} {x : Str} {C fI : Addr} {k : Nat} {fd : FuncData} {ps : List Str} {sp : Sp} {ds : List Value} {dvs : List V} (T : OexC X.K C) (iC : PySem.W.findIn X.K (.ref C) "__init__" = some (some (.ref fI))) (tI : PySem.W.typeIn X.K (.ref fI) = some (.type "function"))
    (F1 : FnOk X.prog X.w X.K X.mg X.base CX k fI fd ps sp) (hr : Room (k + 1) X.A) (hb : Binds X.K fd ps ds) (hd : Vals dvs ds) (hx : Passes CX X (fun _ _ _ => False)) (hg : Gl X x) (hm : X.mg x = some (.ref C))
    (hdb : (x == ("__debug__" : Str)) = false := by decide) :
    PMk X (.Call (.Name x p) [] [] pos) (tMkO C sp dvs tNil) := by
  intro pins s σ H Q I h
  obtain ⟨nm, q, N, bs, bm, sn, sub, ab, col, dd, k0, k1, k2, k3, k5, hC, hbm⟩ := T.cls
  refine wpAny_Call_Name_kw (ld_glob I hg hm ?_ hdb)
  refine PySem.W.callWith_K0 I.kIn T.kC ?_
  obtain ⟨hz, q1⟩ : ([] : List V).length ≤ 1000 ∧ ∀ a, H a = none → sp (.ref a :: ([] ++ dvs)) (upd H a (exo a C none)) (fun v H2 => v = .non ∧ ∃ (d : Addr) (fs : List (Str × V)), H2 a = some (exo a C (some d)) ∧ H2 d = some (exd d fs) ∧ H d = none ∧ Q (.ref C) (some d) (upd (del H2 a) d (.xd fs))) (fun _ _ _ => False) := h
  obtain ⟨hp, g, dr, tk, os⟩ := s
  have I1 := I
  have hsz : hp.objs.size ≤ hp.objs.size + 1 := Nat.le_succ _
  have hn : H (hp.objs.size + 1) = none := I1.hok.fresh hsz
  have hq := q1 (hp.objs.size + 1) hn
  have kk : ∀ b o, hp.get? b = some o → ((hp.push (PySem.W.kdv_tup [])).push (PySem.HandSPX.excO C hp.objs.size)).get? b = some o := fun b o e => Heap.get?_push_of_some _ (Heap.get?_push_of_some _ e)
  have hget : ((hp.push (PySem.W.kdv_tup [])).push (PySem.HandSPX.excO C hp.objs.size)).get? (hp.objs.size + 1) = some (PySem.HandSPX.excO C hp.objs.size) := by heap_get
  have I2 : Inv X pins σ (upd H (hp.objs.size + 1) (exo (hp.objs.size + 1) C none)) ⟨(hp.push (PySem.W.kdv_tup [])).push (PySem.HandSPX.excO C hp.objs.size), g, dr, tk, os⟩ :=
    I1.laid (t' := tk) (a := hp.objs.size + 1) (o := exo (hp.objs.size + 1) C none) (h' := (hp.push (PySem.W.kdv_tup [])).push (PySem.HandSPX.excO C hp.objs.size)) kk hsz (exo_ok hget)
  have r2 : Vals (V.ref (hp.objs.size + 1) :: dvs) (Value.ref (hp.objs.size + 1) :: ds) := .cons rfl hd
  have hl : ([Value.ref (hp.objs.size + 1)] ++ ds).length = ps.length := by
    exact r2.length.symm.trans (F1.len _ _ _ _ hq)
  show wpAny _ _ (call (.ref C) []) _ _ _
  refine wpAny_call (PySem.HandSPX.call_own F.excBase_ValueError (fun Y => PySem.HandSPX.refsVE_contains Y bm hbm) (I1.kIn _ _ hC) (PySem.W.looks_findIn I1.kIn iC) (fun self => PySem.W.bind_fn I1.kIn self tI) (by show 0 ≤ sizeLine; decide)
    (codeAny_mono (F1.run _ X.stack _ _ ⟨[Value.ref (hp.objs.size + 1)], []⟩ ([Value.ref (hp.objs.size + 1)] ++ ds) _ _ (fun _ _ _ => False) (hr.make C [] []) (I2.env0.make C [] []) (hb _ (Value.ref (hp.objs.size + 1) :: []) I2.kIn hl) r2 hq) fun r s' hq' => ?_))
  cases r with
  | error er => exact hx pins σ _ _ er s' I2 hq'
  | ok fl =>
    cases fl with
    | ret u =>
      obtain ⟨v, H2, os2, bare2, un2, hok2, rv, ev, d, fs, ea, ed, hd1, q2⟩ := hq'
      subst ev
      obtain ⟨h2, g2, d2, t2, os'⟩ := s'
      exact ⟨rv, mk_end (raises_own T.exC T.tyC) I1 hsz kk un2 hok2 os2 bare2 ea ed hd1 q2⟩
    | next => exact False.elim hq'
    | brk => exact False.elim hq'
    | cont => exact False.elim hq'
end
/-! ### isinstance of a caught error that has its own dict -/
end TL
namespace PySem.W
open PySem PySem.Spec PySem.Calls PyProof.Rows
section
variable {prog : Program} {w : World} {A : Around} {E : Value → Shared → Prop} {s : Shared} {K : Frag} {x D : Addr} {ox : Obj} {od : Option Obj}
theorem findObj_dataA {C : Addr} {name : Str} {a g : Value} (hc : (clsIn K C).isSome = true) (ha : findIn K (.ref C) name = some (some a)) (hg : specialIn K a "__get__" = some (some g)) (ht : takesIn K a = some true) : findObj K C od name = some (.bind g a) := by
  cases od with
  | none => exact findObj_dataN hc ha hg ht
  | some o => exact findObj_data hc ha hg ht
theorem kin_classA {Q : Option Value → Shared → Prop} (hga : findIn K (.ref D) "__getattribute__" = some (some (.builtin "BaseException.__getattribute__"))) (hgt : findIn K (.ref D) "__getattr__" = some none) (hsub : subIn K (.ref D) (.type "BaseException") = some true)
    (hdct : hasDictIn K D = true) (ha : findIn K (.ref D) "__class__" = some (some (.builtin "object.__class__")))
    (hn : specialIn K (.builtin "object.__class__") "__get__" = some (some (.builtin "getset_descriptor.__get__"))) (htk : takesIn K (.builtin "object.__class__") = some true) (hm : mroIn K D (.type "object") = some true)
    (X : K.In s.heap) (I : InstAt s.heap x ox D od) (h : Q (some (.ref D)) { s with toks := s.toks + 1 }) : wpAny (model prog w) A (getAttr? (.ref x) "__class__") Q E s := by
  have hf : findObj K D od "__class__" = some (.bind (.builtin "getset_descriptor.__get__") (.builtin "object.__class__")) := findObj_dataA (by obtain ⟨cd, hc, _⟩ := any_some hdct; rw [hc]; rfl) ha hn htk
  obtain ⟨hp, g, d, t, os⟩ := s
  have L0 := I.type (M := model prog w)
  have L1 := looks_findIn (M := model prog w) X hga
  have L2 := looks_findIn (M := model prog w) X hgt
  have L3 := looks_find (M := model prog w) X I hf
  have sub : Looks (model prog w) hp (isInstance (.ref x) (.type "BaseException")) true := L0.andThen (looks_subIn X hsub)
  have hx0 : (false && onTheHeap (Value.builtin "BaseException.__getattribute__")) = false := rfl
  have hx2 : (Value.builtin "BaseException.__getattribute__" == Value.builtin "object.__getattribute__") = false := by decide +kernel
  have hx1 : (onTheHeap (Value.ref D) && Value.builtin "BaseException.__getattribute__" == Value.builtin "object.__getattribute__") = false := by rw [hx2]; rfl
  unfold getAttr? getAttrBy? getAttrBy
  refine wpAny_bind (wpAny_mkText (wpAny_bind (wpAny_attempt (wpAny_holding (wpAny_bind (L0.at (wpAny_bind (L1.at ?_))))))))
  show wpAny _ _ (if (onTheHeap (Value.ref D) && Value.builtin "BaseException.__getattribute__" == Value.builtin "object.__getattribute__") = true then _ else _) _ _ _
  rw [hx1, if_neg Bool.false_ne_true]
  unfold getAttrByItsOwn hookBefore
  refine wpAny_bind ?_
  rw [if_pos (show onTheHeap (Value.ref D) = true from rfl)]
  refine L2.at ?_
  refine wpAny_bind (wpAny_attempt (wpAny_holding ?_))
  unfold callGetattribute
  rw [hx0, if_neg Bool.false_ne_true]
  unfold boundAndCalled
  rw [PySem.F.excAttr_ValueError.ga.bind (.ref x)]
  refine wpAny_bind (wpAny_pure ?_)
  show wpAny _ _ (call (.builtin "BaseException.__getattribute__") [.ref x, .str "__class__" t]) _ _ _
  refine wpAny_call (codeAny_call_builtin PySem.F.excAttr_ValueError.ga.plain PySem.F.entry_bexc_ga ?_)
  refine @check_slot (model prog w) _ _ ⟨hp, g, d, t + 1, os⟩ "BaseException.__getattribute__" "BaseException" "__getattribute__" (.ref x) [.str "__class__" t] [] _ (by decide +kernel) (by decide +kernel) sub (PySem.F.args_bexc_ga (.ref x) (.str "__class__" t)) ?_
  unfold Builtin.«object.__getattribute__»
  refine wpAny_bind (wpAny_of_eq (a := ((Value.ref x : Value), [Value.str "__class__" t])) (by first | rfl | (simp only [slotArgs]; rfl)) ?_)
  refine wpAny_bind (wpAny_pure (wpAny_bind (L0.at (wpAny_bind (L3.at ?_)))))
  show wpAny _ _ (holding [Value.builtin "object.__class__"] (call (.builtin "getset_descriptor.__get__") [.builtin "object.__class__", .ref x, .ref D]) >>= ret) _ _ _
  refine wpAny_bind (wpAny_holding (wpAny_call (class_get (s := ⟨hp, g, d, t + 1, os⟩) (ox := ox) (od := od) X I hm ?_)))
  refine wpAny_pure ?_
  show wpAny _ _ (handedOut (.ref D)) _ _ _
  rw [handedOut_of (v := .ref D) rfl]
  first
    | exact wpAny_pure (wpAny_pure h)
    | exact wpAny_pure h
    | exact wpAny_pure (wpAny_bind (wpAny_pure (wpAny_pure h)))
theorem kitx_excA (hga : findIn K (.ref D) "__getattribute__" = some (some (.builtin "BaseException.__getattribute__"))) (hgt : findIn K (.ref D) "__getattr__" = some none) (hsub : subIn K (.ref D) (.type "BaseException") = some true) (hdct : hasDictIn K D = true) (ha : findIn K (.ref D) "__class__" = some (some (.builtin "object.__class__")))
    (hn : specialIn K (.builtin "object.__class__") "__get__" = some (some (.builtin "getset_descriptor.__get__"))) (htk : takesIn K (.builtin "object.__class__") = some true) (hm : mroIn K D (.type "object") = some true) :
    KitX K (.ref x) (.ref D) (fun h => ∃ od, InstAt h x ox D od) where
  ty := fun _ _ _ ⟨_, I⟩ => I.type
  it := fun _ _ X _ => by
    obtain ⟨cdD, hcD, _⟩ := any_some hdct
    unfold clsIn at hcD
    split at hcD
    · rename_i c' d' cd' sl' ho
      intro A' Q' E' s' k q
      unfold isType loadHead
      exact wpAny_bind (wpAny_loadPart (k _ _ (X _ _ ho)) (wpAny_pure q))
    · cases hcD
  ne := fun h tp dd its n sl X htp => by
    obtain ⟨cdD, hcD, _⟩ := any_some hdct
    refine Bool.eq_false_iff.mpr fun q => ?_
    have e : D = tp := Value.ref.inj (beq_iff_eq.mp q)
    subst e
    unfold clsIn at hcD
    split at hcD
    · rename_i c' d' cd' sl' ho
      have z := (X _ _ ho).symm.trans htp
      cases z
    · cases hcD
  ca := fun X ⟨_, I⟩ k => kin_classA hga hgt hsub hdct ha hn htk hm X I k
end
end PySem.W
namespace TL
open PySem PySem.Spec PyProof.Rows L2
/-- isinstance(e, c), e the error that the suite holds: its class at D, its dict d -/
def rIsA (K : PySem.W.Frag) (cls : Value) (d : Option Addr) (D a : Addr) : List V → Hp → VK → Prop := fun xs H Q => ∃ (c : V) (cv : Value) (b : Bool) (dd : Addr) (fs : List (Str × V)), xs = [.ref a, c] ∧ (∀ u, RelV c u → u = cv) ∧ cls = .ref D ∧ d = some dd ∧ H dd = some (.xd fs) ∧ PySem.W.kitOne K (.ref D) cv = some b ∧ Q (.bl b) H
theorem call_isA {X : Cx} {a D : Addr} {oe : Obj} {cls : Value} {d : Option Addr} {pn : List (Addr × Obj)} (C : ExcC X.K D) (hz : Zc cls d oe) (hf : ∃ vs, oe.data = .fields vs) : CallR (X.suite a ((a, oe) :: pn)) (.builtin "isinstance") (rIsA X.K cls d D a) := by
  intro pins s σ H xs us Q I r h
  obtain ⟨c, cv, b, dd, fs, rfl, hcv, ec, ed, ea, e, q⟩ := h
  subst ec
  subst ed
  cases r with
  | cons rx rr =>
    cases rr with
    | cons rt rr =>
      cases rr
      cases rx
      have ec := hcv _ rt
      subst ec
      obtain ⟨hget, _⟩ := I.pin (a, oe) (List.mem_append.mpr (.inl List.mem_cons_self))
      obtain ⟨vs, hv⟩ := hf
      have J : ∃ od, PySem.W.InstAt s.heap a oe D od := by
        have hx : ObjOk X.prog X.w H s.heap dd (.xd fs) := I.hok dd _ ea
        obtain ⟨mA, hns, hr⟩ := hx
        obtain ⟨od, ho, hl⟩ := lookIn_ns hns
        exact ⟨some od, hget, hz.1, by unfold PySem.W.notCls; rw [hv] <;> rfl, by rw [hz.2]; exact ho⟩
      exact PySem.W.kia_one (PySem.W.kitx_excA C.hg C.hk C.hs C.hd C.ha C.hn C.ht C.hm) I.kIn J e (fun z => nomatch z) fun tk => ⟨.bl b, H, I.kept (t' := tk) fun _ _ z => z, rfl, q⟩
/-! ### xs[a:b] = ys, ys another list -/
/-- the target's reading -/
def gSl (to : TE) (tl th : TO) : TG := fun v σ H Q => to σ H fun x H1 => tl σ H1 fun l H2 => th σ H2 fun u H3 => ∃ (p b : Addr) (xs ys : List V) (i j : Nat), x = .ref p ∧ v = .ref b ∧ l = some (i : Int) ∧ u = some (j : Int) ∧ H3 p = some (.lst xs) ∧ H3 b = some (.lst ys) ∧ p ≠ b ∧ i ≤ j ∧ j ≤ xs.length ∧ xs.length + ys.length ≤ sizeLine ∧
  Q σ (upd H3 p (.lst (xs.take i ++ ys ++ xs.drop j)))
theorem pg_slice {X : Cx} {o : Expr} {lo hi : Option Expr} {to : TE} {tl th : TO} {pos p2 : Pos} (ho : PE X o to) (hl : PO X lo tl) (hu : PO X hi th)
    (ha : ∀ v, assign (.Subscript o (.Slice lo hi none p2) pos) X.env v = (do
      let ov ← holding [v] (eval o X.env)
      let iv ← holding [v, ov] (eval (.Slice lo hi none p2) X.env)
      standAt pos
      holding [v, ov, iv] (setItem ov iv v)
      release [iv, v, ov] []) := by intro _; rfl) : PG X (.Subscript o (.Slice lo hi none p2) pos) (gSl to tl th) := by
  refine ⟨fun pins s σ H v u Q I r h => ?_⟩
  rw [ha]
  refine wpAny_bind (wpAny_holding (thn (ho.run pins s σ H _ I h) fun ov s1 ⟨x, H1, I1, r1, q1⟩ => ?_))
  refine wpAny_bind (wpAny_holding ?_)
  refine wpAny_Slice (thn (hl.run pins s1 σ H1 _ I1 q1) fun vl s2 ⟨l, H2, I2, pl, q2⟩ => thn (hu.run pins s2 σ H2 _ I2 q2) fun vu s3 ⟨uu, H3, I3, pu, q3⟩ => ?_)
  rw [evalPart_none]
  refine wpAny_pure ?_
  have I4 : Inv X pins σ H3 { s3 with heap := s3.heap.push { cls := .type "slice", data := .fields #[vl, vu, .none] } } := I3.kept (t' := s3.toks) fun b ob q => Heap.get?_push_of_some _ q
  refine wpAny_bind (wpAny_standAt (wpAny_bind (wpAny_holding ?_)))
  obtain ⟨p, b, xs, ys, i, j, rfl, rfl, rfl, rfl, hp, hb, hne, hij, hj, hz, q⟩ := q3
  cases r1
  cases r
  cases pl with
  | int _ t1 =>
    cases pu with
    | int _ t2 =>
      refine set_slice I4 hp hb hne (Heap.IsSliceOf.new ..) ⟨t1, rfl⟩ ⟨t2, rfl⟩ (by omega) (by omega) (by omega) hz fun s' I5 => ?_
      exact wpAny_release ⟨σ, _, I5, q⟩
/-! ### an error that tells nothing but its code -/
def spCode (K : PySem.W.Frag) (C : Addr) (code : String) : Sp := fun vs H Q _ => ∃ (a : Addr), vs = [.ref a] ∧ H a = some (exo a C none) ∧ ∀ dx, H dx = none → dx ≠ a → Q .non (upd (upd H dx (exd dx [(Str.ofString "code", .str (Str.ofString code))])) a (exo a C (some dx)))
theorem raise_code {K : PySem.W.Frag} {C : Addr} {code : String} {σ : L2.St} {H : Hp} {Q : XK} (q : ∀ d H', Same H H' → H d = none → H' d = some (.xd [(Str.ofString "code", .str (Str.ofString code))]) → Q (.ref C) (some d) H') : tMkO C (spCode K C code) [] tNil σ H Q := by
  refine ⟨Nat.zero_le _, fun a ha => ⟨a, rfl, upd_same, fun dx hn hne => ⟨rfl, dx, _, upd_same, by rw [upd_ne hne]; exact upd_same, by rw [upd_ne hne] at hn; exact hn, ?_⟩⟩⟩
  rw [upd_ne hne] at hn
  refine q dx _ (fun c o h => ?_) hn upd_same
  have h1 : c ≠ a := ne_of_none h ha
  have h2 : c ≠ dx := ne_of_none h hn
  rw [upd_ne h2, del_ne h1, upd_ne h1, upd_ne h2, upd_ne h1]
  exact h
end TL
namespace PySem
open PyProof.Rows
section
variable {prog : Program} {w : World} {A : Around} {E : Value → Shared → Prop} {s : Shared}
/-! ### list(reversed(range(..))) -/
theorem call_hint_ri {I : Addr} {x left step : Int} {Q : Value → Shared → Prop} (hit : IsRangeIter s.heap I x left step) (h : ∀ u tk, s.toks ≤ tk → Q (.int left u) { s with toks := tk }) : wpAny (model prog w) A (call (.builtin "range_iterator.__length_hint__") [.ref I]) Q E s := by
  have hT : s.TypeIs (.ref I) "range_iterator" := ⟨_, hit, rfl⟩
  refine wpAny_call_entry F.slot_range_iterator_length_hint hT F.entry_range_iterator_length_hint ?_ (F.args_range_iterator_length_hint_1 _)
  unfold Builtin.«range_iterator.__length_hint__»
  refine wpAny_bind (wpAny_of_eq (a := Value.ref I) rfl ?_)
  refine wpAny_bind (wpAny_field hit rfl (x := rawInt left) (by simp) ?_)
  dsimp only [rawInt]
  unfold retInt mkInt
  wp_walk
  exact ⟨_, rfl, h _ _ (by simp)⟩
/-- list.__init__ of a range's iterator -/
theorem wpAny_extend_ri {R : Result → Shared → Prop} {I : Addr} {a c : Int} {n : Nat} (hh : A.handled = none) (hst : IsRangeIter s.heap I a n c) (hn : n ≤ 2 ^ 24) (S : Addr) (res : Value) (c₀ : Nat) (hSI : S ≠ I)
    (hS : s.heap.get? S = some { cls := .type "list", data := .seq #[] c₀ })
    (hR : ∀ h' tk acc' c', (∀ b o, b ≠ S → b ≠ I → s.heap.get? b = some o → h'.get? b = some o) → h'.get? S = some { cls := .type "list", dict := none, data := .seq acc' c', slots := #[] } →
      ItemsOf (fun i v => ∃ t, v = .int (a + i * c) t) acc' n → R (.ok (.ret res)) { s with heap := h', toks := tk }) :
    wpAny (model prog w) A.in1 (Builtin.List.listExtendWith (.ref S) (.ref I) res)
      (fun fin s' => match fin with | .done f => R (.ok f) s' | .again c' => c'.quiet = true ∧ codeAny (model prog w) A c' R s') (fun e s' => R (.error e) s') s := by
  have hSf : S ∉ [I] := fun h => hSI (List.mem_singleton.mp h)
  have hT : s.TypeIs (.ref I) "range_iterator" := ⟨_, hst, rfl⟩
  have st0 : IsRangeIter s.heap I (a + ((0 : Nat) : Int) * c) ((n : Int) - ((0 : Nat) : Int)) c := by simpa using hst
  have W := (Walks.range (prog := prog) (w := w) (A := A.in1) hh I a c n).toS
  have h1 : Builtin.List.listSameRef (.ref S) (.ref I) = false := by simp [Builtin.List.listSameRef, hSI]
  unfold Builtin.List.listExtendWith
  refine wpAny_bind (wpAny_typeOf hT ?_)
  rw [if_neg (by rw [h1]; decide)]
  refine wpAny_bind (wpAny_pyIter_rangeiter hst ?_)
  refine wpAny_bind (wpAny_holding ?_)
  unfold Builtin.List.listLengthHint
  refine wpAny_bind (wpAny_specialOf hT F.nolen_ra ?_)
  show wpAny _ A.in1 (specialOf (Value.ref I) (Str.ofString "__length_hint__") >>= _) _ _ _
  refine wpAny_bind (wpAny_specialOf hT F.hint_ra ?_)
  (generalize hid : ("range_iterator.__length_hint__" : String) = id0; (fail_if_success (clear hid id0)); wp_delta; rw [show splitId id0 = some ("range_iterator", "__length_hint__") from by subst hid; decide +kernel]; subst hid)
  refine wpAny_bind (wpAny_isInstance (b := true) hT (by rw [isSubtype_type]; kernel_rfl) ?_)
  show wpAny _ A.in1 (call (.builtin "range_iterator.__length_hint__") [.ref I] >>= _) _ _ _
  refine wpAny_bind (call_hint_ri hst fun u tk htk => ?_)
  refine wpAny_bind (m := asInt? (.int n u)) (wpAny_pure ?_)
  dsimp only
  have hk : Builtin.List.listTooLong (Int.toNat (n : Int)) = false := by
    unfold Builtin.List.listTooLong
    rw [Int.toNat_natCast]
    exact decide_eq_false (by rw [sizeLine_eq]; omega)
  rw [if_neg (by rw [hk]; decide)]
  refine wpAny_pure ?_
  rw [if_neg (by decide)]
  refine wpAny_pure ⟨plainId_quiet F.plain_extend_loop _, codeAny_extend_loopS W (by rw [sizeLine_eq]; omega) S hSf res n 0 _ #[] c₀ rfl (Nat.zero_le _) st0 hS (ItemsOf.nil _) fun s' acc' c' hm hS' hacc => ?_⟩
  rw [Moved.eq_with hm]
  refine hR s'.heap s'.toks acc' c' (fun b o hb hb2 e => hm.heap b o (fun hmem => ?_) e) hS' hacc
  rcases List.mem_cons.mp hmem with e' | hmem
  · exact hb e'
  · exact hb2 (List.mem_singleton.mp hmem)
theorem call_list_ri {Q : Value → Shared → Prop} {I : Addr} {a c : Int} {n : Nat} (hh : A.handled = none) (hst : IsRangeIter s.heap I a n c) (hn : n ≤ 2 ^ 24)
    (hQ : ∀ h' tk acc' c', (∀ b o, b ≠ I → s.heap.get? b = some o → h'.get? b = some o) →
      h'.get? s.heap.objs.size = some { cls := .type "list", dict := none, data := .seq acc' c', slots := #[] } → ItemsOf (fun i v => ∃ t, v = .int (a + i * c) t) acc' n → Q (.ref s.heap.objs.size) { s with heap := h', toks := tk }) :
    wpAny (model prog w) A (call (.type "list") [.ref I]) Q E s := by
  refine callType_codes (Q₁ := fun obj s₁ => obj = .ref s.heap.objs.size ∧ s₁ = { s with heap := s.heap.push { cls := .type "list", data := .seq #[] } }) F.called_list (F.typeCall_list_1 _) F.entry_list_init
    (code_list_new _ ⟨rfl, rfl⟩) fun obj s₁ h₁ => ?_
  obtain ⟨rfl, rfl⟩ := h₁
  have hS : (s.heap.push { cls := .type "list", data := .seq #[] }).get? s.heap.objs.size = some { cls := .type "list", data := .seq #[] } := Heap.get?_push_size _ rfl
  have hSI : s.heap.objs.size ≠ I := Nat.ne_of_gt (Heap.lt_size hst)
  refine ⟨⟨_, hS, rfl⟩, F.args_list_init_2 _ _, ?_⟩
  show wpAny _ _ (do let old ← Builtin.List.listItems (.ref s.heap.objs.size); Builtin.List.listUpdate (.ref s.heap.objs.size) (fun _ => #[]); letGo old.toList.reverse; Builtin.List.listExtendWith (.ref s.heap.objs.size) (.ref I) .none) _ _ _
  refine wpAny_bind ?_
  unfold Builtin.List.listItems
  refine wpAny_bind (wpAny_seqItems hS rfl (wpAny_pure ?_))
  show wpAny _ _ (updateSeq s.heap.objs.size (fun _ => #[]) >>= fun _ => letGo (#[] : Array Value).toList.reverse >>= fun _ => Builtin.List.listExtendWith (.ref s.heap.objs.size) (.ref I) .none) _ _ _
  refine wpAny_bind (wpAny_updateSeq hS rfl ?_)
  have hS₂ := Heap.get?_update_self (Obj.mapSeq (fun _ => (#[] : Array Value))) hS rfl
  refine wpAny_bind (wpAny_letGo ?_)
  have hst2 : IsRangeIter ((s.heap.push { cls := .type "list", data := .seq #[] }).update s.heap.objs.size (Obj.mapSeq (fun _ => (#[] : Array Value)))) I a n c := (Heap.get?_update_other _ _ hSI).trans (Heap.get?_push_of_some _ hst)
  refine wpAny_extend_ri (prog := prog) (w := w) (A := A.in1) (R := wants (fun r s₂ => r = Value.none ∧ Q (Value.ref s.heap.objs.size) s₂) E) (s := { s with heap := (s.heap.push { cls := .type "list", data := .seq #[] }).update s.heap.objs.size (Obj.mapSeq (fun _ => (#[] : Array Value))) }) hh hst2 hn s.heap.objs.size .none _ hSI hS₂ fun h' tk acc' c' hk hS' hacc => ?_
  refine ⟨rfl, hQ h' tk acc' c' (fun b o hb e => hk b o (Nat.ne_of_lt (Heap.lt_size e)) hb ((Heap.get?_update_other _ _ (Nat.ne_of_gt (Heap.lt_size e))).trans (Heap.get?_push_of_some _ e))) hS' hacc⟩
end
end PySem
namespace PyProof.Rows
open PySem
section
variable {prog : Program} {w : World} {A : Around} {E : Value → Shared → Prop} {s : Shared}
/-! ### sorted of a tuple -/
theorem collect_tup {l : Addr} {vs : List Value} {Q : List Value → Shared → Prop} (hl : s.heap.IsTuple l vs.toArray)
    (h : Q vs { s with heap := (s.heap.push (seqObj "list" #[] 0)).update s.heap.objs.size (Obj.mapSeq (· ++ vs.toArray)) }) (hsz : vs.length ≤ sizeLine) :
    wpAny (model prog w) A (collect (.ref l)) Q E s := by
  obtain ⟨o, ho, hc, n, hd⟩ := id hl
  unfold collect
  refine wpAny_bind (wpAny_runValue (codeAny_builtin entry_proto_collect' ?_))
  show wpAny _ _ (do again (.builtin "list.__iadd__" ⟨[← newList [], .ref l], []⟩)) _ _ s
  refine wpAny_bind (wpAny_newList (wpAny_pure ⟨Code.quiet_builtin _ (by decide +kernel), codeAny_builtin entry_list_iadd' ?_⟩))
  show wpAny _ _ (Builtin.List.listExtendWith (.ref s.heap.objs.size) (.ref l) (.ref s.heap.objs.size)) _ _ { s with heap := s.heap.push (seqObj "list" #[] 0) }
  unfold Builtin.List.listExtendWith
  have ho' : (s.heap.push (seqObj "list" #[] 0)).get? l = some o := Heap.get?_push_of_some _ ho
  refine wpAny_bind (wpAny_typeOf (T := "tuple") ⟨o, ho', hc⟩ ?_)
  have ht : (Value.type "tuple" == Value.type "tuple") = true := by rfl
  rw [if_pos (by rw [ht]; simp)]
  refine wpAny_bind (listItems_at ho' hd ?_)
  refine wpAny_bind (listItems_at (xs := #[]) (n := 0) (Heap.get?_push_size _ rfl) rfl ?_)
  rw [if_neg (by simp)]
  refine wpAny_bind (listUpdate_at (xs := #[]) (n := 0) (Heap.get?_push_size _ rfl) rfl ?_ (Nat.zero_le _) (by show (#[] ++ vs.toArray).size ≤ sizeLine + 1; simp only [Array.size_append, List.size_toArray, List.length_nil]; omega))
  refine wpAny_pure ?_
  show wpAny (model prog w) A (do
      let o ← load s.heap.objs.size
      match o.data with
      | .seq xs _ => pure xs.toList
      | _ => unsupported "internal:collect") Q E { s with heap := (s.heap.push (seqObj "list" #[] 0)).update s.heap.objs.size (Obj.mapSeq (· ++ vs.toArray)) }
  refine wpAny_bind (wpAny_load (get?_update_seq (Heap.get?_push_size _ rfl) _) ?_)
  show wpAny _ _ (pure ((#[] : Array Value) ++ vs.toArray).toList) Q E _
  rw [show ((#[] : Array Value) ++ vs.toArray).toList = vs by simp]
  exact wpAny_pure h
theorem sorted_tup {l : Addr} {vs : List Value} {ns : List Int} {Q : Value → Shared → Prop} (hl : s.heap.IsTuple l vs.toArray) (hI : IntsAre vs ns) (h64 : vs.length < 64)
    (h : ∀ (out : Array Value) (ns' : List Int), IntsAre out.toList ns' → ns'.Perm ns → ns'.Pairwise (· ≤ ·) → Q (.ref (s.heap.objs.size + 1)) { s with heap := sortedAll s.heap vs out }) :
    wpAny (model prog w) A (call (.builtin "sorted") [.ref l]) Q E s := by
  refine Calls.call_function_entry kind_sorted plain_sorted entry_sorted (args_sorted1 _) ?_
  unfold Builtin.«sorted»
  refine wpAny_bind (m := checkCount "sorted" 1 1 _) (wpAny_pure ?_)
  refine wpAny_bind (collect_tup hl ?_ (by rw [sizeLine_eq]; omega))
  refine wpAny_bind (wpAny_newList ?_)
  have hsz : ((s.heap.push (seqObj "list" #[] 0)).update s.heap.objs.size (Obj.mapSeq (· ++ vs.toArray))).objs.size = s.heap.objs.size + 1 := by
    rw [Heap.size_update, size_push']
  have hoL : (((s.heap.push (seqObj "list" #[] 0)).update s.heap.objs.size (Obj.mapSeq (· ++ vs.toArray))).push (seqObj "list" vs.toArray 0)).get? (s.heap.objs.size + 1) = some (seqObj "list" vs.toArray 0) := by
    rw [← hsz]; exact Heap.get?_push_size _ rfl
  show wpAny _ _ _ _ _ { s with heap := ((s.heap.push (seqObj "list" #[] 0)).update s.heap.objs.size (Obj.mapSeq (· ++ vs.toArray))).push (seqObj "list" vs.toArray 0) }
  rw [hsz]
  refine wpAny_bind (wpAny_holding (wpAny_call_entry slot_list_sort ⟨_, hoL, rfl⟩ entry_list_sort (list_sort_tree hoL hI h64 fun out ns' a1 a2 a3 => ⟨_, rfl, ?_⟩) (args_list_sort _)))
  exact wpAny_pure ⟨_, rfl, h out ns' a1 a2 a3⟩
end
end PyProof.Rows
namespace TL
open PySem PySem.Spec PyProof.Rows L2
/-- list(reversed(range(a, b))) -/
def rvV (a b : Int) : List V := (List.range (b - a).toNat).map fun i => V.int (a + (((b - a).toNat : Nat) : Int) - 1 + (i : Nat) * (-1))
def tLstRv (te : L2.St → Hp → (Int → Int → Hp → Prop) → Prop) : TE := fun σ H Q => te σ H fun a b H1 => RgOk a b ∧ ∀ q, H1 q = none → Q (.ref q) (upd H1 q (.lst (rvV a b)))
theorem vals_rv {a c : Int} {n : Nat} {acc : Array Value} (h : ItemsOf (fun i v => ∃ t, v = .int (a + i * c) t) acc n) : Vals ((List.range n).map fun i => V.int (a + (i : Nat) * c)) acc.toList := by
  have e : acc.toList.length = n := by rw [Array.length_toList]; exact h.1
  rw [← e]
  refine vals_of_get acc.toList _ fun j u hj => ?_
  obtain ⟨t, rfl⟩ := h.2 j u (by rw [← hj, Array.getElem?_toList])
  exact ⟨t, rfl⟩
theorem pe_listRv {X : Cx} {e : Expr} {te : L2.St → Hp → (Int → Int → Hp → Prop) → Prop} {p p2 pos pos2 : Pos} (hc : X.calm = true) (hg : Gl X "list") (hm : X.mg "list" = none) (hg2 : Gl X "reversed") (hm2 : X.mg "reversed" = none) (he : PRg X e te)
    (na : starEach [.Call (.Name "reversed" p2) [e] [] pos2] X.env = (false, eval (.Call (.Name "reversed" p2) [e] [] pos2) X.env) :: starEach [] X.env := by rfl) (nb : starEach [e] X.env = (false, eval e X.env) :: starEach [] X.env := by rfl) :
    PE X (.Call (.Name "list" p) [.Call (.Name "reversed" p2) [e] [] pos2] [] pos) (tLstRv te) := by
  refine ⟨fun pins s σ H Q I h => ?_⟩
  refine Call_ (ld_blt I hg hm boot_list (PyProof.Rows.callWith_type1 (args_cons ?_ na) na))
  refine Call_ (ld_blt I hg2 hm2 PyProof.Rows.boot_reversed (PyProof.Rows.callWith_type1 (args_cons (thn (he pins s σ H _ I h) fun x s1 ⟨r, a, b, t, u, v, H1, ex, hr, I1, ok, q⟩ => args_nil ?_) nb) nb rfl))
  subst ex
  obtain ⟨b1, b2, b3, b4, b5⟩ := ok
  have hn : Builtin.Range.rangeSize a b 1 = (((b - a).toNat : Nat) : Int) := rangeSize_nat a b
  refine call_reversed_range hr (smallRev_one b1 b2 b3 b4) (args_nil ?_)
  have hst : IsRangeIter (s1.heap.push (rngRevObj a b 1)) s1.heap.objs.size (a + (((b - a).toNat : Nat) : Int) - 1) (((b - a).toNat : Nat) : Int) (-1) := by
    have e1 : a + (((b - a).toNat : Nat) : Int) - 1 = a + (Builtin.Range.rangeSize a b 1 - 1) * 1 := by rw [hn]; omega
    rw [e1, ← hn]
    exact Heap.get?_push_size _ rfl
  have I2 : Inv X pins σ H1 { s1 with heap := s1.heap.push (rngRevObj a b 1) } := I1.kept (t' := s1.toks) fun b ob q => Heap.get?_push_of_some _ q
  refine call_list_ri (s := { s1 with heap := s1.heap.push (rngRevObj a b 1) }) (n := (b - a).toNat) (I1.ok.hd hc) hst b5 fun h' tk acc c' hk e' hi => ?_
  have hsz : (s1.heap.push (rngRevObj a b 1)).objs.size = s1.heap.objs.size + 1 := by simp [Heap.push]
  refine ⟨.ref (s1.heap.push (rngRevObj a b 1)).objs.size, upd H1 (s1.heap.push (rngRevObj a b 1)).objs.size (.lst (rvV a b)), ?_, rfl, q _ (I1.hok.fresh (by rw [hsz]; exact Nat.le_succ _))⟩
  refine I1.laid (t' := tk) (fun c o z => hk c o (Nat.ne_of_lt (Heap.lt_size z)) (Heap.get?_push_of_some _ z)) (by rw [hsz]; exact Nat.le_succ _) (show ObjOk X.prog X.w _ _ _ (.lst (rvV a b)) from ⟨?_, acc.toList, c', vals_rv hi, ?_⟩)
  · unfold rvV
    rw [List.length_map, List.length_range, sizeLine_eq]
    omega
  · rw [Array.toArray_toList]
    exact e'
/-- sorted(xs), a list or a tuple of ints -/
def rSortQ (K : PySem.W.Frag) : List V → Hp → VK → Prop := fun vs H Q => ∃ (a : Addr) (ns : List Int), vs = [V.ref a] ∧ (SqL K H a (ns.map V.int) ∨ SqT K H a (ns.map V.int)) ∧ ns.length < 64 ∧
  ∀ (ns' : List Int) (p : Addr), ns'.Perm ns → ns'.Pairwise (· ≤ ·) → H p = none → Q (.ref p) (upd H p (.lst (ns'.map V.int)))
theorem cr_sortQ {X : Cx} : CallR X (.builtin "sorted") (rSortQ X.K) := by
  intro pins s σ H vs us Q I r h
  obtain ⟨a, ns, rfl, hs, h64, q⟩ := h
  rcases hs with hs | hs
  · exact cr_sorted pins s σ H _ us Q I r ⟨a, ns, rfl, hs, h64, q⟩
  obtain ⟨its, rv, hl, _⟩ := I.tuple hs
  rw [Vals.ref1 r]
  have hi := rv.ints
  refine PyProof.Rows.sorted_tup hl hi (by rw [hi.length]; exact h64) fun out ns' h1 h2 h3 => ?_
  obtain ⟨ep, he'⟩ := PyProof.Rows.sortedAll_at s.heap its out
  have hlen : (ns'.map V.int).length ≤ sizeLine := by rw [List.length_map, h2.length_eq]; exact small64 h64
  exact ⟨.ref _, upd H (s.heap.objs.size + 1) (.lst (ns'.map V.int)), I.laid (t' := s.toks) (fun _ _ => PyProof.Rows.sortedAll_old) (Nat.le_succ _) ⟨hlen, out.toList, ep, vals_of_ints h1, he'⟩, rfl, q ns' _ h2 h3 (I.hok.fresh (Nat.le_succ _))⟩
end TL
namespace PySem.F
theorem slot_comb_next : Slot "itertools.combinations" "__next__" "itertools.combinations.__next__" :=
  .of (owner := "itertools.combinations") (n := "__next__") (by rw [typeLookup_type, builtinLookup_eq_fast]; kernel_rfl) (by decide +kernel) (by decide +kernel) (by decide +kernel)
    (by first | exact .inl (by decide +kernel) | exact .inr (by decide +kernel)) (by rw [isSubtype_type]; kernel_rfl)
theorem slot_comb_iter : Slot "itertools.combinations" "__iter__" "itertools.combinations.__iter__" :=
  .of (owner := "itertools.combinations") (n := "__iter__") (by rw [typeLookup_type, builtinLookup_eq_fast]; kernel_rfl) (by decide +kernel) (by decide +kernel) (by decide +kernel)
    (by first | exact .inl (by decide +kernel) | exact .inr (by decide +kernel)) (by rw [isSubtype_type]; kernel_rfl)
theorem slot_comb_init : Slot "itertools.combinations" "__init__" "object.__init__" :=
  .of (owner := "object") (n := "__init__") (by rw [typeLookup_type, builtinLookup_eq_fast]; kernel_rfl) (by decide +kernel) (by decide +kernel) (by decide +kernel)
    (by first | exact .inl (by decide +kernel) | exact .inr (by decide +kernel)) (by rw [isSubtype_type]; kernel_rfl)
theorem entry_comb_next : entryFor table "itertools.combinations.__next__" = some Builtin.«itertools.combinations.__next__» := entryFor_of_tree (by kernel_rfl)
theorem entry_comb_new : entryFor table "itertools.combinations.__new__" = some Builtin.«itertools.combinations.__new__» := entryFor_of_tree (by kernel_rfl)
theorem owner_comb : Manifest.owners.lookup (String.ofList "itertools.combinations".toList.reverse.reverse) = some Manifest.sig_itertools_combinations := by kernel_rfl
theorem args_comb_next_1 (a : Value) : argsOk "itertools.combinations.__next__" ⟨[a], []⟩ := by
  unfold argsOk; rw [signature?_of (id := "itertools.combinations.__next__") (n := "__next__".toList.reverse) (o := "itertools.combinations".toList.reverse) (by kernel_rfl) owner_comb]; kernel_rfl
theorem entry_comb_iter : entryFor table "itertools.combinations.__iter__" = some Builtin.«dict_keyiterator.__iter__» :=
  entryFor_alias (id' := "dict_keyiterator.__iter__") (by kernel_rfl) rfl (by decide +kernel) (by kernel_rfl)
theorem args_comb_iter_1 (a : Value) : argsOk "itertools.combinations.__iter__" ⟨[a], []⟩ := by
  unfold argsOk; rw [signature?_of (id := "itertools.combinations.__iter__") (n := "__iter__".toList.reverse) (o := "itertools.combinations".toList.reverse) (by kernel_rfl) owner_comb]; kernel_rfl
theorem mro_comb : mroOf (.type "itertools.combinations") = pure [.type "itertools.combinations", .type "object"] := by rw [mroOf_type]; kernel_rfl
theorem lookup_comb_new : typeLookup (.type "itertools.combinations") "__new__" = pure (some (.builtin "itertools.combinations.__new__")) := by rw [typeLookup_type, builtinLookup_eq_fast]; kernel_rfl
theorem called_comb : TypeCalled "itertools.combinations" "itertools.combinations.__new__" "object.__init__" :=
  ⟨by decide +kernel, by decide +kernel, ⟨_, _, mro_comb⟩, madeBy_type mro_comb lookup_comb_new (by decide +kernel), by decide +kernel, by rw [isSubtype_type]; kernel_rfl, slot_comb_init⟩
theorem typeCall_comb_2 (a b : Value) : checkTypeCall "itertools.combinations" ⟨[a, b], []⟩ = pure () := by kernel_rfl
theorem newCall_comb_2 (a b : Value) : checkBuiltinCall "itertools.combinations.__new__" ⟨[.type "itertools.combinations", a, b], []⟩ = pure () := by kernel_rfl
theorem sub_comb : isSubtype (.type "itertools.combinations") (.type "itertools.combinations") = pure true := by rw [isSubtype_type]; kernel_rfl
end PySem.F
namespace TL
open PySem PySem.Spec PyProof.Rows L2 PySem.W
/-! ### itertools.combinations over a tuple of things -/
def vsC (p : Addr) (st : Int) (res : Value) (is : List Nat) : Array Value := ([.ref p, rawInt st, res] ++ is.map fun (i : Nat) => rawInt (i : Int)).toArray
abbrev IsComb (h : Heap) (e p : Addr) (st : Int) (res : Value) (is : List Nat) : Prop :=
  h.get? e = some { cls := .type "itertools.combinations", dict := none, data := .fields (vsC p st res is), slots := #[] }
theorem vsC_1 {p : Addr} {st k : Int} {res : Value} {is : List Nat} : (vsC p st res is).setIfInBounds 1 (rawInt k) = vsC p k res is := by
  unfold vsC
  rw [List.setIfInBounds_toArray]
  rfl
theorem vsC_2 {p : Addr} {st : Int} {res v : Value} {is : List Nat} : (vsC p st res is).setIfInBounds 2 v = vsC p st v is := by
  unfold vsC
  rw [List.setIfInBounds_toArray]
  rfl
theorem vsC_z {p : Addr} {st : Int} {res : Value} {is : List Nat} : (vsC p st res is).size = is.length + 3 := by
  unfold vsC
  simp
theorem numsC (is : List Nat) : (is.map fun (i : Nat) => rawInt (i : Int)).map (fun (v : Value) => match v with | .int n _ => n.toNat | _ => 0) = is := by
  rw [List.map_map]
  induction is with
  | nil => rfl
  | cons x xs ih => rw [List.map_cons, ih]; rfl
section
variable {prog : Program} {w : World} {A : Around} {E : Value → Shared → Prop} {s : Shared}
theorem wp_nums {e p : Addr} {st : Int} {res : Value} {is : List Nat} {Q : List Nat → Shared → Prop} (hI : IsComb s.heap e p st res is) (h : Q is s) : wpAny (model prog w) A (Builtin.Itertools.itNumbersFrom (.ref e) 3) Q E s := by
  unfold Builtin.Itertools.itNumbersFrom
  refine wpAny_bind (wpAny_load hI ?_)
  refine wpAny_pure ?_
  have e1 : (vsC p st res is).toList.drop 3 = is.map fun (i : Nat) => rawInt (i : Int) := rfl
  show Q (((vsC p st res is).toList.drop 3).map _) s
  rw [e1]
  exact Eq.mpr (congrArg (fun l => Q l s) (numsC is)) h
theorem wp_itint {e p : Addr} {st : Int} {res : Value} {is : List Nat} {Q : Int → Shared → Prop} (hI : IsComb s.heap e p st res is) (h : Q st s) : wpAny (model prog w) A (Builtin.Itertools.itIntField (.ref e) 1) Q E s := by
  unfold Builtin.Itertools.itIntField
  exact wpAny_bind (wpAny_field hI rfl (x := rawInt st) rfl (wpAny_pure h))
theorem wp_pool {p : Addr} {its : Array Value} {Q : Array Value → Shared → Prop} (hp : s.heap.IsTuple p its) (h : Q its s) : wpAny (model prog w) A (Builtin.Itertools.itPoolItems (.ref p)) Q E s := by
  obtain ⟨o, ho, _, n, hd⟩ := hp
  unfold Builtin.Itertools.itPoolItems
  exact wpAny_bind (wpAny_seqItems ho hd (wpAny_pure h))
def pickC (its : Array Value) (is : List Nat) : List Value := is.map fun i => its.getD i .none
theorem tup_keep {e p : Addr} {h h1 : Heap} {its : Array Value} {st : Int} {res : Value} {is : List Nat} (hp : h.IsTuple p its) (hI : IsComb h e p st res is) (sb : Heap.SameBut e h h1) : h1.IsTuple p its := by
  obtain ⟨o, ho, hc, hd⟩ := hp
  refine ⟨o, (sb.2 p fun z => ?_).trans ho, hc, hd⟩
  subst z
  obtain rfl : o = _ := Option.some.inj (ho.symm.trans hI)
  exact absurd (Value.type.inj hc) (by decide)
/-- the found tuple is remembered and handed out -/
theorem comb_tail {e p : Addr} {res : Value} {is : List Nat} {v : Value} {Q : Value → Shared → Prop} (hI : IsComb s.heap e p 1 res is)
    (hQ : ∀ h', IsComb h' e p 1 v is → Heap.SameBut e s.heap h' → Q v { s with heap := h' }) :
    wpAny (model prog w) A (field (.ref e) 2 >>= fun before => setField (.ref e) 2 v >>= fun _ => letGo [before] [v] >>= fun _ => ret v) (fun fin s' => ∃ v, fin = .done (.ret v) ∧ Q v s') E s := by
  refine wpAny_bind (wpAny_field hI rfl (x := res) rfl ?_)
  refine wpAny_bind (wpAny_setField_rec hI (by rw [vsC_z]; omega) fun h2 hI2 sb2 => ?_)
  rw [vsC_2] at hI2
  exact wpAny_bind (wpAny_letGo (wpAny_pure ⟨_, rfl, hQ h2 hI2 sb2⟩))
theorem comb_next0 {e p : Addr} {res : Value} {is : List Nat} {its : Array Value} {Q : Value → Shared → Prop} (hI : IsComb s.heap e p 0 res is) (hp : s.heap.IsTuple p its) (hz : is.length ≤ 1000)
    (hQ : ∀ h', IsComb h' e p 1 (.ref s.heap.objs.size) is → h'.get? s.heap.objs.size = some { cls := .type "tuple", data := .seq (pickC its is).toArray } →
      (∀ b o, b ≠ e → s.heap.get? b = some o → h'.get? b = some o) → Q (.ref s.heap.objs.size) { s with heap := h' }) :
    wpAny (model prog w) A (Builtin.«itertools.combinations.__next__» ⟨[.ref e], []⟩) (fun fin s' => ∃ v, fin = .done (.ret v) ∧ Q v s') E s := by
  obtain ⟨hp', g, d, tk, os⟩ := s
  have le : e < hp'.objs.size := Heap.lt_size hI
  show wpAny _ _ (field (.ref e) 0 >>= _) _ _ _
  refine wpAny_bind (wpAny_field hI rfl (x := .ref p) rfl ?_)
  refine wpAny_bind (wp_nums hI ?_)
  refine wpAny_bind (wp_itint hI ?_)
  show wpAny _ _ (setField (.ref e) 1 (rawInt 1) >>= _) _ _ _
  refine wpAny_bind (wpAny_setField_rec hI (by rw [vsC_z]; omega) fun h1 hI1 sb1 => ?_)
  rw [vsC_1] at hI1
  replace sb1 : Heap.SameBut e hp' h1 := sb1
  have hp1 : h1.IsTuple p its := tup_keep hp hI sb1
  refine wpAny_bind (wpAny_bind (wp_pool hp1 (wpAny_newTuple ?_ (by rw [List.length_map]; exact Nat.le_trans hz (by decide)))))
  have hz1 : h1.objs.size = hp'.objs.size := sb1.1
  have hI2 : IsComb (h1.push { cls := .type "tuple", data := .seq (pickC its is).toArray }) e p 1 res is := Heap.get?_push_of_some _ hI1
  refine comb_tail (s := ⟨h1.push { cls := .type "tuple", data := .seq (pickC its is).toArray }, g, d, tk, os⟩) hI2 fun h3 hI3 sb3 => ?_
  show Q (.ref h1.objs.size) ⟨h3, g, d, tk, os⟩
  rw [hz1]
  replace hI3 : IsComb h3 e p 1 (.ref h1.objs.size) is := hI3
  rw [hz1] at hI3
  refine hQ h3 hI3 ?_ ?_
  · have := Heap.get?_push_size h1 (o := { cls := .type "tuple", data := .seq (pickC its is).toArray }) rfl
    rw [hz1] at this
    exact (sb3.2 _ (Nat.ne_of_gt le)).trans this
  · exact fun b o hb ho => (sb3.2 b hb).trans (Heap.get?_push_of_some _ ((sb1.2 b hb).trans ho))
/-- the next choice of places, in order -/
def nxc (n : Nat) (is : List Nat) : Option (List Nat) :=
  match ((List.range is.length).reverse).find? (fun i => is.getD i 0 != i + n - is.length) with
  | none => none
  | some i => some (is.take i ++ ((List.range (is.length - i)).map fun k => is.getD i 0 + 1 + k))
theorem nxc_len {n : Nat} {is js : List Nat} (h : nxc n is = some js) : js.length = is.length := by
  unfold nxc at h
  split at h
  · cases h
  · rename_i i hi
    cases h
    have := List.mem_of_find?_eq_some hi
    rw [List.mem_reverse, List.mem_range] at this
    simp
    omega
theorem vsC_set {p : Addr} {st : Int} {res : Value} {is js : List Nat} : (vsC p st res is).extract 0 3 ++ (js.map fun (n : Nat) => rawInt (n : Int)).toArray = vsC p st res js := by
  unfold vsC
  apply Array.ext'
  simp
theorem comb_next1 {e p : Addr} {res : Value} {is js : List Nat} {its : Array Value} {Q : Value → Shared → Prop} (hI : IsComb s.heap e p 1 res is) (hp : s.heap.IsTuple p its) (hz : is.length ≤ 1000) (hn : nxc its.size is = some js)
    (hQ : ∀ h', IsComb h' e p 1 (.ref s.heap.objs.size) js → h'.get? s.heap.objs.size = some { cls := .type "tuple", data := .seq (pickC its js).toArray } →
      (∀ b o, b ≠ e → s.heap.get? b = some o → h'.get? b = some o) → Q (.ref s.heap.objs.size) { s with heap := h' }) :
    wpAny (model prog w) A (Builtin.«itertools.combinations.__next__» ⟨[.ref e], []⟩) (fun fin s' => ∃ v, fin = .done (.ret v) ∧ Q v s') E s := by
  obtain ⟨hp', g, d, tk, os⟩ := s
  have le : e < hp'.objs.size := Heap.lt_size hI
  have hlj := nxc_len hn
  show wpAny _ _ (field (.ref e) 0 >>= _) _ _ _
  refine wpAny_bind (wpAny_field hI rfl (x := .ref p) rfl ?_)
  refine wpAny_bind (wp_nums hI ?_)
  refine wpAny_bind (wp_itint hI ?_)
  show wpAny _ _ (Builtin.Itertools.itPoolItems (.ref p) >>= _) _ _ _
  refine wpAny_bind (wp_pool hp ?_)
  split
  · rename_i nx heq
    obtain rfl : nx = js := Option.some.inj (heq.symm.trans hn)
    unfold Builtin.Itertools.itSetNumbersFrom
    refine wpAny_bind (wpAny_updateFields hI rfl ?_ (by rw [vsC_set, vsC_z]; exact Nat.le_trans (Nat.add_le_add_right (Nat.le_trans (Nat.le_of_eq hlj) hz) 3) (by decide)))
    have hI1 : (hp'.update e (Obj.mapFields fun fs => fs.extract 0 3 ++ (nx.map fun (n : Nat) => rawInt (n : Int)).toArray)).get? e = some { cls := .type "itertools.combinations", dict := none, data := .fields (vsC p 1 res nx), slots := #[] } := by
      have := Heap.get?_update_self (Obj.mapFields fun fs => fs.extract 0 3 ++ (nx.map fun (n : Nat) => rawInt (n : Int)).toArray) hI (by rfl)
      refine this.trans (congrArg some ?_)
      show ({ cls := _, dict := _, data := .fields _, slots := _ } : Obj) = _
      dsimp only
      rw [vsC_set]
    have sb1 : Heap.SameBut e hp' (hp'.update e (Obj.mapFields fun fs => fs.extract 0 3 ++ (nx.map fun (n : Nat) => rawInt (n : Int)).toArray)) := Heap.SameBut.update ..
    generalize hp'.update e (Obj.mapFields fun fs => fs.extract 0 3 ++ (nx.map fun (n : Nat) => rawInt (n : Int)).toArray) = h1 at *
    have hp1 : h1.IsTuple p its := tup_keep hp hI sb1
    show wpAny _ _ (_ >>= _) _ _ ⟨h1, g, d, tk, os⟩
    refine wpAny_bind (wpAny_bind (wp_pool hp1 (wpAny_newTuple ?_ (by rw [List.length_map, hlj]; exact Nat.le_trans hz (by decide)))))
    have hz1 : h1.objs.size = hp'.objs.size := sb1.1
    have hI2 : IsComb (h1.push { cls := .type "tuple", data := .seq (pickC its nx).toArray }) e p 1 res nx := Heap.get?_push_of_some _ hI1
    refine comb_tail (s := ⟨h1.push { cls := .type "tuple", data := .seq (pickC its nx).toArray }, g, d, tk, os⟩) hI2 fun h3 hI3 sb3 => ?_
    show Q (.ref h1.objs.size) ⟨h3, g, d, tk, os⟩
    rw [hz1]
    replace hI3 : IsComb h3 e p 1 (.ref h1.objs.size) nx := hI3
    rw [hz1] at hI3
    refine hQ h3 hI3 ?_ ?_
    · have := Heap.get?_push_size h1 (o := { cls := .type "tuple", data := .seq (pickC its nx).toArray }) rfl
      rw [hz1] at this
      exact (sb3.2 _ (Nat.ne_of_gt le)).trans this
    · exact fun b o hb ho => (sb3.2 b hb).trans (Heap.get?_push_of_some _ ((sb1.2 b hb).trans ho))
  · rename_i heq
    exact absurd (heq.symm.trans hn) (by simp)
theorem it_stop {α : Type} {Q : α → Shared → Prop} (hh : A.handled = none) (hE : ∀ h' e, (∀ b o, s.heap.get? b = some o → h'.get? b = some o) → (∃ o, h'.get? e = some o ∧ o.cls = .type "StopIteration") → E (.ref e) { s with heap := h' }) :
    wpAny (model prog w) A (Builtin.Itertools.itStop : Sem α) Q E s := by
  unfold Builtin.Itertools.itStop
  show wpAny _ _ (newExc (.type "StopIteration") [] >>= _) _ _ _
  refine wpAny_bind ?_
  simp only [newExc, newTuple]
  refine wpAny_bind (wpAny_newObj_type ?_ (by size_fits))
  refine wpAny_bind (m := firstArgMember _ _) (wpAny_of_eq (a := Value.none) (by first | rfl | (simp only [firstArgMember]; rfl)) ?_)
  refine wpAny_newObj_type ?_ (by size_fits)
  simp only [raiseNew]
  refine wpAny_bind (wpAny_handled ?_)
  first | rw [show A.in1.handled = none from hh] | rw [hh]
  refine wpAny_bind (wpAny_pure (wpAny_throw ?_))
  exact hE _ _ (fun b o ho => Heap.get?_push_of_some _ (Heap.get?_push_of_some _ ho)) ⟨_, Heap.get?_push_size _ rfl, rfl⟩
theorem comb_end1 {e p : Addr} {res : Value} {is : List Nat} {its : Array Value} {Q : PySem.Fin → Shared → Prop} (hh : A.handled = none) (hI : IsComb s.heap e p 1 res is) (hp : s.heap.IsTuple p its) (hn : nxc its.size is = none)
    (hE : ∀ h' x, (∀ b o, b ≠ e → s.heap.get? b = some o → h'.get? b = some o) → (∃ o, h'.get? x = some o ∧ o.cls = .type "StopIteration") → E (.ref x) { s with heap := h' }) :
    wpAny (model prog w) A (Builtin.«itertools.combinations.__next__» ⟨[.ref e], []⟩) Q E s := by
  obtain ⟨hp', g, d, tk, os⟩ := s
  show wpAny _ _ (field (.ref e) 0 >>= _) _ _ _
  refine wpAny_bind (wpAny_field hI rfl (x := .ref p) rfl ?_)
  refine wpAny_bind (wp_nums hI ?_)
  refine wpAny_bind (wp_itint hI ?_)
  show wpAny _ _ (Builtin.Itertools.itPoolItems (.ref p) >>= _) _ _ _
  refine wpAny_bind (wp_pool hp ?_)
  split
  · rename_i nx heq
    exact absurd (heq.symm.trans hn) (by simp)
  · refine wpAny_bind (wpAny_setField_rec hI (by rw [vsC_z]; omega) fun h1 hI1 sb1 => ?_)
    exact it_stop hh fun h' x k hx => hE h' x (fun b o hb ho => k b o ((sb1.2 b hb).trans ho)) hx
theorem comb_end2 {e p : Addr} {res : Value} {is : List Nat} {Q : PySem.Fin → Shared → Prop} (hh : A.handled = none) (hI : IsComb s.heap e p 2 res is)
    (hE : ∀ h' x, (∀ b o, s.heap.get? b = some o → h'.get? b = some o) → (∃ o, h'.get? x = some o ∧ o.cls = .type "StopIteration") → E (.ref x) { s with heap := h' }) :
    wpAny (model prog w) A (Builtin.«itertools.combinations.__next__» ⟨[.ref e], []⟩) Q E s := by
  obtain ⟨hp', g, d, tk, os⟩ := s
  show wpAny _ _ (field (.ref e) 0 >>= _) _ _ _
  refine wpAny_bind (wpAny_field hI rfl (x := .ref p) rfl ?_)
  refine wpAny_bind (wp_nums hI ?_)
  refine wpAny_bind (wp_itint hI ?_)
  exact wpAny_bind (wpAny_rule (it_stop hh fun h' x k hx => hE h' x k hx))
theorem comb_iter {e p : Addr} {st : Int} {res : Value} {is : List Nat} {Q : Value → Shared → Prop} (hI : IsComb s.heap e p st res is) (h : Q (.ref e) s) : wpAny (model prog w) A (pyIter (.ref e)) Q E s := by
  have hT : s.TypeIs (.ref e) "itertools.combinations" := ⟨_, hI, rfl⟩
  refine wpAny_pyIter_slot hT F.slot_comb_iter (wpAny_call_entry F.slot_comb_iter hT F.entry_comb_iter ?_ (F.args_comb_iter_1 _))
  show wpAny _ _ (ret (.ref e)) _ _ s
  exact wpAny_pure ⟨_, rfl, "itertools.combinations", _, hT, F.slot_comb_next.lookup, h⟩
/-- the state of an iterator of choices, made anew: nothing left if more are asked than there are -/
def st0 (n r : Nat) : Int := if r > n then 2 else 0
theorem comb_new {r : Addr} {a b : Int} {t u v : Tok} {n : Nat} {m : Nat} {tm : Tok} {Q : Value → Shared → Prop} (hh : A.handled = none) (hr : IsRange s.heap r a b 1 t u v) (hsmall : Builtin.Range.small a b 1 = true) (hn : Builtin.Range.rangeSize a b 1 = n) (hlen : n ≤ 1000) (hm : m ≤ 1000)
    (hQ : ∀ (h1 h' : Heap) (tk : Nat) (acc : Array Value), (∀ b o, s.heap.get? b = some o → h1.get? b = some o) → (∀ b o, h1.get? b = some o → h'.get? b = some o) → ItemsOf (fun i v => ∃ t, v = .int (a + i * 1) t) acc n → h'.IsTuple h1.objs.size acc → IsComb h' (h1.objs.size + 1) h1.objs.size (st0 n m) .none (List.range m) → Q (.ref (h1.objs.size + 1)) { s with heap := h', toks := tk }) :
    wpAny (model prog w) A (Builtin.«itertools.combinations.__new__» ⟨[.type "itertools.combinations", .ref r, .int m tm], []⟩) (fun fin s' => ∃ v, fin = .done (.ret v) ∧ Q v s') E s := by
  obtain ⟨hp', g, d, tk, os⟩ := s
  have hs : isSubtype (.type "itertools.combinations") (.type ("itertools." ++ "combinations")) = pure true := by
    rw [show "itertools." ++ "combinations" = "itertools.combinations" from by decide]
    exact F.sub_comb
  have hb : Builtin.Itertools.itBindNamed "combinations" ["iterable", "r"] 2 2 [.ref r, .int m tm] [] = pure [some (.ref r), some (.int m tm)] := by kernel_rfl
  have m1 : ¬ ((m : Int) < -(2 ^ 63 : Int) || (m : Int) ≥ 2 ^ 63) = true := by
    have h1 : (2 : Int) ^ 63 = 9223372036854775808 := by decide
    rw [h1, Bool.or_eq_true, decide_eq_true_iff, decide_eq_true_iff]
    omega
  have m2 : ¬ (m : Int) < 0 := by omega
  have m3 : Builtin.Itertools.itTooMany (m : Int) = false := by
    have : (2 : Int) ^ 20 = 1048576 := by decide
    show decide ((m : Int) > 2 ^ 20) = false
    rw [this]
    exact decide_eq_false (by omega)
  have hd : typeHasDict (.type "itertools.combinations") = false := by decide +kernel
  have c1 : ∀ {A : Around} {E : Value → Shared → Prop} {Q : Value × List Value → Shared → Prop} {s : Shared}, Q (.type "itertools.combinations", [.ref r, .int m tm]) s → wpAny (model prog w) A (Builtin.Itertools.itClassAndRest "combinations" ⟨[.type "itertools.combinations", .ref r, .int m tm], []⟩) Q E s := fun {A E Q s} h => by
    obtain ⟨hp', g, d, tk, os⟩ := s
    wp_walk
    exact h
  refine wpAny_bind (wpAny_bind (c1 ?_))
  refine wpAny_bind (wpAny_of_eq hb ?_)
  have c2 : ∀ {A : Around} {E : Value → Shared → Prop} {Q : Int → Shared → Prop} {s : Shared}, Q (m : Int) s → wpAny (model prog w) A (Builtin.Itertools.itSsizeArg (.int m tm)) Q E s := fun {A E Q s} h => by
    obtain ⟨hp', g, d, tk, os⟩ := s
    unfold Builtin.Itertools.itSsizeArg
    wp_walk
    rw [if_neg m1]
    exact wpAny_pure h
  refine wpAny_bind (c2 ?_)
  refine wpAny_bind (collect_range hh hr hsmall hn (Nat.le_trans hlen (by decide)) fun h1 tk1 acc k1 hacc => ?_)
  rw [if_neg m2]
  show wpAny _ _ (if Builtin.Itertools.itTooMany ((m : Int)) = true then _ else _) _ _ _
  rw [if_neg (by rw [m3]; decide)]
  refine wpAny_bind (wpAny_newTuple ?_ (by rw [Array.length_toList, hacc.1]; exact Nat.le_trans hlen (by decide)))
  refine wpAny_pure ?_
  dsimp only
  unfold Builtin.Itertools.itNewRecord
  refine wpAny_bind ?_
  rw [if_pos (by rw [hd]; rfl)]
  have ez : acc.toList.length = n := by rw [Array.length_toList, hacc.1]
  rw [ez, Int.toNat_natCast]
  have hz : (h1.push { cls := .type "tuple", data := .seq acc.toList.toArray }).objs.size = h1.objs.size + 1 := Heap.size_push ..
  have hT := Heap.get?_push_size h1 (o := { cls := .type "tuple", data := .seq acc.toList.toArray }) rfl
  refine wpAny_newObj_type ?_ ?_
  · refine wpAny_pure ⟨_, rfl, ?_⟩
    have hC := Heap.get?_push_size (h1.push { cls := .type "tuple", data := .seq acc.toList.toArray }) (o := { cls := .type "itertools.combinations", data := .fields (vsC h1.objs.size (st0 n m) .none (List.range m)) }) rfl
    show Q (.ref (h1.push { cls := .type "tuple", data := .seq acc.toList.toArray }).objs.size) ⟨(h1.push { cls := .type "tuple", data := .seq acc.toList.toArray }).push { cls := .type "itertools.combinations", data := .fields (vsC h1.objs.size (st0 n m) .none (List.range m)) }, g, d, tk1, os⟩
    rw [hz] at hC ⊢
    exact hQ h1 _ tk1 acc k1 (fun b o ho => Heap.get?_push_of_some _ (Heap.get?_push_of_some _ ho)) hacc ⟨_, Heap.get?_push_of_some _ hT, rfl, 0, by simp⟩ hC
  · show (vsC h1.objs.size (st0 n m) .none (List.range m)).size ≤ sizeLine + 2
    rw [vsC_z, List.length_range]
    exact Nat.le_trans (by omega : m + 3 ≤ 1003) (by decide)
end
end TL
namespace TL
open PySem PySem.Spec PyProof.Rows L2 PySem.W
theorem comb_call {prog : Program} {w : World} {A : Around} {E Q : Value → Shared → Prop} {s : Shared} {r : Addr} {b : Int} {t u v : Tok} {n m : Nat} {tm : Tok} (hh : A.handled = none) (hr : IsRange s.heap r 0 b 1 t u v) (hsmall : Builtin.Range.small 0 b 1 = true) (hn : Builtin.Range.rangeSize 0 b 1 = n) (hlen : n ≤ 1000) (hm : m ≤ 1000)
    (hQ : ∀ (h1 h' : Heap) (tk : Nat) (acc : Array Value), (∀ b o, s.heap.get? b = some o → h1.get? b = some o) → (∀ b o, h1.get? b = some o → h'.get? b = some o) → ItemsOf (fun i v => ∃ t, v = .int (0 + i * 1) t) acc n → h'.IsTuple h1.objs.size acc → IsComb h' (h1.objs.size + 1) h1.objs.size (st0 n m) .none (List.range m) → Q (.ref (h1.objs.size + 1)) { s with heap := h', toks := tk }) :
    wpAny (model prog w) A (call (.type "itertools.combinations") [.ref r, .int m tm]) Q E s := by
  refine callType_new F.called_comb (by decide) (F.typeCall_comb_2 _ _) (F.newCall_comb_2 _ _) (fun obj => F.args_object_init_3 obj _ _) F.entry_comb_new
    (Meets.of_wp (S := fun A R s => A.handled = none ∧ IsRange s.heap r 0 b 1 t u v ∧ ∀ (h1 h' : Heap) (tk : Nat) (acc : Array Value), (∀ b o, s.heap.get? b = some o → h1.get? b = some o) → (∀ b o, h1.get? b = some o → h'.get? b = some o) → ItemsOf (fun i v => ∃ t, v = .int (0 + i * 1) t) acc n → h'.IsTuple h1.objs.size acc → IsComb h' (h1.objs.size + 1) h1.objs.size (st0 n m) .none (List.range m) → R (.ok (.ret (.ref (h1.objs.size + 1)))) { s with heap := h', toks := tk })
      fun prog w A R s h => comb_new (A := A.in1) h.1 h.2.1 hsmall hn hlen hm fun h1 h' tk acc a1 a2 a3 a4 a5 => h.2.2 h1 h' tk acc a1 a2 a3 a4 a5) ⟨hh, hr, fun h1 h' tk acc a1 a2 a3 a4 a5 => ⟨⟨_, a5, rfl⟩, hQ h1 h' tk acc a1 a2 a3 a4 a5⟩⟩
/-- the choices of r among n, one after the other -/
def chs (n r : Nat) : Nat → Option (List Nat)
  | 0 => if r > n then none else some (List.range r)
  | i + 1 => (chs n r i).bind (nxc n)
def natsV (js : List Nat) : List V := js.map fun j => V.int ((j : Nat) : Int)
def ItC (n r : Nat) : It :=
  ⟨fun i H => (chs n r i).isSome = true, fun i H v H' => ∃ T js, v = .ref T ∧ H T = none ∧ H' = upd H T (.tup (natsV js)) ∧ chs n r i = some js, fun i H => chs n r i = none⟩
theorem chs_le {n r : Nat} : ∀ {i : Nat} {js : List Nat}, chs n r i = some js → r ≤ n ∧ js.length = r
  | 0, js, h => by
    unfold chs at h
    split at h
    · cases h
    · cases h
      exact ⟨by omega, List.length_range⟩
  | i + 1, js, h => by
    obtain ⟨is, h1, h2⟩ := Option.bind_eq_some_iff.mp h
    have := chs_le h1
    exact ⟨this.1, (nxc_len h2).trans this.2⟩
theorem nxc_bd {n : Nat} {is js : List Nat} (hr : is.length ≤ n) (hb : ∀ k v, is[k]? = some v → v ≤ k + n - is.length) (h : nxc n is = some js) : ∀ k v, js[k]? = some v → v ≤ k + n - js.length := by
  have hl := nxc_len h
  unfold nxc at h
  split at h
  · cases h
  · rename_i i hi
    cases h
    have hm := List.mem_of_find?_eq_some hi
    rw [List.mem_reverse, List.mem_range] at hm
    have hp := List.find?_some hi
    have hv : is[i]? = some (is.getD i 0) := by rw [List.getD_eq_getElem?_getD, List.getElem?_eq_getElem hm]; rfl
    have hx := hb i _ hv
    have hne : is.getD i 0 ≠ i + n - is.length := by simpa using hp
    intro k v hk
    rw [hl]
    rcases Nat.lt_or_ge k i with z | z
    · rw [List.getElem?_append_left (by rw [List.length_take]; omega), List.getElem?_take, if_pos z] at hk
      exact hb k v hk
    · rw [List.getElem?_append_right (by rw [List.length_take]; omega), List.length_take, Nat.min_eq_left (by omega), List.getElem?_map] at hk
      obtain ⟨t, ht, rfl⟩ := Option.map_eq_some_iff.mp hk
      obtain ⟨t1, t2⟩ := List.getElem?_eq_some_iff.mp ht
      rw [List.getElem_range] at t2
      rw [List.length_range] at t1
      omega
theorem chs_bd {n r : Nat} : ∀ {i : Nat} {js : List Nat}, chs n r i = some js → ∀ k v, js[k]? = some v → v ≤ k + n - js.length
  | 0, js, h => by
    have := chs_le h
    unfold chs at h
    split at h
    · cases h
    · cases h
      intro k v hk
      obtain ⟨h1, h2⟩ := List.getElem?_eq_some_iff.mp hk
      rw [List.getElem_range] at h2
      rw [List.length_range] at h1 ⊢
      omega
  | i + 1, js, h => by
    obtain ⟨is, h1, h2⟩ := Option.bind_eq_some_iff.mp h
    have := chs_le h1
    exact nxc_bd (by omega) (chs_bd h1) h2
theorem chs_lt {n r i : Nat} {js : List Nat} (h : chs n r i = some js) : ∀ j ∈ js, j < n := fun j hj => by
  obtain ⟨k, hk⟩ := List.mem_iff_getElem?.mp hj
  have h1 := chs_bd h k j hk
  have h2 := (List.getElem?_eq_some_iff.mp hk).1
  have := chs_le h
  omega
/-- where the iterator stands behind i turns -/
def CAt (n r : Nat) (h : Heap) (e p : Addr) (i : Nat) : Prop :=
  (i = 0 ∧ ∃ res, IsComb h e p (st0 n r) res (List.range r)) ∨ ∃ k is res, i = k + 1 ∧ chs n r k = some is ∧ IsComb h e p 1 res is
theorem CAt.obj {n r i : Nat} {h : Heap} {e p : Addr} (c : CAt n r h e p i) : ∃ st res is, IsComb h e p st res is := by
  rcases c with ⟨_, res, h⟩ | ⟨k, is, res, _, _, h⟩
  · exact ⟨_, _, _, h⟩
  · exact ⟨_, _, _, h⟩
theorem CAt.keep {n r i : Nat} {h h' : Heap} {e p : Addr} (c : CAt n r h e p i) (k : ∀ o, h.get? e = some o → h'.get? e = some o) : CAt n r h' e p i := by
  rcases c with ⟨a, res, h⟩ | ⟨j, is, res, a, b, h⟩
  · exact .inl ⟨a, res, k _ h⟩
  · exact .inr ⟨j, is, res, a, b, k _ h⟩
theorem pick_items {n : Nat} {acc : Array Value} (h : ItemsOf (fun i v => ∃ t, v = .int (0 + i * 1) t) acc n) : ∀ {js : List Nat}, (∀ j ∈ js, j < n) → Vals (natsV js) (pickC acc js)
  | [], _ => .nil
  | j :: js, hj => by
    refine .cons ?_ (pick_items h fun x hx => hj x (List.mem_cons_of_mem _ hx))
    have h1 : j < acc.size := by rw [h.1]; exact hj j (List.mem_cons_self ..)
    obtain ⟨t, ht⟩ := h.2 j acc[j] (Array.getElem?_eq_getElem h1)
    refine ⟨t, ?_⟩
    show acc.getD j .none = _
    rw [Array.getD_eq_getD_getElem?, Array.getElem?_eq_getElem h1]
    show acc[j] = _
    rw [ht]
    simp
theorem turn_comb {P : Program} {w : World} {K : PySem.W.Frag} {tg : Expr} {n r : Nat} {acc : Array Value} (hacc : ItemsOf (fun i v => ∃ t, v = .int (0 + i * 1) t) acc n) (hr : r ≤ 1000) (e p : Addr) (ne : p ≠ e) :
    Turn P w K tg (ItC n r) [e, p] e (fun i h => CAt n r h e p i ∧ h.IsTuple p acc) where
  mem := List.mem_cons_self ..
  obj := fun i h st b hb => by
    simp only [List.mem_cons, List.not_mem_nil, or_false] at hb
    rcases hb with rfl | rfl
    · obtain ⟨_, _, _, h⟩ := st.1.obj
      exact ⟨_, h, fun v q => nomatch q⟩
    · obtain ⟨o, ho, _, m, hd⟩ := st.2
      refine ⟨o, ho, fun v q => ?_⟩
      rw [hd] at q
      cases q
  keep := fun i h h' st k => ⟨st.1.keep fun o q => k e (by simp) o q, by
    obtain ⟨o, ho, hc, hd⟩ := st.2
    exact ⟨o, k p (by simp) o ho, hc, hd⟩⟩
  item := by
    intro X hP hw hK hc i pins s σ H E I hf st hg
    subst hP hw hK
    obtain ⟨hC, hT⟩ := st
    obtain ⟨js, hj⟩ : ∃ js, chs n r i = some js := Option.isSome_iff_exists.mp hg
    have hjl := chs_le hj
    have hz : acc.size = n := hacc.1
    have fin : ∀ (h' : Heap), IsComb h' e p 1 (.ref s.heap.objs.size) js → h'.get? s.heap.objs.size = some { cls := .type "tuple", data := .seq (pickC acc js).toArray } → (∀ b o, b ≠ e → s.heap.get? b = some o → h'.get? b = some o) →
        ∃ u, some (Value.ref s.heap.objs.size) = some u ∧ wpAny (model X.prog X.w) X.A (letOwnedTupleGo tg (.ref e) u) (fun _ s2 => ∃ x H', Inv X pins σ H' s2 ∧ RelV x u ∧ (ItC n r).yld i H x H' ∧ (CAt n r s2.heap e p (i + 1) ∧ s2.heap.IsTuple p acc) ∧ ∀ b ∈ [e, p], H' b = none) E { s with heap := h' } := fun h' c1 c2 c3 => by
      refine ⟨_, rfl, go_of (s := { s with heap := h' }) (n := "itertools.combinations") c1 rfl rfl (by decide) ?_⟩
      have hn : H s.heap.objs.size = none := I.hok.fresh (Nat.le_refl _)
      have new : ObjOk X.prog X.w (upd H s.heap.objs.size (.tup (natsV js))) h' s.heap.objs.size (.tup (natsV js)) :=
        ⟨by unfold natsV; rw [List.length_map, hjl.2]; exact Nat.le_trans hr (by decide), pickC acc js, pick_items hacc (chs_lt hj), ⟨_, c2, rfl, _, rfl⟩⟩
      have I1 : Inv X pins σ (upd H s.heap.objs.size (.tup (natsV js))) { s with heap := h', toks := s.toks } :=
        I.turnedNew (ch := [e]) (fun b ob hb q => c3 b ob (fun c => hb (by simp [c])) q) (fun b hb => hf b (by
          have : b = e := by simpa using hb
          simp [this])) (Nat.le_refl _) new
      refine ⟨.ref s.heap.objs.size, _, I1, rfl, ⟨_, js, rfl, hn, rfl, hj⟩, ⟨.inr ⟨i, js, _, rfl, hj, c1⟩, ?_⟩, fun b hb => ?_⟩
      · obtain ⟨o, ho, hcc, hd⟩ := hT
        exact ⟨o, c3 p o ne ho, hcc, hd⟩
      · have lb : b < s.heap.objs.size := by
          simp only [List.mem_cons, List.not_mem_nil, or_false] at hb
          rcases hb with rfl | rfl
          · obtain ⟨_, _, _, h⟩ := hC.obj
            exact Heap.lt_size h
          · obtain ⟨o, ho, _⟩ := hT
            exact Heap.lt_size ho
        rw [upd_ne (Nat.ne_of_lt lb)]
        exact (hf b hb).1
    obtain ⟨_, _, _, hobj⟩ := hC.obj
    have hTy : s.TypeIs (.ref e) "itertools.combinations" := ⟨_, hobj, rfl⟩
    unfold pyNext
    refine wpAny_bind (wpAny_attempt (wpAny_callSpecial?_slot (name := Str.ofString "__next__") hTy F.slot_comb_next
      (wpAny_call_entry F.slot_comb_next hTy F.entry_comb_next ?_ (F.args_comb_next_1 _))))
    rcases hC with ⟨rfl, res, h0⟩ | ⟨k, is, res, rfl, hk, h1⟩
    · have e0 : js = List.range r := by
        unfold chs at hj
        split at hj
        · cases hj
        · exact (Option.some.inj hj).symm
      subst e0
      have es : st0 n r = 0 := by
        unfold st0
        rw [if_neg (by omega)]
      rw [es] at h0
      exact comb_next0 h0 hT (by rw [List.length_range]; exact hr) fun h' c1 c2 c3 => wpAny_pure (fin h' c1 c2 c3)
    · have hn : nxc acc.size is = some js := by
        rw [hz]
        have : (chs n r k).bind (nxc n) = some js := hj
        rw [hk] at this
        exact this
      exact comb_next1 h1 hT (by rw [(chs_le hk).2]; exact hr) hn fun h' c1 c2 c3 => wpAny_pure (fin h' c1 c2 c3)
  done := by
    intro X hP hw hK hc i pins s σ H E I hf st hg
    subst hP hw hK
    obtain ⟨hC, hT⟩ := st
    have hz : acc.size = n := hacc.1
    obtain ⟨f0, f1, f2, f3, f4, f5⟩ := hf e (by simp)
    have hd1 : X.A.in1.handled = none := I.ok.hd hc
    obtain ⟨_, _, _, hobj⟩ := hC.obj
    have hTy : s.TypeIs (.ref e) "itertools.combinations" := ⟨_, hobj, rfl⟩
    have fin : ∀ (h' : Heap) (x : Addr), (∀ b o, b ≠ e → s.heap.get? b = some o → h'.get? b = some o) → (∃ o, h'.get? x = some o ∧ o.cls = .type "StopIteration") → Inv X pins σ H { s with heap := h', toks := s.toks } := fun h' x c3 _ => I.turned (fun b o hb q => c3 b o hb q) f0 f1 f3 f4 f5
    unfold pyNext
    refine wpAny_bind (wpAny_attempt (wpAny_callSpecial?_slot (name := Str.ofString "__next__") hTy F.slot_comb_next
      (wpAny_call_entry F.slot_comb_next hTy F.entry_comb_next ?_ (F.args_comb_next_1 _))))
    rcases hC with ⟨rfl, res, h0⟩ | ⟨k, is, res, rfl, hk, h1⟩
    · have es : st0 n r = 2 := by
        have hg' : chs n r 0 = none := hg
        unfold chs at hg'
        unfold st0
        split at hg'
        · rename_i z
          rw [if_pos z]
        · cases hg'
      rw [es] at h0
      refine comb_end2 hd1 h0 fun h' x c3 hx => ?_
      refine wpAny_bind (wpAny_isInstance (T := "StopIteration") (b := true) hx isSubtype_stop ?_)
      exact wpAny_pure ⟨rfl, fin h' x (fun b o _ q => c3 b o q) hx⟩
    · have hn : nxc acc.size is = none := by
        rw [hz]
        have : (chs n r k).bind (nxc n) = none := hg
        rw [hk] at this
        exact this
      refine comb_end1 hd1 h1 hT hn fun h' x c3 hx => ?_
      refine wpAny_bind (wpAny_isInstance (T := "StopIteration") (b := true) hx isSubtype_stop ?_)
      exact wpAny_pure ⟨rfl, fin h' x c3 hx⟩
  self := fun A i s Q E st h => by
    obtain ⟨_, _, _, hobj⟩ := st.1.obj
    exact comb_iter hobj h
/-- range(n), kept as a value -/
theorem cr_range1 {X : Cx} : CallR X (.type "range") (fun vs H Q => ∃ j, vs = [V.int j] ∧ ∀ p, H p = none → Q (.ref p) (upd H p (.rng 0 j))) := by
  intro pins s σ H xs us Q I rs h
  obtain ⟨j, rfl, q⟩ := h
  cases rs with
  | cons r1 rs =>
    cases rs
    obtain ⟨t, rfl⟩ := r1
    refine call_range_1 ⟨.ref s.heap.objs.size, upd H s.heap.objs.size (.rng 0 j), I.laid (t' := s.toks + 1 + 1) (fun b o e => Heap.get?_push_of_some _ e) (Nat.le_refl _) ?_, rfl, q _ (I.hok.fresh (Nat.le_refl _))⟩
    exact ⟨_, _, _, IsRange.new _ _ _ _ _ _ _⟩
def iComb (ta : TA) : TI := fun σ H R => ta σ H fun vs H1 => ∃ (r : Addr) (n m : Nat), vs = [.ref r, .int m] ∧ H1 r = some (.rng 0 n) ∧ n ≤ 1000 ∧ m ≤ 1000 ∧ R (ItC n m) H1
theorem pi_comb {X : Cx} {tg e1 e2 : Expr} {x : Str} {ta : TA} {p pos : Pos} (hc : X.calm = true) (hg : Gl X x) (hm : X.mg x = some (.type "itertools.combinations")) (ha : PA X [e1, e2] ta) (hs : starEach [e1, e2] X.env = (false, eval e1 X.env) :: starEach [e2] X.env := by rfl)
    (hpl : (backTo pos (starEach [e2] X.env)).any (·.1) = false := by rfl) (hdb : (x == ("__debug__" : Str)) = false := by decide) :
    PI X tg (.Call (.Name x p) [e1, e2] [] pos) (iComb ta) := by
  refine ⟨fun pins s σ H R I h => Call_ (ld_glob I hg hm (PyProof.Rows.callWith_type1 (thn (ha.run pos pins s σ H _ I h) fun us s1 ⟨vs, H1, I1, r1, q1⟩ => ?_) hs hpl) hdb)⟩
  obtain ⟨r, n, m, rfl, hr, hn, hm', q⟩ := q1
  cases r1 with
  | cons r0 rr =>
    cases rr with
    | cons r2 rr =>
      cases rr
      cases r0
      obtain ⟨t, rfl⟩ := r2
      obtain ⟨t0, u0, v0, hR⟩ : ∃ t u v, IsRange s1.heap r 0 n 1 t u v := I1.hok r _ hr
      have hsm : Builtin.Range.small 0 (n : Int) 1 = true := small_one (by decide) (by decide) (by omega) (by omega)
      have hsz : Builtin.Range.rangeSize 0 (n : Int) 1 = n := by
        rw [rangeSize_one]
        split
        · exact Int.sub_zero _
        · show (0 : Int) = (n : Int)
          omega
      refine comb_call (I1.ok.hd hc) hR hsm hsz hn hm' fun h1 h' tk acc k1 k2 hacc hT hC => comb_iter hC ?_
      have kk : ∀ b o, s1.heap.get? b = some o → h'.get? b = some o := fun b o e => k2 b o (k1 b o e)
      have I2 : L2.Inv X pins σ H1 { s1 with heap := h1, toks := tk } := I1.kept k1
      have lb : ∀ b ∈ [h1.objs.size + 1, h1.objs.size], h1.objs.size ≤ b := fun b hb => by
        simp only [List.mem_cons, List.not_mem_nil, or_false] at hb
        rcases hb with rfl | rfl <;> omega
      exact ⟨h1.objs.size + 1, [h1.objs.size + 1, h1.objs.size], _, _, H1, rfl, I1.kept kk, turn_comb hacc hm' (h1.objs.size + 1) h1.objs.size (Nat.ne_of_lt (Nat.lt_succ_self _)), ⟨.inl ⟨rfl, _, hC⟩, hT⟩, fun b hb => I2.fpOk (lb b hb) (I2.hok.fresh (lb b hb)), q⟩
/-- the choices, told as a list -/
theorem walk_comb {n r : Nat} {L : List (List Nat)} (h : ∀ i, chs n r i = L[i]?) : Walk (ItC n r) L.length (fun _ => True) (fun i H x H' => ∃ T js, x = .ref T ∧ H T = none ∧ H' = upd H T (.tup (natsV js)) ∧ L[i]? = some js) := by
  refine ⟨fun i H hi _ => ?_, fun H _ => ?_, fun i x H H' hi _ y => ?_⟩
  · show (chs n r i).isSome = true
    rw [h, List.getElem?_eq_getElem hi]
    rfl
  · show chs n r L.length = none
    rw [h, List.getElem?_eq_none (Nat.le_refl _)]
  · obtain ⟨T, js, a, b, c, d⟩ := y
    exact ⟨T, js, a, b, c, by rw [← h]; exact d⟩
theorem chs_none {n r i j : Nat} (h : chs n r i = none) (hj : i ≤ j) : chs n r j = none := by
  induction hj with
  | refl => exact h
  | step _ ih =>
    show (chs n r _).bind (nxc n) = none
    rw [ih]
    rfl
/-- the list of choices, found by reckoning -/
theorem chs_of {n r : Nat} {L : List (List Nat)} (h1 : ∀ i < L.length + 1, chs n r i = L[i]?) : ∀ i, chs n r i = L[i]? := fun i => by
  rcases Nat.lt_or_ge i (L.length + 1) with z | z
  · exact h1 i z
  · rw [List.getElem?_eq_none (by omega)]
    exact chs_none ((h1 L.length (by omega)).trans (List.getElem?_eq_none (Nat.le_refl _))) (by omega)
end TL
namespace TL
example : ∀ i, chs 6 2 i = [[0, 1], [0, 2], [0, 3], [0, 4], [0, 5], [1, 2], [1, 3], [1, 4], [1, 5], [2, 3], [2, 4], [2, 5], [3, 4], [3, 5], [4, 5]][i]? := chs_of (by decide +kernel)
end TL
namespace TL
open PySem L2

def top (i : Nat) : Stmt := PySem.Challenge.pw_turnsleft_k34_anchors_told.main.body.getD i (.Pass ⟨0, 0, 0, 0⟩)
abbrev s_is_number : Stmt := top 8
abbrev N_is_number : List Str := ["value"]
theorem sc_is_number : FnScope N_is_number ["value"] (defScope s_is_number) := ⟨rfl, rfl, rfl, by decide +kernel, rfl, by decide +kernel, by decide +kernel⟩
abbrev s_is_listed : Stmt := top 9
abbrev N_is_listed : List Str := ["value"]
theorem sc_is_listed : FnScope N_is_listed ["value"] (defScope s_is_listed) := ⟨rfl, rfl, rfl, by decide +kernel, rfl, by decide +kernel, by decide +kernel⟩
abbrev s_are_numbers : Stmt := top 10
abbrev N_are_numbers : List Str := ["value", "many", "item"]
theorem sc_are_numbers : FnScope N_are_numbers ["value", "many"] (defScope s_are_numbers) := ⟨rfl, rfl, rfl, by decide +kernel, rfl, by decide +kernel, by decide +kernel⟩
abbrev s_are_bits : Stmt := top 11
abbrev N_are_bits : List Str := ["value", "many", "item"]
theorem sc_are_bits : FnScope N_are_bits ["value", "many"] (defScope s_are_bits) := ⟨rfl, rfl, rfl, by decide +kernel, rfl, by decide +kernel, by decide +kernel⟩
abbrev s__filled_from : Stmt := top 14
abbrev N__filled_from : List Str := ["rows", "first", "column", "at"]
theorem sc__filled_from : FnScope N__filled_from ["rows", "first", "column"] (defScope s__filled_from) := ⟨rfl, rfl, rfl, by decide +kernel, rfl, by decide +kernel, by decide +kernel⟩
abbrev s__cleared : Stmt := top 15
abbrev N__cleared : List Str := ["matrix", "rows", "width", "rank", "sign", "last", "column", "found", "head", "at", "item", "row", "own", "top"]
theorem sc__cleared : FnScope N__cleared ["matrix"] (defScope s__cleared) := ⟨rfl, rfl, rfl, by decide +kernel, rfl, by decide +kernel, by decide +kernel⟩
abbrev s_determinant : Stmt := top 16
abbrev N_determinant : List Str := ["matrix", "rank", "value"]
theorem sc_determinant : FnScope N_determinant ["matrix"] (defScope s_determinant) := ⟨rfl, rfl, rfl, by decide +kernel, rfl, by decide +kernel, by decide +kernel⟩
abbrev s_rank_of : Stmt := top 17
abbrev N_rank_of : List Str := ["matrix", "rank", "_"]
theorem sc_rank_of : FnScope N_rank_of ["matrix"] (defScope s_rank_of) := ⟨rfl, rfl, rfl, by decide +kernel, rfl, by decide +kernel, by decide +kernel⟩
abbrev s_Wedge_init : Stmt := inClass (top 20) 0
abbrev N_Wedge_init : List Str := ["self", "pairs", "bits"]
theorem sc_Wedge_init : FnScope N_Wedge_init ["self", "pairs", "bits"] (defScope s_Wedge_init) := ⟨rfl, rfl, rfl, by decide +kernel, rfl, by decide +kernel, by decide +kernel⟩
abbrev s_Wedge_pairs : Stmt := inClass (top 20) 1
abbrev N_Wedge_pairs : List Str := ["self"]
theorem sc_Wedge_pairs : FnScope N_Wedge_pairs ["self"] (defScope s_Wedge_pairs) := ⟨rfl, rfl, rfl, by decide +kernel, rfl, by decide +kernel, by decide +kernel⟩
abbrev s_Wedge_matrix : Stmt := inClass (top 20) 4
abbrev N_Wedge_matrix : List Str := ["self", "matrix", "p", "q", "number", "_"]
theorem sc_Wedge_matrix : FnScope N_Wedge_matrix ["self"] (defScope s_Wedge_matrix) := ⟨rfl, rfl, rfl, by decide +kernel, rfl, by decide +kernel, by decide +kernel⟩
abbrev s_Wedge_flat : Stmt := inClass (top 20) 5
abbrev N_Wedge_flat : List Str := ["self"]
theorem sc_Wedge_flat : FnScope N_Wedge_flat ["self"] (defScope s_Wedge_flat) := ⟨rfl, rfl, rfl, by decide +kernel, rfl, by decide +kernel, by decide +kernel⟩
abbrev s_Wedge_rank : Stmt := inClass (top 20) 6
abbrev N_Wedge_rank : List Str := ["self"]
theorem sc_Wedge_rank : FnScope N_Wedge_rank ["self"] (defScope s_Wedge_rank) := ⟨rfl, rfl, rfl, by decide +kernel, rfl, by decide +kernel, by decide +kernel⟩
abbrev s_Wedge_owed : Stmt := inClass (top 20) 7
abbrev N_Wedge_owed : List Str := ["self"]
theorem sc_Wedge_owed : FnScope N_Wedge_owed ["self"] (defScope s_Wedge_owed) := ⟨rfl, rfl, rfl, by decide +kernel, rfl, by decide +kernel, by decide +kernel⟩
abbrev s_Wedge_neg : Stmt := inClass (top 20) 12
abbrev N_Wedge_neg : List Str := ["self", "number"]
theorem sc_Wedge_neg : FnScope N_Wedge_neg ["self"] (defScope s_Wedge_neg) := ⟨rfl, rfl, rfl, by decide +kernel, rfl, by decide +kernel, by decide +kernel⟩
abbrev s_Wedge_mul : Stmt := inClass (top 20) 13
abbrev N_Wedge_mul : List Str := ["self", "k", "number", "bit"]
theorem sc_Wedge_mul : FnScope N_Wedge_mul ["self", "k"] (defScope s_Wedge_mul) := ⟨rfl, rfl, rfl, by decide +kernel, rfl, by decide +kernel, by decide +kernel⟩
abbrev s_Wedge_rmul : Stmt := inClass (top 20) 14
abbrev N_Wedge_rmul : List Str := ["self", "k", "number", "bit"]
theorem sc_Wedge_rmul : FnScope N_Wedge_rmul ["self", "k"] (defScope s_Wedge_rmul) := ⟨rfl, rfl, rfl, by decide +kernel, rfl, by decide +kernel, by decide +kernel⟩
abbrev s__place_of : Stmt := top 21
abbrev N__place_of : List Str := ["value"]
theorem sc__place_of : FnScope N__place_of ["value"] (defScope s__place_of) := ⟨rfl, rfl, rfl, by decide +kernel, rfl, by decide +kernel, by decide +kernel⟩
abbrev s_square_at : Stmt := top 22
abbrev N_square_at : List Str := ["wedge", "primes", "places", "matrix", "prime", "p", "q"]
theorem sc_square_at : FnScope N_square_at ["wedge", "primes"] (defScope s_square_at) := ⟨rfl, rfl, rfl, by decide +kernel, rfl, by decide +kernel, by decide +kernel⟩
abbrev s__first_anchor : Stmt := top 24
abbrev N__first_anchor : List Str := ["wedge", "many", "places", "primes", "place"]
theorem sc__first_anchor : FnScope N__first_anchor ["wedge", "many"] (defScope s__first_anchor) := ⟨rfl, rfl, rfl, by decide +kernel, rfl, by decide +kernel, by decide +kernel⟩
abbrev s_anchor_of : Stmt := top 25
abbrev N_anchor_of : List Str := ["wedge"]
theorem sc_anchor_of : FnScope N_anchor_of ["wedge"] (defScope s_anchor_of) := ⟨rfl, rfl, rfl, by decide +kernel, rfl, by decide +kernel, by decide +kernel⟩
abbrev s_l_bag : Stmt := top 27
abbrev N_l_bag : List Str := ["_law_script", "_law_seed", "_law_cell"]
theorem sc_l_bag : FnScope N_l_bag ["_law_script"] (defScope s_l_bag) := ⟨rfl, rfl, rfl, by decide +kernel, rfl, by decide +kernel, by decide +kernel⟩
abbrev s_l_draw : Stmt := top 28
abbrev N_l_draw : List Str := ["_law_bag_here", "_law_many", "_law_cell", "_law_digit", "_law_seed"]
theorem sc_l_draw : FnScope N_l_draw ["_law_bag_here", "_law_many"] (defScope s_l_draw) := ⟨rfl, rfl, rfl, by decide +kernel, rfl, by decide +kernel, by decide +kernel⟩
abbrev s_l_of : Stmt := top 29
abbrev N_l_of : List Str := ["_law_bag_here", "_law_things"]
theorem sc_l_of : FnScope N_l_of ["_law_bag_here", "_law_things"] (defScope s_l_of) := ⟨rfl, rfl, rfl, by decide +kernel, rfl, by decide +kernel, by decide +kernel⟩
abbrev s_l_mixed : Stmt := top 30
abbrev N_l_mixed : List Str := ["_law_bag_here", "_law_things", "_law_found", "_law_thing"]
theorem sc_l_mixed : FnScope N_l_mixed ["_law_bag_here", "_law_things"] (defScope s_l_mixed) := ⟨rfl, rfl, rfl, by decide +kernel, rfl, by decide +kernel, by decide +kernel⟩
abbrev s_l_like : Stmt := top 31
abbrev N_l_like : List Str := ["_law_found", "_law_due", "_law_a", "_law_b"]
theorem sc_l_like : FnScope N_l_like ["_law_found", "_law_due"] (defScope s_l_like) := ⟨rfl, rfl, rfl, by decide +kernel, rfl, by decide +kernel, by decide +kernel⟩
abbrev s_l_places : Stmt := top 32
abbrev N_l_places : List Str := []
theorem sc_l_places : FnScope N_l_places [] (defScope s_l_places) := ⟨rfl, rfl, rfl, by decide +kernel, rfl, by decide +kernel, by decide +kernel⟩
abbrev s_l_choices : Stmt := top 33
abbrev N_l_choices : List Str := ["_law_size", "_law_found", "_law_k", "_law_more", "_law_one", "_law_first", "_law_j"]
theorem sc_l_choices : FnScope N_l_choices ["_law_size"] (defScope s_l_choices) := ⟨rfl, rfl, rfl, by decide +kernel, rfl, by decide +kernel, by decide +kernel⟩
abbrev s_l_square : Stmt := top 34
abbrev N_l_square : List Str := ["_law_table", "_law_found", "_law_number", "_law_p", "_law_q"]
theorem sc_l_square : FnScope N_l_square ["_law_table"] (defScope s_l_square) := ⟨rfl, rfl, rfl, by decide +kernel, rfl, by decide +kernel, by decide +kernel⟩
abbrev s_l_pfaffian : Stmt := top 35
abbrev N_l_pfaffian : List Str := ["_law_matrix", "_law_places_here", "_law_total", "_law_sign", "_law_k"]
theorem sc_l_pfaffian : FnScope N_l_pfaffian ["_law_matrix", "_law_places_here"] (defScope s_l_pfaffian) := ⟨rfl, rfl, rfl, by decide +kernel, rfl, by decide +kernel, by decide +kernel⟩
abbrev s_l_owed : Stmt := top 36
abbrev N_l_owed : List Str := ["_law_table", "_law_matrix", "_law_half", "_law_places_here"]
theorem sc_l_owed : FnScope N_l_owed ["_law_table"] (defScope s_l_owed) := ⟨rfl, rfl, rfl, by decide +kernel, rfl, by decide +kernel, by decide +kernel⟩
abbrev s_l_vector : Stmt := top 37
abbrev N_l_vector : List Str := ["_law_bag_here", "_law_k"]
theorem sc_l_vector : FnScope N_l_vector ["_law_bag_here"] (defScope s_l_vector) := ⟨rfl, rfl, rfl, by decide +kernel, rfl, by decide +kernel, by decide +kernel⟩
abbrev s_l_numbers : Stmt := top 38
abbrev N_l_numbers : List Str := ["_law_bag_here", "_law_size", "_law_way", "_law_found", "_law_some", "_law_k", "_law_u", "_law_v", "_law_many", "_law_p", "_law_q", "_law_a"]
theorem sc_l_numbers : FnScope N_l_numbers ["_law_bag_here", "_law_size"] (defScope s_l_numbers) := ⟨rfl, rfl, rfl, by decide +kernel, rfl, by decide +kernel, by decide +kernel⟩
abbrev s_l_bit_row : Stmt := top 39
abbrev N_l_bit_row : List Str := ["_law_bag_here", "_law_k"]
theorem sc_l_bit_row : FnScope N_l_bit_row ["_law_bag_here"] (defScope s_l_bit_row) := ⟨rfl, rfl, rfl, by decide +kernel, rfl, by decide +kernel, by decide +kernel⟩
abbrev s_l_determinant : Stmt := top 40
abbrev N_l_determinant : List Str := ["_law_matrix", "_law_rows", "_law_sign", "_law_last", "_law_size", "_law_k", "_law_some", "_law_i", "_law_j", "_law_row"]
theorem sc_l_determinant : FnScope N_l_determinant ["_law_matrix"] (defScope s_l_determinant) := ⟨rfl, rfl, rfl, by decide +kernel, rfl, by decide +kernel, by decide +kernel⟩
abbrev s_l_anchor : Stmt := top 41
abbrev N_l_anchor : List Str := ["_law_table", "_law_matrix", "_law_primes", "_law_places_here", "_law_p", "_law_q"]
theorem sc_l_anchor : FnScope N_l_anchor ["_law_table"] (defScope s_l_anchor) := ⟨rfl, rfl, rfl, by decide +kernel, rfl, by decide +kernel, by decide +kernel⟩
abbrev s_law : Stmt := top 42
abbrev N_law : List Str := ["_law_script", "_law_bag_here", "_law_lap", "_law_table", "_law_row", "_law_many", "_law_due", "_law_mine", "_law_primes", "_law_matrix", "_law_places_here", "_law_square_here", "_law_one", "_law_p", "_law_q"]
theorem sc_law : FnScope N_law ["_law_script"] (defScope s_law) := ⟨rfl, rfl, rfl, by decide +kernel, rfl, by decide +kernel, by decide +kernel⟩
structure InsOk (K : PySem.W.Frag) (C : Addr) : Prop where
  ca : PySem.W.findIn K (.ref C) "__class__" = some (some (.builtin "object.__class__"))
  cn : PySem.W.specialIn K (.builtin "object.__class__") "__get__" = some (some (.builtin "getset_descriptor.__get__"))
  ct : PySem.W.takesIn K (.builtin "object.__class__") = some true
  cm : PySem.W.mroIn K C (.type "object") = some true
  me : PySem.W.kitOne K (.ref C) (.ref C) = some true
def PR : List (Nat × Nat) := [(0, 1), (0, 2), (0, 3), (0, 4), (0, 5), (1, 2), (1, 3), (1, 4), (1, 5), (2, 3), (2, 4), (2, 5), (3, 4), (3, 5), (4, 5)]
set_option maxHeartbeats 0 in
structure Tx (K : PySem.W.Frag) (mg : Str → Option Value) : Type where
  z_str : mg "str" = none
  z_len : mg "len" = none
  z_int : mg "int" = none
  z_isinstance : mg "isinstance" = none
  z_list : mg "list" = none
  z_tuple : mg "tuple" = none
  z_bool : mg "bool" = none
  z_all : mg "all" = none
  z_any : mg "any" = none
  z_zip : mg "zip" = none
  z_range : mg "range" = none
  C_Wedge : Addr
  c_Wedge : Cls K C_Wedge
  g_Wedge : mg "Wedge" = some (.ref C_Wedge)
  n_Wedge_pairs : NoAttr K C_Wedge "_pairs"
  n_Wedge_bits : NoAttr K C_Wedge "_bits"
  i_Wedge : InsOk K C_Wedge
  e_PRIMES : Addr
  m_PRIMES : mg "PRIMES" = some (.ref e_PRIMES)
  q_PRIMES : ∀ H : Hp, SqT K H e_PRIMES [.int 2, .int 3, .int 5, .int 7, .int 11, .int 13]
  m_combinations : mg "combinations" = some (.type "itertools.combinations")
  e_PAIRS : Addr
  m_PAIRS : mg "PAIRS" = some (.ref e_PAIRS)
  l_PAIRS : ∃ xs : List V, xs.length = 15 ∧ ∀ H : Hp, SqT K H e_PAIRS xs
  p_PAIRS : ∃ as : List Addr, as.length = 15 ∧ (∀ H : Hp, SqT K H e_PAIRS (as.map V.ref)) ∧ ∀ (k : Nat) (a : Addr), as[k]? = some a → ∃ i j : Nat, PR[k]? = some (i, j) ∧ ∀ H : Hp, SqT K H a [.int (i : Int), .int (j : Int)]
  e_bits : Addr
  q_bits : ∀ H : Hp, SqT K H e_bits [.int 0, .int 0, .int 0, .int 0, .int 0, .int 0]
  f_is_number : Addr
  d_is_number : FuncData
  F_is_number : Fun K "is_number" "is_number" s_is_number f_is_number d_is_number
  b_is_number : Binds K d_is_number ["value"] []
  m_is_number : mg "is_number" = some (.ref f_is_number)
  f_is_listed : Addr
  d_is_listed : FuncData
  F_is_listed : Fun K "is_listed" "is_listed" s_is_listed f_is_listed d_is_listed
  b_is_listed : Binds K d_is_listed ["value"] []
  m_is_listed : mg "is_listed" = some (.ref f_is_listed)
  f_are_numbers : Addr
  d_are_numbers : FuncData
  F_are_numbers : Fun K "are_numbers" "are_numbers" s_are_numbers f_are_numbers d_are_numbers
  b_are_numbers : Binds K d_are_numbers ["value", "many"] []
  m_are_numbers : mg "are_numbers" = some (.ref f_are_numbers)
  f_are_bits : Addr
  d_are_bits : FuncData
  F_are_bits : Fun K "are_bits" "are_bits" s_are_bits f_are_bits d_are_bits
  b_are_bits : Binds K d_are_bits ["value", "many"] []
  m_are_bits : mg "are_bits" = some (.ref f_are_bits)
  f__filled_from : Addr
  d__filled_from : FuncData
  F__filled_from : Fun K "_filled_from" "_filled_from" s__filled_from f__filled_from d__filled_from
  b__filled_from : Binds K d__filled_from ["rows", "first", "column"] []
  m__filled_from : mg "_filled_from" = some (.ref f__filled_from)
  f__cleared : Addr
  d__cleared : FuncData
  F__cleared : Fun K "_cleared" "_cleared" s__cleared f__cleared d__cleared
  b__cleared : Binds K d__cleared ["matrix"] []
  m__cleared : mg "_cleared" = some (.ref f__cleared)
  f_determinant : Addr
  d_determinant : FuncData
  F_determinant : Fun K "determinant" "determinant" s_determinant f_determinant d_determinant
  b_determinant : Binds K d_determinant ["matrix"] []
  m_determinant : mg "determinant" = some (.ref f_determinant)
  f_rank_of : Addr
  d_rank_of : FuncData
  F_rank_of : Fun K "rank_of" "rank_of" s_rank_of f_rank_of d_rank_of
  b_rank_of : Binds K d_rank_of ["matrix"] []
  m_rank_of : mg "rank_of" = some (.ref f_rank_of)
  f_Wedge_init : Addr
  d_Wedge_init : FuncData
  F_Wedge_init : FunD K "__init__" "Wedge.__init__" (defArgs s_Wedge_init) (defBody s_Wedge_init) (defScope s_Wedge_init) [V.ref e_bits] [] f_Wedge_init d_Wedge_init
  ds_Wedge_init : List Value
  v_Wedge_init : Vals [V.ref e_bits] ds_Wedge_init
  b_Wedge_init : Binds K d_Wedge_init ["self", "pairs", "bits"] []
  b1_Wedge_init : Binds K d_Wedge_init ["self", "pairs", "bits"] ds_Wedge_init
  k_Wedge : Mk K C_Wedge f_Wedge_init
  f_Wedge_pairs : Addr
  d_Wedge_pairs : FuncData
  F_Wedge_pairs : Fun K "pairs" "Wedge.pairs" s_Wedge_pairs f_Wedge_pairs d_Wedge_pairs
  b_Wedge_pairs : Binds K d_Wedge_pairs ["self"] []
  a_Wedge_pairs : Meth K C_Wedge "pairs" f_Wedge_pairs
  f_Wedge_matrix : Addr
  d_Wedge_matrix : FuncData
  F_Wedge_matrix : Fun K "matrix" "Wedge.matrix" s_Wedge_matrix f_Wedge_matrix d_Wedge_matrix
  b_Wedge_matrix : Binds K d_Wedge_matrix ["self"] []
  a_Wedge_matrix : Meth K C_Wedge "matrix" f_Wedge_matrix
  f_Wedge_flat : Addr
  d_Wedge_flat : FuncData
  F_Wedge_flat : Fun K "flat" "Wedge.flat" s_Wedge_flat f_Wedge_flat d_Wedge_flat
  b_Wedge_flat : Binds K d_Wedge_flat ["self"] []
  p_Wedge_flat : Addr
  P_Wedge_flat : PropOf K C_Wedge "flat" p_Wedge_flat f_Wedge_flat
  f_Wedge_rank : Addr
  d_Wedge_rank : FuncData
  F_Wedge_rank : Fun K "rank" "Wedge.rank" s_Wedge_rank f_Wedge_rank d_Wedge_rank
  b_Wedge_rank : Binds K d_Wedge_rank ["self"] []
  p_Wedge_rank : Addr
  P_Wedge_rank : PropOf K C_Wedge "rank" p_Wedge_rank f_Wedge_rank
  f_Wedge_owed : Addr
  d_Wedge_owed : FuncData
  F_Wedge_owed : Fun K "owed" "Wedge.owed" s_Wedge_owed f_Wedge_owed d_Wedge_owed
  b_Wedge_owed : Binds K d_Wedge_owed ["self"] []
  p_Wedge_owed : Addr
  P_Wedge_owed : PropOf K C_Wedge "owed" p_Wedge_owed f_Wedge_owed
  f_Wedge_neg : Addr
  d_Wedge_neg : FuncData
  F_Wedge_neg : Fun K "__neg__" "Wedge.__neg__" s_Wedge_neg f_Wedge_neg d_Wedge_neg
  b_Wedge_neg : Binds K d_Wedge_neg ["self"] []
  a_Wedge_neg : Meth K C_Wedge "__neg__" f_Wedge_neg
  f_Wedge_mul : Addr
  d_Wedge_mul : FuncData
  F_Wedge_mul : Fun K "__mul__" "Wedge.__mul__" s_Wedge_mul f_Wedge_mul d_Wedge_mul
  b_Wedge_mul : Binds K d_Wedge_mul ["self", "k"] []
  a_Wedge_mul : Meth K C_Wedge "__mul__" f_Wedge_mul
  f_Wedge_rmul : Addr
  d_Wedge_rmul : FuncData
  F_Wedge_rmul : Fun K "__rmul__" "Wedge.__rmul__" s_Wedge_rmul f_Wedge_rmul d_Wedge_rmul
  b_Wedge_rmul : Binds K d_Wedge_rmul ["self", "k"] []
  a_Wedge_rmul : Meth K C_Wedge "__rmul__" f_Wedge_rmul
  f__place_of : Addr
  d__place_of : FuncData
  F__place_of : Fun K "_place_of" "_place_of" s__place_of f__place_of d__place_of
  b__place_of : Binds K d__place_of ["value"] []
  m__place_of : mg "_place_of" = some (.ref f__place_of)
  f_square_at : Addr
  d_square_at : FuncData
  F_square_at : Fun K "square_at" "square_at" s_square_at f_square_at d_square_at
  b_square_at : Binds K d_square_at ["wedge", "primes"] []
  m_square_at : mg "square_at" = some (.ref f_square_at)
  f__first_anchor : Addr
  d__first_anchor : FuncData
  F__first_anchor : Fun K "_first_anchor" "_first_anchor" s__first_anchor f__first_anchor d__first_anchor
  b__first_anchor : Binds K d__first_anchor ["wedge", "many"] []
  m__first_anchor : mg "_first_anchor" = some (.ref f__first_anchor)
  f_anchor_of : Addr
  d_anchor_of : FuncData
  F_anchor_of : Fun K "anchor_of" "anchor_of" s_anchor_of f_anchor_of d_anchor_of
  b_anchor_of : Binds K d_anchor_of ["wedge"] []
  m_anchor_of : mg "anchor_of" = some (.ref f_anchor_of)
  f_l_bag : Addr
  d_l_bag : FuncData
  F_l_bag : Fun K "_law_bag" "_law_bag" s_l_bag f_l_bag d_l_bag
  b_l_bag : Binds K d_l_bag ["_law_script"] []
  m_l_bag : mg "_law_bag" = some (.ref f_l_bag)
  f_l_draw : Addr
  d_l_draw : FuncData
  F_l_draw : Fun K "_law_draw" "_law_draw" s_l_draw f_l_draw d_l_draw
  b_l_draw : Binds K d_l_draw ["_law_bag_here", "_law_many"] []
  m_l_draw : mg "_law_draw" = some (.ref f_l_draw)
  f_l_of : Addr
  d_l_of : FuncData
  F_l_of : Fun K "_law_of" "_law_of" s_l_of f_l_of d_l_of
  b_l_of : Binds K d_l_of ["_law_bag_here", "_law_things"] []
  m_l_of : mg "_law_of" = some (.ref f_l_of)
  f_l_mixed : Addr
  d_l_mixed : FuncData
  F_l_mixed : Fun K "_law_mixed" "_law_mixed" s_l_mixed f_l_mixed d_l_mixed
  b_l_mixed : Binds K d_l_mixed ["_law_bag_here", "_law_things"] []
  m_l_mixed : mg "_law_mixed" = some (.ref f_l_mixed)
  f_l_like : Addr
  d_l_like : FuncData
  F_l_like : Fun K "_law_like" "_law_like" s_l_like f_l_like d_l_like
  b_l_like : Binds K d_l_like ["_law_found", "_law_due"] []
  m_l_like : mg "_law_like" = some (.ref f_l_like)
  f_l_places : Addr
  d_l_places : FuncData
  F_l_places : Fun K "_law_places" "_law_places" s_l_places f_l_places d_l_places
  b_l_places : Binds K d_l_places [] []
  m_l_places : mg "_law_places" = some (.ref f_l_places)
  f_l_choices : Addr
  d_l_choices : FuncData
  F_l_choices : Fun K "_law_choices" "_law_choices" s_l_choices f_l_choices d_l_choices
  b_l_choices : Binds K d_l_choices ["_law_size"] []
  m_l_choices : mg "_law_choices" = some (.ref f_l_choices)
  f_l_square : Addr
  d_l_square : FuncData
  F_l_square : Fun K "_law_square" "_law_square" s_l_square f_l_square d_l_square
  b_l_square : Binds K d_l_square ["_law_table"] []
  m_l_square : mg "_law_square" = some (.ref f_l_square)
  f_l_pfaffian : Addr
  d_l_pfaffian : FuncData
  F_l_pfaffian : Fun K "_law_pfaffian" "_law_pfaffian" s_l_pfaffian f_l_pfaffian d_l_pfaffian
  b_l_pfaffian : Binds K d_l_pfaffian ["_law_matrix", "_law_places_here"] []
  m_l_pfaffian : mg "_law_pfaffian" = some (.ref f_l_pfaffian)
  f_l_owed : Addr
  d_l_owed : FuncData
  F_l_owed : Fun K "_law_owed" "_law_owed" s_l_owed f_l_owed d_l_owed
  b_l_owed : Binds K d_l_owed ["_law_table"] []
  m_l_owed : mg "_law_owed" = some (.ref f_l_owed)
  f_l_vector : Addr
  d_l_vector : FuncData
  F_l_vector : Fun K "_law_vector" "_law_vector" s_l_vector f_l_vector d_l_vector
  b_l_vector : Binds K d_l_vector ["_law_bag_here"] []
  m_l_vector : mg "_law_vector" = some (.ref f_l_vector)
  f_l_numbers : Addr
  d_l_numbers : FuncData
  F_l_numbers : Fun K "_law_numbers" "_law_numbers" s_l_numbers f_l_numbers d_l_numbers
  b_l_numbers : Binds K d_l_numbers ["_law_bag_here", "_law_size"] []
  m_l_numbers : mg "_law_numbers" = some (.ref f_l_numbers)
  f_l_bit_row : Addr
  d_l_bit_row : FuncData
  F_l_bit_row : Fun K "_law_bit_row" "_law_bit_row" s_l_bit_row f_l_bit_row d_l_bit_row
  b_l_bit_row : Binds K d_l_bit_row ["_law_bag_here"] []
  m_l_bit_row : mg "_law_bit_row" = some (.ref f_l_bit_row)
  f_l_determinant : Addr
  d_l_determinant : FuncData
  F_l_determinant : Fun K "_law_determinant" "_law_determinant" s_l_determinant f_l_determinant d_l_determinant
  b_l_determinant : Binds K d_l_determinant ["_law_matrix"] []
  m_l_determinant : mg "_law_determinant" = some (.ref f_l_determinant)
  f_l_anchor : Addr
  d_l_anchor : FuncData
  F_l_anchor : Fun K "_law_anchor" "_law_anchor" s_l_anchor f_l_anchor d_l_anchor
  b_l_anchor : Binds K d_l_anchor ["_law_table"] []
  m_l_anchor : mg "_law_anchor" = some (.ref f_l_anchor)
  f_law : Addr
  d_law : FuncData
  F_law : Fun K "law" "law" s_law f_law d_law
  b_law : Binds K d_law ["_law_script"] []
  m_law : mg "law" = some (.ref f_law)
  sfW : PySem.W.selfFirst K C_Wedge = true
  sI : PySem.W.subIn K (.type "int") (.ref C_Wedge) = some false
  sC : PySem.W.subIn K (.ref C_Wedge) (.type "int") = some false
  iM : ∃ fo, PySem.W.findIn K (.type "int") ("__mul__" : Str) = some fo
  iR : ∃ ro, PySem.W.findIn K (.type "int") ("__rmul__" : Str) = some ro
  jInt : PySem.W.mroIn K C_Wedge (.type "int") = some false
  jBool : PySem.W.mroIn K C_Wedge (.type "bool") = some false
  jList : PySem.W.mroIn K C_Wedge (.type "list") = some false
  jStr : PySem.W.mroIn K C_Wedge (.type "str") = some false
  jTuple : PySem.W.mroIn K C_Wedge (.type "tuple") = some false
  ty_PRIMES : ∃ o, K.lookup e_PRIMES = some o ∧ o.cls = .type "tuple" ∧ o.dict = none
  kb_anchor_of : KBinds K d_anchor_of ["wedge"] ["wedge"] g01 g01
/-! ### steps of a reading -/
local macro_rules | `(tactic| walk_at "hp") => `(tactic| first | assumption | exact upd_same | (refine (upd_ne (by first | assumption | (exact Ne.symm (by assumption)))).trans ?_; walk_at "hp"))
local macro_rules | `(tactic| walk_at "ok") => `(tactic| first | (exact Or.inr ⟨by decide, by decide⟩) | (exact ⟨by decide, by decide⟩) | (exact ⟨by decide, by decide, by decide⟩) | (show _ ≠ _; omega) | (show _ ≠ _; decide) | (exact Or.inl ⟨by omega, by omega⟩) | decide)
local macro_rules | `(tactic| walk_at "sq") => `(tactic| first | assumption | exact SqL.of (by walk_at "hp") | exact SqT.of (by walk_at "hp"))
local macro_rules | `(tactic| walk_at "ty") => `(tactic| first | refine ⟨_, _, Value.type "int", Value.type "list", false, rfl, ClsV.ty _, TyX.base (TyOf.int _), kt_int_list, ?_⟩ | refine ⟨_, _, Value.type "bool", Value.type "list", false, rfl, ClsV.ty _, TyX.base (TyOf.bl _), kt_bool_list, ?_⟩ | refine ⟨_, _, Value.type "str", Value.type "list", false, rfl, ClsV.ty _, TyX.base (TyOf.str _), kt_str_list, ?_⟩ | refine ⟨_, _, Value.type "NoneType", Value.type "list", false, rfl, ClsV.ty _, TyX.base TyOf.non, kt_NoneType_list, ?_⟩ | refine ⟨_, _, Value.type "list", Value.type "list", true, rfl, ClsV.ty _, tyx_L (by walk_at "sq"), kt_list_list, ?_⟩ | refine ⟨_, _, Value.type "tuple", Value.type "list", false, rfl, ClsV.ty _, tyx_T (by walk_at "sq"), kt_tuple_list, ?_⟩ | refine ⟨_, _, Value.type "int", Value.type "tuple", false, rfl, ClsV.ty _, TyX.base (TyOf.int _), kt_int_tuple, ?_⟩ | refine ⟨_, _, Value.type "bool", Value.type "tuple", false, rfl, ClsV.ty _, TyX.base (TyOf.bl _), kt_bool_tuple, ?_⟩ | refine ⟨_, _, Value.type "str", Value.type "tuple", false, rfl, ClsV.ty _, TyX.base (TyOf.str _), kt_str_tuple, ?_⟩ | refine ⟨_, _, Value.type "NoneType", Value.type "tuple", false, rfl, ClsV.ty _, TyX.base TyOf.non, kt_NoneType_tuple, ?_⟩ | refine ⟨_, _, Value.type "list", Value.type "tuple", false, rfl, ClsV.ty _, tyx_L (by walk_at "sq"), kt_list_tuple, ?_⟩ | refine ⟨_, _, Value.type "tuple", Value.type "tuple", true, rfl, ClsV.ty _, tyx_T (by walk_at "sq"), kt_tuple_tuple, ?_⟩ | refine ⟨_, _, Value.type "int", Value.type "bool", false, rfl, ClsV.ty _, TyX.base (TyOf.int _), kt_int_bool, ?_⟩ | refine ⟨_, _, Value.type "bool", Value.type "bool", true, rfl, ClsV.ty _, TyX.base (TyOf.bl _), kt_bool_bool, ?_⟩ | refine ⟨_, _, Value.type "str", Value.type "bool", false, rfl, ClsV.ty _, TyX.base (TyOf.str _), kt_str_bool, ?_⟩ | refine ⟨_, _, Value.type "NoneType", Value.type "bool", false, rfl, ClsV.ty _, TyX.base TyOf.non, kt_NoneType_bool, ?_⟩ | refine ⟨_, _, Value.type "list", Value.type "bool", false, rfl, ClsV.ty _, tyx_L (by walk_at "sq"), kt_list_bool, ?_⟩ | refine ⟨_, _, Value.type "tuple", Value.type "bool", false, rfl, ClsV.ty _, tyx_T (by walk_at "sq"), kt_tuple_bool, ?_⟩ | refine ⟨_, _, Value.type "int", Value.type "int", true, rfl, ClsV.ty _, TyX.base (TyOf.int _), kt_int_int, ?_⟩ | refine ⟨_, _, Value.type "bool", Value.type "int", true, rfl, ClsV.ty _, TyX.base (TyOf.bl _), kt_bool_int, ?_⟩ | refine ⟨_, _, Value.type "str", Value.type "int", false, rfl, ClsV.ty _, TyX.base (TyOf.str _), kt_str_int, ?_⟩ | refine ⟨_, _, Value.type "NoneType", Value.type "int", false, rfl, ClsV.ty _, TyX.base TyOf.non, kt_NoneType_int, ?_⟩ | refine ⟨_, _, Value.type "list", Value.type "int", false, rfl, ClsV.ty _, tyx_L (by walk_at "sq"), kt_list_int, ?_⟩ | refine ⟨_, _, Value.type "tuple", Value.type "int", false, rfl, ClsV.ty _, tyx_T (by walk_at "sq"), kt_tuple_int, ?_⟩ | refine ⟨_, _, Value.type "int", Value.type "str", false, rfl, ClsV.ty _, TyX.base (TyOf.int _), kt_int_str, ?_⟩ | refine ⟨_, _, Value.type "bool", Value.type "str", false, rfl, ClsV.ty _, TyX.base (TyOf.bl _), kt_bool_str, ?_⟩ | refine ⟨_, _, Value.type "str", Value.type "str", true, rfl, ClsV.ty _, TyX.base (TyOf.str _), kt_str_str, ?_⟩ | refine ⟨_, _, Value.type "NoneType", Value.type "str", false, rfl, ClsV.ty _, TyX.base TyOf.non, kt_NoneType_str, ?_⟩ | refine ⟨_, _, Value.type "list", Value.type "str", false, rfl, ClsV.ty _, tyx_L (by walk_at "sq"), kt_list_str, ?_⟩ | refine ⟨_, _, Value.type "tuple", Value.type "str", false, rfl, ClsV.ty _, tyx_T (by walk_at "sq"), kt_tuple_str, ?_⟩)
local macro_rules | `(tactic| walk_at "go1") => `(tactic| first
  | (refine ⟨_, rfl, ?_⟩)
  | (refine ⟨_, _, rfl, rfl, ?_⟩)
  | (refine ⟨_, _, _, _, rfl, rfl, SqL.of (by walk_at "hp"), rfl, ?_⟩)
  | (refine Or.inl ⟨_, rfl, ?_⟩)
  | (refine ⟨rfl, ?_⟩)
  | (refine ⟨_, _, rfl, .inl (SqL.of (by walk_at "hp")), ?_⟩)
  | (refine ⟨_, _, rfl, Or.inl (by assumption), ?_⟩)
  | (refine ⟨_, _, rfl, Or.inr (by assumption), ?_⟩)
  | (refine ⟨(by walk_at "ok"), ?_⟩)
  | (refine ⟨_, _, _, _, rfl, rfl, (by walk_at "hp"), rfl, ?_⟩))
local macro_rules | `(tactic| walk_at "go") => `(tactic| repeat (walk_at "go1"))
local macro_rules | `(tactic| walk_at "gt") => `(tactic| repeat (first | walk_at "go1" | walk_at "ty"))

/-! ### the law's own helpers -/
section
variable {P : Program} {w : World} {K : PySem.W.Frag} {mg : Str → Option Value} {base : Heap}
def spDraw : Sp := fun vs H Q _ => ∃ (B : Bg) (n : Int), vs = [.ref B.b, .int n] ∧ 0 < n ∧ n.natAbs < 2 ^ 200 ∧ Bag B H ∧ ∀ (d : Int) (H' : Hp), 0 ≤ d → d < n → Bag B H' → Kb B.b H H' → Q (.int d) H'
theorem ok_draw (T : Tx K mg) : FnOk P w K mg base CX0 1 T.f_l_draw T.d_l_draw ["_law_bag_here", "_law_many"] spDraw := by
  refine T.F_l_draw.ok sc_l_draw (fun vs H Q E h => ?_) (fun cdv A outer s H vs Q E hr h => ?_)
  · obtain ⟨g, n, rfl, _⟩ := h
    rfl
  obtain ⟨⟨g, L, ns⟩, n, rfl, hn, hn2, ⟨⟨i, r, z, c, hg, hi, hrr, hz, hz2⟩, hL, hne⟩, q⟩ := h
  dsimp only at hg hL hne q
  have nd := sc_l_draw.nd
  refine ⟨_, (pss_cons (ps_asg (pe_op op_add (pe_ix (show IxR _ (rIxL K) from ix_list) (pv 0) pe_int (fun _ _ => rfl)) pe_int) (pg_sub (pv 0) pe_int set_list))
    (pss_cut (ps_if (PW.pt (pw_and (pt_cmpR op_eq (pe_ix (show IxR _ (rIxL K) from ix_list) (pv 0) pe_int (fun _ _ => rfl)) pe_int (nomark _)) (pw_and1 (pt_cmpR op_lt (pe_ix (show IxR _ (rIxL K) from ix_list) (pv 0) pe_int (fun _ _ => rfl)) (pe_callB (show CallR _ _ (rLenSq K) from call_len_seq) (by rfl) T.z_len (by decide +kernel) (pa_cons (pe_ix (show IxR _ (rIxL K) from ix_list) (pv 0) pe_int (fun _ _ => rfl)) pa_nil)) (nomark _))))) (pss_cons (ps_set (i := 2) nd rfl (Or.inl rfl) (pe_ix (show IxR _ (rIxL K) from ix_list) (pe_ix (show IxR _ (rIxL K) from ix_list) (pv 0) pe_int (fun _ _ => rfl)) (pe_ix (show IxR _ (rIxL K) from ix_list) (pv 0) pe_int (fun _ _ => rfl)) (fun _ _ => rfl)))
    (pss_cons (ps_asg (pe_op op_add (pe_ix (show IxR _ (rIxL K) from ix_list) (pv 0) pe_int (fun _ _ => rfl)) pe_int) (pg_sub (pv 0) pe_int set_list))
    (pss_one (ps_if (pt_cmpR op_ge (pv 2) (pe_op op_pow pe_int pe_int) (nomark _)) (pss_one (ps_asg (pv 2) (pg_sub (pv 0) pe_int set_list))) (pss_one (ps_asg (pe_op op_modN (pe_callTy call_int1 (by rfl) T.z_int (by decide +kernel) (pa_cons (pe_op op_add (pe_op op_add (pe_op op_mul (pe_ix (show IxR _ (rIxL K) from ix_list) (pv 0) pe_int (fun _ _ => rfl)) pe_int) (pe_op op_mul (pe_op op_modN (pe_callTy call_int1 (by rfl) T.z_int (by decide +kernel) (pa_cons (pv 2) pa_nil)) pe_int) pe_int)) pe_int) pa_nil)) pe_int) (pg_sub (pv 0) pe_int set_list))))))) pss_nil)
    (pss_cons (ps_if (pt_cmpR op_gt (pe_ix (show IxR _ (rIxL K) from ix_list) (pv 0) pe_int (fun _ _ => rfl)) pe_int (nomark _)) (pss_cons (ps_set (i := 3) nd rfl (Or.inl rfl) (pe_op op_modN (pe_callTy call_int1 (by rfl) T.z_int (by decide +kernel) (pa_cons (pe_ix (show IxR _ (rIxL K) from ix_list) (pv 0) pe_int (fun _ _ => rfl)) pa_nil)) (pv 1)))
    (pss_cons (ps_asg (pe_op op_fdivW (pe_ix (show IxR _ (rIxL K) from ix_list) (pv 0) pe_int (fun _ _ => rfl)) (pv 1)) (pg_sub (pv 0) pe_int set_list))
    (pss_one (ps_ret (pv 3))))) pss_nil)
    (pss_cons (ps_set (i := 4) nd rfl (Or.inl rfl) (pe_ix (show IxR _ (rIxL K) from ix_list) (pv 0) pe_int (fun _ _ => rfl)))
    (pss_cons (ps_asg (pe_op op_modN (pe_callTy call_int1 (by rfl) T.z_int (by decide +kernel) (pa_cons (pe_op op_add (pe_op op_add (pe_op op_add (pe_op op_mul (pe_op op_mul (pv 4) (pv 4)) pe_int) (pe_op op_mul (pv 4) pe_int)) (pe_op op_mul (pe_ix (show IxR _ (rIxL K) from ix_list) (pv 0) pe_int (fun _ _ => rfl)) pe_int)) pe_int) pa_nil)) pe_int) (pg_sub (pv 0) pe_int set_list))
    (pss_one (ps_ret (pe_op op_modN (pe_callTy call_int1 (by rfl) T.z_int (by decide +kernel) (pa_cons (pe_op op_add (pe_op op_fdivN (pe_ix (show IxR _ (rIxL K) from ix_list) (pv 0) pe_int (fun _ _ => rfl)) pe_int) (pe_op op_mul (pe_op op_modN (pe_callTy call_int1 (by rfl) T.z_int (by decide +kernel) (pa_cons (pe_ix (show IxR _ (rIxL K) from ix_list) (pv 0) pe_int (fun _ _ => rfl)) pa_nil)) pe_int) pe_int)) pa_nil)) (pv 1))))))))), ?_⟩
  walk_at "go"
  refine ⟨fun σ' H' => (∃ a b : Option V, σ' = [some (.ref g), some (.int n), a, b, none]) ∧ Bag ⟨g, L, ns⟩ H' ∧ Kb g H H', ?_, ?_⟩
  · walk_at "go"
    refine ite2 (fun c1 => ?_) (fun c1 => ?_)
    · walk_at "go"
      refine ite2 (fun c2 => ?_) (fun c2 => ?_)
      · have c2' : i < (((ns.map V.int).length : Nat) : Int) := of_decide_eq_true c2
        rw [List.length_map] at c2'
        have hk : i.toNat < ns.length := by omega
        walk_at "go"
        refine ⟨L, ns.map V.int, i, V.int ns[i.toNat], rfl, rfl, SqL.of (by rw [upd_ne hne]; exact hL), at_of (j := i.toNat) (by omega) (by rw [List.getElem?_map, List.getElem?_eq_getElem hk]; rfl), ?_⟩
        walk_at "go"
        refine ite2 (fun c3 => ?_) (fun c3 => ?_)
        · have c3' := of_decide_eq_true c3
          have p18 : (0 : Int) ≤ 10 ^ Int.toNat 18 := by decide
          walk_at "go"
          exact ⟨⟨_, _, rfl⟩, ⟨⟨i + 1, _, z, c + 1, upd_same, by omega, by omega, hz, hz2⟩, by rw [upd_ne hne, upd_ne hne, upd_ne hne]; exact hL, hne⟩, (Kb.at.trans Kb.at).trans Kb.at⟩
        · walk_at "go"
          have m1 := fm (i := z * 40014 + ns[i.toNat].fmod 2147483423 * 30011 + 79) (j := 2147483563) (by decide)
          exact ⟨⟨_, _, rfl⟩, ⟨⟨i + 1, r, _, c + 1, upd_same, by omega, hrr, m1.1, by omega⟩, by rw [upd_ne hne, upd_ne hne, upd_ne hne]; exact hL, hne⟩, (Kb.at.trans Kb.at).trans Kb.at⟩
      · exact ⟨⟨_, _, rfl⟩, ⟨⟨i, r, z, c + 1, upd_same, hi, hrr, hz, hz2⟩, by rw [upd_ne hne]; exact hL, hne⟩, Kb.at⟩
    · exact ⟨⟨_, _, rfl⟩, ⟨⟨i, r, z, c + 1, upd_same, hi, hrr, hz, hz2⟩, by rw [upd_ne hne]; exact hL, hne⟩, Kb.at⟩
  · clear hg hL hne hi hrr hz hz2
    rintro σ' H' ⟨⟨a, b, rfl⟩, ⟨⟨i, r, z, c, hg, hi, hrr, hz, hz2⟩, hL, hne⟩, kb⟩
    dsimp only at hg hL hne
    walk_at "go"
    refine ite2 (fun c1 => ?_) (fun c1 => ?_)
    · have m1 := fm (i := r) (j := n) hn
      walk_at "go"
      refine ⟨wide_div hn hn2 (by decide) (by decide), ?_⟩
      walk_at "go"
      exact q _ _ m1.1 m1.2 ⟨⟨i, _, z, c, upd_same, hi, Int.ediv_nonneg hrr (by omega), hz, hz2⟩, by rw [upd_ne hne]; exact hL, hne⟩ (kb.trans Kb.at)
    · walk_at "go"
      have m1 := fm (i := z * z * 13 + z * 42013 + c * 1299709 + 52711) (j := 2147483563) (by decide)
      have m2 := fm (i := ((z * z * 13 + z * 42013 + c * 1299709 + 52711).fmod 2147483563).fdiv 89 + ((z * z * 13 + z * 42013 + c * 1299709 + 52711).fmod 2147483563).fmod 7907 * 67) (j := n) hn
      exact q _ _ m2.1 m2.2 ⟨⟨i, r, _, _, upd_same, hi, hrr, m1.1, by omega⟩, by rw [upd_ne hne]; exact hL, hne⟩ (kb.trans Kb.at)
/-- the law's bag of a script -/
def spBag (K : PySem.W.Frag) : Sp := fun vs H Q _ => ∃ (a : Addr) (ns : List Int), vs = [.ref a] ∧ SqL K H a (ns.map V.int) ∧ ns.length ≤ 63 ∧ ∀ (B : Bg) (H' : Hp), Same H H' → Bag B H' → H B.b = none → Q (.ref B.b) H'
theorem cut63 {xs : List V} (h : xs.length ≤ 63) : cutV xs none (some 63) = xs := by
  unfold cutV
  have e1 : HT.sIx xs.length 0 none = 0 := rfl
  have e2 : HT.sIx xs.length xs.length (some 63) = xs.length := by
    unfold HT.sIx
    simp
    omega
  rw [e1, e2]
  simp
theorem ok_bag (T : Tx K mg) : FnOk P w K mg base CX0 1 T.f_l_bag T.d_l_bag ["_law_script"] (spBag K) := by
  refine T.F_l_bag.ok sc_l_bag (fun vs H Q E h => ?_) (fun cdv A outer s H vs Q E hr h => ?_)
  · obtain ⟨a, ns, rfl, _⟩ := h
    rfl
  obtain ⟨a, ns, rfl, hS, h63, q⟩ := h
  have nd := sc_l_bag.nd
  have hc : cutV (ns.map V.int) none (some 63) = ns.map V.int := cut63 (by rw [List.length_map]; exact h63)
  refine ⟨_, (pss_cons (ps_set (i := 1) nd rfl (Or.inl rfl) pe_int)
    (pss_cons (ps_for PassesOwn.never rfl (show PI _ _ _ (iList K _) from pi_list (pe_slice (show SlR _ (rSlL K) from sl_list) (pv 0) po_none (po_some pe_int))) (pg_name (i := 2) nd rfl (Or.inl rfl)) (pss_one (ps_set (i := 1) nd rfl (Or.inl rfl) (pe_op op_modN (pe_callTy call_int1 (by rfl) T.z_int (by decide +kernel) (pa_cons (pe_op op_add (pe_op op_add (pe_op op_mul (pv 1) pe_int) (pe_op op_modN (pe_callTy call_int1 (by rfl) T.z_int (by decide +kernel) (pa_cons (pv 2) pa_nil)) pe_int)) pe_int) pa_nil)) pe_int))))
    (pss_one (ps_ret (pe_lst (pa_cons (pe_callTy (show CallR _ _ (rListOf K) from call_list_of) (by rfl) T.z_list (by decide +kernel) (pa_cons (pe_slice (show SlR _ (rSlL K) from sl_list) (pv 0) po_none (po_some pe_int)) pa_nil)) (pa_cons pe_int (pa_cons pe_int (pa_cons (pv 1) (pa_cons pe_int pa_nil)))))))))), ?_⟩
  refine ⟨_, rfl, _, rfl, a, _, rfl, hS, fun p hp => ?_⟩
  rw [hc]
  refine ⟨p, rfl, ⟨_, SqL.of upd_same⟩, for_list (K := K) (a := p) (xs := ns.map V.int) (fun i σ' H' => (∃ (z : Int) (v : Option V), σ' = [some (.ref a), some (.int z), v] ∧ 0 ≤ z ∧ z < 2147483648) ∧ H' = upd H p (.lst (ns.map V.int)))
    ⟨⟨12044, none, rfl, by decide, by decide⟩, rfl⟩ (fun i σ' H' _ h => by rw [h.2]; exact SqL.of upd_same) ?_ ?_⟩
  · rintro i y σ' H' hi ⟨⟨z, v, rfl, h1, h2⟩, rfl⟩
    obtain ⟨k, rfl⟩ : ∃ k, y = V.int k := by
      rw [List.getElem?_map] at hi
      cases e : ns[i]? with
      | none => rw [e] at hi; cases hi
      | some k => rw [e] at hi; exact ⟨k, (Option.some.inj hi).symm⟩
    walk_at "go"
    have m1 := fm (i := z * 48271 + k.fmod 2147483629 + 97) (j := 2147483563) (by decide)
    exact ⟨⟨_, _, rfl, m1.1, by omega⟩, rfl⟩
  · rintro σ' H' ⟨⟨z, v, rfl, h1, h2⟩, rfl⟩
    have s1 : Same H (upd H p (.lst (ns.map V.int))) := Same.new hp
    refine ⟨_, rfl, _, rfl, a, _, rfl, s1.seq hS, fun p2 hp2 => ?_⟩
    rw [hc]
    have s2 := s1.trans (Same.new (o := .lst (ns.map V.int)) hp2)
    refine ⟨_, _, rfl, .inl (SqL.of upd_same), fun p3 hp3 => ?_⟩
    have s3 := s2.trans (Same.new (o := .lst (ns.map V.int)) hp3)
    walk_at "go"
    refine ⟨(by show 5 ≤ sizeLine; decide), fun p4 hp4 => ?_⟩
    have n4 : p3 ≠ p4 := ne_of_none upd_same hp4
    exact q ⟨p4, p3, ns⟩ _ (s3.trans (Same.new hp4)) ⟨⟨0, 0, z, 0, upd_same, by decide, by decide, h1, h2⟩, by rw [upd_ne n4]; exact upd_same, n4⟩ (s3.free hp4)
/-- one of some things -/
def spOf (K : PySem.W.Frag) : Sp := fun vs H Q _ => ∃ (B : Bg) (a : Addr) (xs : List V), vs = [.ref B.b, .ref a] ∧ SqL K H a xs ∧ a ≠ B.b ∧ 0 < xs.length ∧ xs.length ≤ 1000 ∧ Bag B H ∧ ∀ (i : Nat) (v : V) (H' : Hp), xs[i]? = some v → Bag B H' → Kb B.b H H' → Q v H'
theorem Kb.seq {g : Addr} {H H' : Hp} {a : Addr} {xs : List V} (e : Kb g H H') (n : a ≠ g) (h : SqL K H a xs) : SqL K H' a xs := by
  rcases h with (h | ⟨o, h⟩) | h
  · exact .inl (.inl (e _ _ h n))
  · exact .inl (.inr ⟨o, e _ _ h n⟩)
  · exact .inr h
theorem ok_of (T : Tx K mg) : FnOk P w K mg base CX0 2 T.f_l_of T.d_l_of ["_law_bag_here", "_law_things"] (spOf K) := by
  have G_l_draw := ok_draw (P := P) (w := w) (base := base) T
  refine T.F_l_of.ok sc_l_of (fun vs H Q E h => ?_) (fun cdv A outer s H vs Q E hr h => ?_)
  · obtain ⟨B, a, xs, rfl, _⟩ := h
    rfl
  obtain ⟨B, a, xs, rfl, hS, hne, h0, h1, hB, q⟩ := h
  have nd := sc_l_of.nd
  refine ⟨_, (pss_one (ps_ret (pe_ix (show IxR _ (rIxL K) from ix_list) (pv 1) (pe_call G_l_draw (hr.mono (by decide)) (by rfl) T.m_l_draw T.F_l_draw.kp T.b_l_draw .nil pass0 (pa_cons (pv 0) (pa_cons (pe_callB (show CallR _ _ (rLenSq K) from call_len_seq) (by rfl) T.z_len (by decide +kernel) (pa_cons (pv 1) pa_nil)) pa_nil))) (fun _ _ => rfl)))), ?_⟩
  refine ⟨_, rfl, _, rfl, _, rfl, _, _, rfl, .inl hS, B, _, rfl, by omega, Nat.lt_of_le_of_lt (by omega : ((xs.length : Int)).natAbs ≤ 1000) (by decide), hB, fun d H' d0 d1 hB' kb => ?_⟩
  have hk : d.toNat < xs.length := by omega
  refine ⟨_, _, _, xs[d.toNat], rfl, rfl, kb.seq hne hS, at_of (j := d.toNat) (by omega) (List.getElem?_eq_getElem hk), ?_⟩
  exact q d.toNat _ H' (List.getElem?_eq_getElem hk) hB' kb
/-! ### equal data -/
inductive DEq (K : PySem.W.Frag) (H : Hp) : Nat → V → V → Prop where
  | non {n : Nat} : DEq K H n .non .non
  | bl {n : Nat} (b : Bool) : DEq K H n (.bl b) (.bl b)
  | int {n : Nat} (i : Int) : DEq K H n (.int i) (.int i)
  | str {n : Nat} (x : Str) : DEq K H n (.str x) (.str x)
  | lst {n : Nat} {a b : Addr} {xs ys : List V} (h1 : SqL K H a xs) (h2 : SqL K H b ys) (hlen : xs.length ≤ 100000) (hl : xs.length = ys.length) (h : ∀ (i : Nat) (x y : V), xs[i]? = some x → ys[i]? = some y → DEq K H n x y) : DEq K H (n + 1) (.ref a) (.ref b)
  | tup {n : Nat} {a b : Addr} {xs ys : List V} (h1 : SqT K H a xs) (h2 : SqT K H b ys) (hlen : xs.length ≤ 100000) (hl : xs.length = ys.length) (h : ∀ (i : Nat) (x y : V), xs[i]? = some x → ys[i]? = some y → DEq K H n x y) : DEq K H (n + 1) (.ref a) (.ref b)
theorem DEq.same {n : Nat} {H H' : Hp} {x y : V} (h : DEq K H n x y) (s : Same H H') : DEq K H' n x y := by
  induction h with
  | non => exact .non
  | bl b => exact .bl b
  | int i => exact .int i
  | str x => exact .str x
  | lst h1 h2 hlen hl _ ih => exact .lst (s.seq h1) (s.seq h2) hlen hl ih
  | tup h1 h2 hlen hl _ ih => exact .tup (seqT s h1) (seqT s h2) hlen hl ih
end

end TL
namespace TL.W
open TL
open PySem L2

/-! ### steps of a reading -/
local macro_rules | `(tactic| walk_at "hp") => `(tactic| first | assumption | exact upd_same | (refine (upd_ne (by first | assumption | (exact Ne.symm (by assumption)))).trans ?_; walk_at "hp"))
local macro_rules | `(tactic| walk_at "ok") => `(tactic| first | (exact Or.inr ⟨by decide, by decide⟩) | (exact ⟨by decide, by decide⟩) | (exact ⟨by decide, by decide, by decide⟩) | (show _ ≠ _; omega) | (show _ ≠ _; decide) | (exact Or.inl ⟨by omega, by omega⟩) | decide)
local macro_rules | `(tactic| walk_at "sq") => `(tactic| first | assumption | exact SqL.of (by walk_at "hp") | exact SqT.of (by walk_at "hp"))
local macro_rules | `(tactic| walk_at "ty") => `(tactic| first | refine ⟨_, _, Value.type "int", Value.type "list", false, rfl, ClsV.ty _, TyX.base (TyOf.int _), kt_int_list, ?_⟩ | refine ⟨_, _, Value.type "bool", Value.type "list", false, rfl, ClsV.ty _, TyX.base (TyOf.bl _), kt_bool_list, ?_⟩ | refine ⟨_, _, Value.type "str", Value.type "list", false, rfl, ClsV.ty _, TyX.base (TyOf.str _), kt_str_list, ?_⟩ | refine ⟨_, _, Value.type "NoneType", Value.type "list", false, rfl, ClsV.ty _, TyX.base TyOf.non, kt_NoneType_list, ?_⟩ | refine ⟨_, _, Value.type "list", Value.type "list", true, rfl, ClsV.ty _, tyx_L (by walk_at "sq"), kt_list_list, ?_⟩ | refine ⟨_, _, Value.type "tuple", Value.type "list", false, rfl, ClsV.ty _, tyx_T (by walk_at "sq"), kt_tuple_list, ?_⟩ | refine ⟨_, _, Value.type "int", Value.type "tuple", false, rfl, ClsV.ty _, TyX.base (TyOf.int _), kt_int_tuple, ?_⟩ | refine ⟨_, _, Value.type "bool", Value.type "tuple", false, rfl, ClsV.ty _, TyX.base (TyOf.bl _), kt_bool_tuple, ?_⟩ | refine ⟨_, _, Value.type "str", Value.type "tuple", false, rfl, ClsV.ty _, TyX.base (TyOf.str _), kt_str_tuple, ?_⟩ | refine ⟨_, _, Value.type "NoneType", Value.type "tuple", false, rfl, ClsV.ty _, TyX.base TyOf.non, kt_NoneType_tuple, ?_⟩ | refine ⟨_, _, Value.type "list", Value.type "tuple", false, rfl, ClsV.ty _, tyx_L (by walk_at "sq"), kt_list_tuple, ?_⟩ | refine ⟨_, _, Value.type "tuple", Value.type "tuple", true, rfl, ClsV.ty _, tyx_T (by walk_at "sq"), kt_tuple_tuple, ?_⟩ | refine ⟨_, _, Value.type "int", Value.type "bool", false, rfl, ClsV.ty _, TyX.base (TyOf.int _), kt_int_bool, ?_⟩ | refine ⟨_, _, Value.type "bool", Value.type "bool", true, rfl, ClsV.ty _, TyX.base (TyOf.bl _), kt_bool_bool, ?_⟩ | refine ⟨_, _, Value.type "str", Value.type "bool", false, rfl, ClsV.ty _, TyX.base (TyOf.str _), kt_str_bool, ?_⟩ | refine ⟨_, _, Value.type "NoneType", Value.type "bool", false, rfl, ClsV.ty _, TyX.base TyOf.non, kt_NoneType_bool, ?_⟩ | refine ⟨_, _, Value.type "list", Value.type "bool", false, rfl, ClsV.ty _, tyx_L (by walk_at "sq"), kt_list_bool, ?_⟩ | refine ⟨_, _, Value.type "tuple", Value.type "bool", false, rfl, ClsV.ty _, tyx_T (by walk_at "sq"), kt_tuple_bool, ?_⟩ | refine ⟨_, _, Value.type "int", Value.type "int", true, rfl, ClsV.ty _, TyX.base (TyOf.int _), kt_int_int, ?_⟩ | refine ⟨_, _, Value.type "bool", Value.type "int", true, rfl, ClsV.ty _, TyX.base (TyOf.bl _), kt_bool_int, ?_⟩ | refine ⟨_, _, Value.type "str", Value.type "int", false, rfl, ClsV.ty _, TyX.base (TyOf.str _), kt_str_int, ?_⟩ | refine ⟨_, _, Value.type "NoneType", Value.type "int", false, rfl, ClsV.ty _, TyX.base TyOf.non, kt_NoneType_int, ?_⟩ | refine ⟨_, _, Value.type "list", Value.type "int", false, rfl, ClsV.ty _, tyx_L (by walk_at "sq"), kt_list_int, ?_⟩ | refine ⟨_, _, Value.type "tuple", Value.type "int", false, rfl, ClsV.ty _, tyx_T (by walk_at "sq"), kt_tuple_int, ?_⟩ | refine ⟨_, _, Value.type "int", Value.type "str", false, rfl, ClsV.ty _, TyX.base (TyOf.int _), kt_int_str, ?_⟩ | refine ⟨_, _, Value.type "bool", Value.type "str", false, rfl, ClsV.ty _, TyX.base (TyOf.bl _), kt_bool_str, ?_⟩ | refine ⟨_, _, Value.type "str", Value.type "str", true, rfl, ClsV.ty _, TyX.base (TyOf.str _), kt_str_str, ?_⟩ | refine ⟨_, _, Value.type "NoneType", Value.type "str", false, rfl, ClsV.ty _, TyX.base TyOf.non, kt_NoneType_str, ?_⟩ | refine ⟨_, _, Value.type "list", Value.type "str", false, rfl, ClsV.ty _, tyx_L (by walk_at "sq"), kt_list_str, ?_⟩ | refine ⟨_, _, Value.type "tuple", Value.type "str", false, rfl, ClsV.ty _, tyx_T (by walk_at "sq"), kt_tuple_str, ?_⟩)
local macro_rules | `(tactic| walk_at "go1") => `(tactic| first
  | (refine ⟨_, rfl, ?_⟩)
  | (refine ⟨_, _, rfl, rfl, ?_⟩)
  | (refine ⟨_, _, _, _, rfl, rfl, SqL.of (by walk_at "hp"), rfl, ?_⟩)
  | (refine Or.inl ⟨_, rfl, ?_⟩)
  | (refine ⟨rfl, ?_⟩)
  | (refine ⟨_, _, rfl, .inl (SqL.of (by walk_at "hp")), ?_⟩)
  | (refine ⟨_, _, rfl, Or.inl (by assumption), ?_⟩)
  | (refine ⟨_, _, rfl, Or.inr (by assumption), ?_⟩)
  | (refine ⟨(by walk_at "ok"), ?_⟩)
  | (refine ⟨_, _, _, _, rfl, rfl, (by walk_at "hp"), rfl, ?_⟩))
local macro_rules | `(tactic| walk_at "go") => `(tactic| repeat (walk_at "go1"))
local macro_rules | `(tactic| walk_at "gt") => `(tactic| repeat (first | walk_at "go1" | walk_at "ty"))

section
variable {P : Program} {w : World} {K : PySem.W.Frag} {mg : Str → Option Value} {base : Heap}
def spIsNum : Sp := fun vs H Q _ => ∃ n, vs = [.int n] ∧ Q (.bl true) H
theorem ok_is_number (T : Tx K mg) : FnOk P w K mg base CX0 1 T.f_is_number T.d_is_number ["value"] spIsNum := by
  refine T.F_is_number.ok sc_is_number (fun vs H Q E h => ?_) (fun cdv A outer s H vs Q E hr h => ?_)
  · obtain ⟨n, rfl, _⟩ := h
    rfl
  obtain ⟨n, rfl, q⟩ := h
  refine ⟨_, (pss_one (ps_ret (pe_and (pe_callB (show CallR _ _ (rIsi K) from call_isi) (by rfl) T.z_isinstance (by decide +kernel) (pa_cons (pv 0) (pa_cons (pe_bltn (v := .ty "int") (u := .type "int") (by rfl) T.z_int (by decide +kernel) rfl) pa_nil))) (pe_one (pe_not (pe_callB (show CallR _ _ (rIsi K) from call_isi) (by rfl) T.z_isinstance (by decide +kernel) (pa_cons (pv 0) (pa_cons (pe_bltn (v := .ty "bool") (u := .type "bool") (by rfl) T.z_bool (by decide +kernel) rfl) pa_nil)))))))), ?_⟩
  walk_at "gt"
  exact q
def spIsListed (K : PySem.W.Frag) : Sp := fun vs H Q _ => ∃ a xs, vs = [.ref a] ∧ Sq K H a xs ∧ ∀ H', Same H H' → Q (.bl true) H'
theorem kit_l : PySem.W.kitAny K (.type "list") [.type "list", .type "tuple"] = some true := kitAny_cons kt_list_list (fun z => nomatch z) (fun _ => rfl)
theorem kit_t : PySem.W.kitAny K (.type "tuple") [.type "list", .type "tuple"] = some true := kitAny_cons kt_tuple_list (fun _ => kitAny_cons kt_tuple_tuple (fun z => nomatch z) (fun _ => rfl)) (fun _ => rfl)
theorem ok_is_listed (T : Tx K mg) : FnOk P w K mg base CX0 1 T.f_is_listed T.d_is_listed ["value"] (spIsListed K) := by
  refine T.F_is_listed.ok sc_is_listed (fun vs H Q E h => ?_) (fun cdv A outer s H vs Q E hr h => ?_)
  · obtain ⟨a, xs, rfl, _⟩ := h
    rfl
  obtain ⟨a, xs, rfl, hS, q⟩ := h
  refine ⟨_, (pss_one (ps_ret (pe_callB (show CallR _ _ (rIsiT K) from call_isiT) (by rfl) T.z_isinstance (by decide +kernel) (pa_cons (pv 0) (pa_cons (pe_tup (pa_cons (pe_bltn (v := .ty "list") (u := .type "list") (by rfl) T.z_list (by decide +kernel) rfl) (pa_cons (pe_bltn (v := .ty "tuple") (u := .type "tuple") (by rfl) T.z_tuple (by decide +kernel) rfl) pa_nil))) pa_nil))))), ?_⟩
  refine ⟨_, rfl, (by show 2 ≤ sizeLine; decide), fun p hp => ?_⟩
  have s1 : Same H (upd H p (.tup [.ty "list", .ty "tuple"])) := Same.new hp
  rcases hS with h | h
  · exact ⟨_, p, _, .type "list", [.type "list", .type "tuple"], true, rfl, upd_same, .cons (.ty _) (.cons (.ty _) .nil), tyx_L (s1.seq h), kit_l, q _ s1⟩
  · exact ⟨_, p, _, .type "tuple", [.type "list", .type "tuple"], true, rfl, upd_same, .cons (.ty _) (.cons (.ty _) .nil), tyx_T (seqT s1 h), kit_t, q _ s1⟩
def spAreNums (K : PySem.W.Frag) : Sp := fun vs H Q _ => ∃ (a : Addr) (ns : List Int), vs = [.ref a, .int (ns.length : Int)] ∧ Sq K H a (ns.map V.int) ∧ ns.length ≤ 1000 ∧ ∀ H', Same H H' → Q (.bl true) H'
theorem len_map {ns : List Int} : (ns.map V.int).length = ns.length := List.length_map _
theorem ok_are_numbers (T : Tx K mg) : FnOk P w K mg base CX0 2 T.f_are_numbers T.d_are_numbers ["value", "many"] (spAreNums K) := by
  have G_is_number := ok_is_number (P := P) (w := w) (base := base) T
  have G_is_listed := ok_is_listed (P := P) (w := w) (base := base) T
  refine T.F_are_numbers.ok sc_are_numbers (fun vs H Q E h => ?_) (fun cdv A outer s H vs Q E hr h => ?_)
  · obtain ⟨a, ns, rfl, _⟩ := h
    rfl
  obtain ⟨a, ns, rfl, hS, hz, q⟩ := h
  have nd := sc_are_numbers.nd
  rcases hS with hS | hS
  · refine ⟨_, (pss_cons (ps_if (PW.pt (pw_or (pt_not (pt_val (pe_call G_is_listed hr (by rfl) T.m_is_listed T.F_is_listed.kp T.b_is_listed .nil pass0 (pa_cons (pv 0) pa_nil)))) (pw_or1 (pt_cmpR op_ne (pe_callB (show CallR _ _ (rLenSq K) from call_len_seq) (by rfl) T.z_len (by decide +kernel) (pa_cons (pv 0) pa_nil)) (pv 1) (nomark _))))) (pss_one (ps_ret pe_bl)) pss_nil)
    (pss_one (ps_ret (pe_callB (show CallR _ _ (rAll K) from cr_all rfl) (by rfl) T.z_all (by decide +kernel) (pa_cons (pe_lc (own := [("item", 2)]) (g := (gName 2)) rfl nd (show PI _ _ _ (iList K _) from pi_list (pv 0)) (blkOk_by (own := [("item", 2)]) (N := N_are_numbers) (sc := defScope s_are_numbers) (by decide +kernel)) (fun _ _ _ _ _ => by exact (pg_name (i := 2) nd rfl (Or.inl rfl))) (fun _ _ _ _ _ => by exact pts_nil) (fun _ _ _ _ _ => by exact (pe_call G_is_number hr (by rfl) T.m_is_number T.F_is_number.kp T.b_is_number .nil pass0 (pa_cons (pv 2) pa_nil)))) pa_nil))))), ?_⟩
    refine ⟨_, rfl, a, _, rfl, .inl hS, fun H1 s1 => ?_⟩
    have hS1 := s1.seq hS
    walk_at "go"
    rw [len_map]
    walk_at "go"
    refine iteNS rfl ?_
    refine ⟨_, rfl, a, rfl, ⟨_, hS1⟩, fun D hD => ?_⟩
    refine lcm (walk_list (K := K) (a := a) (xs := ns.map V.int)) (List.replicate ns.length (V.bl true)) (by simp) (by rw [len_map]; omega) hD (fun H' s => s.seq hS1) ?_ ?_
    · rintro i y x H2 H3 hi hy s2 ⟨rfl, hx⟩ k hk
      obtain rfl := rep_get hy
      obtain ⟨n, hn, rfl⟩ := List.getElem?_map .. ▸ hx |> Option.map_eq_some_iff.mp
      exact ⟨rfl, _, rfl, n, rfl, hk _ (Same.refl _)⟩
    · intro H' s2 hD'
      refine ⟨D, List.replicate ns.length true, rfl, SqL.of (by rw [hD', List.map_replicate]), ?_⟩
      rw [all_rep]
      exact q H' (s1.trans s2)
  · refine ⟨_, (pss_cons (ps_if (PW.pt (pw_or (pt_not (pt_val (pe_call G_is_listed hr (by rfl) T.m_is_listed T.F_is_listed.kp T.b_is_listed .nil pass0 (pa_cons (pv 0) pa_nil)))) (pw_or1 (pt_cmpR op_ne (pe_callB (show CallR _ _ (rLenSq K) from call_len_seq) (by rfl) T.z_len (by decide +kernel) (pa_cons (pv 0) pa_nil)) (pv 1) (nomark _))))) (pss_one (ps_ret pe_bl)) pss_nil)
    (pss_one (ps_ret (pe_callB (show CallR _ _ (rAll K) from cr_all rfl) (by rfl) T.z_all (by decide +kernel) (pa_cons (pe_lc (own := [("item", 2)]) (g := (gName 2)) rfl nd (show PI _ _ _ (iTup K _) from pi_tup (pv 0)) (blkOk_by (own := [("item", 2)]) (N := N_are_numbers) (sc := defScope s_are_numbers) (by decide +kernel)) (fun _ _ _ _ _ => by exact (pg_name (i := 2) nd rfl (Or.inl rfl))) (fun _ _ _ _ _ => by exact pts_nil) (fun _ _ _ _ _ => by exact (pe_call G_is_number hr (by rfl) T.m_is_number T.F_is_number.kp T.b_is_number .nil pass0 (pa_cons (pv 2) pa_nil)))) pa_nil))))), ?_⟩
    refine ⟨_, rfl, a, _, rfl, .inr hS, fun H1 s1 => ?_⟩
    have hS1 := seqT s1 hS
    walk_at "go"
    rw [len_map]
    walk_at "go"
    refine iteNS rfl ?_
    refine ⟨_, rfl, a, rfl, ⟨_, hS1⟩, fun D hD => ?_⟩
    refine lcm (walk_tup (K := K) (a := a) (xs := ns.map V.int)) (List.replicate ns.length (V.bl true)) (by simp) (by rw [len_map]; omega) hD (fun H' s => seqT s hS1) ?_ ?_
    · rintro i y x H2 H3 hi hy s2 ⟨rfl, hx⟩ k hk
      obtain rfl := rep_get hy
      obtain ⟨n, hn, rfl⟩ := List.getElem?_map .. ▸ hx |> Option.map_eq_some_iff.mp
      exact ⟨rfl, _, rfl, n, rfl, hk _ (Same.refl _)⟩
    · intro H' s2 hD'
      refine ⟨D, List.replicate ns.length true, rfl, SqL.of (by rw [hD', List.map_replicate]), ?_⟩
      rw [all_rep]
      exact q H' (s1.trans s2)
def Bit (b : Int) : Prop := b = 0 ∨ b = 1
def spAreBits (K : PySem.W.Frag) : Sp := fun vs H Q _ => ∃ (a : Addr) (ns : List Int), vs = [.ref a, .int (ns.length : Int)] ∧ Sq K H a (ns.map V.int) ∧ ns.length ≤ 1000 ∧ (∀ b ∈ ns, Bit b) ∧ ∀ H', Same H H' → Q (.bl true) H'
theorem int_at {ns : List Int} {i : Nat} {x : V} (h : (ns.map V.int)[i]? = some x) : ∃ n, ns[i]? = some n ∧ x = .int n := by
  rw [List.getElem?_map] at h
  obtain ⟨n, h1, h2⟩ := Option.map_eq_some_iff.mp h
  exact ⟨n, h1, h2.symm⟩
theorem in01 {b : Int} (h : Bit b) : inV (.int b) [.int 0, .int 1] = true := by
  rcases h with rfl | rfl <;> decide
theorem ok_are_bits (T : Tx K mg) : FnOk P w K mg base CX0 3 T.f_are_bits T.d_are_bits ["value", "many"] (spAreBits K) := by
  have G_are_numbers := ok_are_numbers (P := P) (w := w) (base := base) T
  refine T.F_are_bits.ok sc_are_bits (fun vs H Q E h => ?_) (fun cdv A outer s H vs Q E hr h => ?_)
  · obtain ⟨a, ns, rfl, _⟩ := h
    rfl
  obtain ⟨a, ns, rfl, hS, hz, hb, q⟩ := h
  have nd := sc_are_bits.nd
  rcases hS with hS | hS
  · refine ⟨_, (pss_one (ps_ret (pe_and (pe_call G_are_numbers hr (by rfl) T.m_are_numbers T.F_are_numbers.kp T.b_are_numbers .nil pass0 (pa_cons (pv 0) (pa_cons (pv 1) pa_nil))) (pe_one (pe_callB (show CallR _ _ (rAll K) from cr_all rfl) (by rfl) T.z_all (by decide +kernel) (pa_cons (pe_lc (own := [("item", 2)]) (g := (gName 2)) rfl nd (show PI _ _ _ (iList K _) from pi_list (pv 0)) (blkOk_by (own := [("item", 2)]) (N := N_are_bits) (sc := defScope s_are_bits) (by decide +kernel)) (fun _ _ _ _ _ => by exact (pg_name (i := 2) nd rfl (Or.inl rfl))) (fun _ _ _ _ _ => by exact pts_nil) (fun _ _ _ _ _ => by exact (pe_cmpR (show OpR _ _ (rIn K false) from op_in_seq) (pv 2) (pe_tup (pa_cons pe_int (pa_cons pe_int pa_nil))) rfl))) pa_nil)))))), ?_⟩
    refine ⟨_, rfl, _, rfl, a, ns, rfl, .inl hS, hz, fun H1 s1 => ?_⟩
    have hS1 := s1.seq hS
    walk_at "go"
    refine ⟨⟨_, hS1⟩, fun D hD => ?_⟩
    refine lcm (walk_list (K := K) (a := a) (xs := ns.map V.int)) (List.replicate ns.length (V.bl true)) (by simp) (by rw [len_map]; omega) hD (fun H' s => s.seq hS1) ?_ ?_
    · rintro i y x H2 H3 hi hy s2 ⟨rfl, hx⟩ k hk
      obtain rfl := rep_get hy
      obtain ⟨n, hn, rfl⟩ := int_at hx
      refine ⟨rfl, _, rfl, (by show 2 ≤ sizeLine; decide), fun p hp => ?_⟩
      refine ⟨p, _, rfl, .inr (SqT.of upd_same), rfl, rfl, ?_⟩
      show k (.bl (inV (.int n) [.int 0, .int 1])) _
      rw [in01 (hb n (List.mem_of_getElem? hn))]
      exact hk _ (Same.new hp)
    · intro H' s2 hD'
      refine ⟨D, List.replicate ns.length true, rfl, SqL.of (by rw [hD', List.map_replicate]), ?_⟩
      rw [all_rep]
      exact q H' (s1.trans s2)
  · refine ⟨_, (pss_one (ps_ret (pe_and (pe_call G_are_numbers hr (by rfl) T.m_are_numbers T.F_are_numbers.kp T.b_are_numbers .nil pass0 (pa_cons (pv 0) (pa_cons (pv 1) pa_nil))) (pe_one (pe_callB (show CallR _ _ (rAll K) from cr_all rfl) (by rfl) T.z_all (by decide +kernel) (pa_cons (pe_lc (own := [("item", 2)]) (g := (gName 2)) rfl nd (show PI _ _ _ (iTup K _) from pi_tup (pv 0)) (blkOk_by (own := [("item", 2)]) (N := N_are_bits) (sc := defScope s_are_bits) (by decide +kernel)) (fun _ _ _ _ _ => by exact (pg_name (i := 2) nd rfl (Or.inl rfl))) (fun _ _ _ _ _ => by exact pts_nil) (fun _ _ _ _ _ => by exact (pe_cmpR (show OpR _ _ (rIn K false) from op_in_seq) (pv 2) (pe_tup (pa_cons pe_int (pa_cons pe_int pa_nil))) rfl))) pa_nil)))))), ?_⟩
    refine ⟨_, rfl, _, rfl, a, ns, rfl, .inr hS, hz, fun H1 s1 => ?_⟩
    have hS1 := seqT s1 hS
    walk_at "go"
    refine ⟨⟨_, hS1⟩, fun D hD => ?_⟩
    refine lcm (walk_tup (K := K) (a := a) (xs := ns.map V.int)) (List.replicate ns.length (V.bl true)) (by simp) (by rw [len_map]; omega) hD (fun H' s => seqT s hS1) ?_ ?_
    · rintro i y x H2 H3 hi hy s2 ⟨rfl, hx⟩ k hk
      obtain rfl := rep_get hy
      obtain ⟨n, hn, rfl⟩ := int_at hx
      refine ⟨rfl, _, rfl, (by show 2 ≤ sizeLine; decide), fun p hp => ?_⟩
      refine ⟨p, _, rfl, .inr (SqT.of upd_same), rfl, rfl, ?_⟩
      show k (.bl (inV (.int n) [.int 0, .int 1])) _
      rw [in01 (hb n (List.mem_of_getElem? hn))]
      exact hk _ (Same.new hp)
    · intro H' s2 hD'
      refine ⟨D, List.replicate ns.length true, rfl, SqL.of (by rw [hD', List.map_replicate]), ?_⟩
      rw [all_rep]
      exact q H' (s1.trans s2)
/-! ### wedges -/
abbrev W2 := List Int × List Int
structure WOk (w : W2) : Prop where
  l1 : w.1.length = 15
  l2 : w.2.length = 6
  bit : ∀ b ∈ w.2, Bit b
def wf (t1 t2 : Addr) : List (Str × V) := [("_pairs", .ref t1), ("_bits", .ref t2)]
structure WAt (K : PySem.W.Frag) (C : Addr) (H : Hp) (p : Addr) (w : W2) : Prop where
  ex : ∃ dx t1 t2, H p = some (.ins C dx (wf t1 t2)) ∧ SqT K H t1 (w.1.map V.int) ∧ SqT K H t2 (w.2.map V.int)
  ok : WOk w
theorem WAt.same {C : Addr} {H H' : Hp} {p : Addr} {w : W2} (h : WAt K C H p w) (s : Same H H') : WAt K C H' p w := by
  obtain ⟨dx, t1, t2, h1, h2, h3⟩ := h.ex
  exact ⟨⟨dx, t1, t2, s _ _ h1, seqT s h2, seqT s h3⟩, h.ok⟩
theorem npb : ¬ (("_pairs" : Str) = "_bits") := by decide +kernel
theorem wf_put (t1 t2 : Addr) : putF "_bits" (V.ref t2) (putF "_pairs" (V.ref t1) []) = wf t1 t2 := by
  show (if ("_pairs" : Str) = "_bits" then [(("_pairs" : Str), V.ref t2)] else (("_pairs" : Str), V.ref t1) :: putF "_bits" (V.ref t2) []) = _
  rw [if_neg npb]
  rfl
theorem wf_p (t1 t2 : Addr) : (wf t1 t2).lookup ("_pairs" : Str) = some (.ref t1) := by simp [wf, List.lookup]
theorem wf_b (t1 t2 : Addr) : (wf t1 t2).lookup ("_bits" : Str) = some (.ref t2) := by
  have : (("_bits" : Str) == "_pairs") = false := by decide +kernel
  simp [wf, List.lookup, this]
theorem wf_no (t1 t2 : Addr) {m : Str} (h1 : ¬ m = "_pairs") (h2 : ¬ m = "_bits") : (wf t1 t2).lookup m = none := by
  have e1 : (m == ("_pairs" : Str)) = false := by simpa using h1
  have e2 : (m == ("_bits" : Str)) = false := by simpa using h2
  simp [wf, List.lookup, e1, e2]
def spInit (K : PySem.W.Frag) (C : Addr) : Sp := fun vs H Q _ => ∃ (p dx a b : Addr) (w : W2), vs = [.ref p, .ref a, .ref b] ∧ H p = some (.ins C dx []) ∧ Sq K H a (w.1.map V.int) ∧ Sq K H b (w.2.map V.int) ∧ WOk w ∧
  ∀ H', WAt K C H' p w → (∀ c o, H c = some o → c ≠ p → H' c = some o) → Q .non H'
theorem ok_init (T : Tx K mg) : FnOk P w K mg base CX0 4 T.f_Wedge_init T.d_Wedge_init ["self", "pairs", "bits"] (spInit K T.C_Wedge) := by
  have G_are_numbers := ok_are_numbers (P := P) (w := w) (base := base) T
  have G_are_bits := ok_are_bits (P := P) (w := w) (base := base) T
  refine T.F_Wedge_init.ok sc_Wedge_init (fun vs H Q E h => ?_) (fun cdv A outer s H vs Q E hr h => ?_)
  · obtain ⟨p, dx, a, b, w, rfl, _⟩ := h
    rfl
  obtain ⟨p, dx, a, b, wd, rfl, hp, h1, h2, hw, q⟩ := h
  have nd := sc_Wedge_init.nd
  obtain ⟨xsP, lP, hP⟩ := T.l_PAIRS
  refine ⟨_, (pss_cons (ps_if (PW.pt (pw_or (pt_not (pt_val (pe_call G_are_numbers (hr.mono (by decide)) (by rfl) T.m_are_numbers T.F_are_numbers.kp T.b_are_numbers .nil pass0 (pa_cons (pv 1) (pa_cons (pe_callB (show CallR _ _ (rLenSq K) from call_len_seq) (by rfl) T.z_len (by decide +kernel) (pa_cons (pe_glob (v := .ref T.e_PAIRS) (by rfl) T.m_PAIRS rfl) pa_nil)) pa_nil))))) (pw_or1 (pt_not (pt_val (pe_call G_are_bits hr (by rfl) T.m_are_bits T.F_are_bits.kp T.b_are_bits .nil pass0 (pa_cons (pv 2) (pa_cons (pe_callB (show CallR _ _ (rLenSq K) from call_len_seq) (by rfl) T.z_len (by decide +kernel) (pa_cons (pe_glob (v := .ref T.e_PRIMES) (by rfl) T.m_PRIMES rfl) pa_nil)) pa_nil)))))))) (pss_one ps_never) pss_nil)
    (pss_cons (ps_fld (pv 0) (pe_callTy (show CallR _ _ (rTup1 K) from call_tup1) (by rfl) T.z_tuple (by decide +kernel) (pa_cons (pv 1) pa_nil)) rfl)
    (pss_one (ps_fld (pv 0) (pe_callTy (show CallR _ _ (rTup1 K) from call_tup1) (by rfl) T.z_tuple (by decide +kernel) (pa_cons (pv 2) pa_nil)) rfl)))), ?_⟩
  refine ⟨_, rfl, T.e_PAIRS, xsP, rfl, .inr (hP _), a, wd.1, (by rw [lP, hw.l1]; rfl), h1, (by rw [hw.l1]; decide), fun H1 s1 => ?_⟩
  walk_at "go"
  refine ⟨T.e_PRIMES, _, rfl, .inr (T.q_PRIMES _), b, wd.2, (by rw [hw.l2]; rfl), h2.same s1, (by rw [hw.l2]; decide), hw.bit, fun H2 s2 => ?_⟩
  have s12 := s1.trans s2
  walk_at "go"
  refine ⟨a, _, rfl, h1.same s12, fun t1 H3 s3 ht1 => ?_⟩
  have s13 := s12.trans s3
  refine ⟨_, rfl, p, T.C_Wedge, dx, [], rfl, s13 _ _ hp, T.c_Wedge, T.n_Wedge_pairs, (by show 0 < 1000; decide), ?_⟩
  refine ⟨_, rfl, b, _, rfl, (h2.same s13).ins (s13 _ _ hp), fun t2 H4 s4 ht2 => ?_⟩
  have hp4 := s4 _ _ (upd_same (H := H3) (a := p) (o := .ins T.C_Wedge dx (putF "_pairs" (V.ref t1) [])))
  refine ⟨_, rfl, p, T.C_Wedge, dx, _, rfl, hp4, T.c_Wedge, T.n_Wedge_bits, (by show 1 < 1000; decide), ?_⟩
  rw [wf_put]
  refine q _ ⟨⟨dx, t1, t2, upd_same, seqT_ins hp4 (seqT s4 (seqT_ins (s13 _ _ hp) ht1)), seqT_ins hp4 ht2⟩, hw⟩ fun c o e n => ?_
  rw [upd_ne n]
  refine s4 _ _ ?_
  rw [upd_ne n]
  exact s13 _ _ e
/-! ### Wedge(..), and what the operators give -/
section
variable {H : Hp} {Q : VK} {E : XK} {C : Addr}
theorem make_w {a b : Addr} {wd : W2} (h1 : Sq K H a (wd.1.map V.int)) (h2 : Sq K H b (wd.2.map V.int)) (hw : WOk wd) (q : ∀ x H', Same H H' → WAt K C H' x wd → Q (.ref x) H') :
    ∀ x dx, H x = none → H dx = none → dx ≠ x → spInit K C (.ref x :: ([.ref a, .ref b] ++ [])) (upd (upd H dx (.own x)) x (.ins C dx [])) (fun v H2 => v = .non ∧ Q (.ref x) H2) E := by
  intro x dx nx nd ne
  have s0 : Same H (upd (upd H dx (.own x)) x (.ins C dx [])) := fun c o e => by
    rw [upd_ne (ne_of_none e nx), upd_ne (ne_of_none e nd)]
    exact e
  refine ⟨x, dx, a, b, wd, rfl, upd_same, h1.same s0, h2.same s0, hw, fun H' hx kp => ⟨rfl, ?_⟩⟩
  exact q x H' (fun c o e => kp c o (s0 c o e) (ne_of_none e nx)) hx
end
def addW (x y : W2) : W2 := (List.zipWith (· + ·) x.1 y.1, List.zipWith (fun a b => (a + b).fmod 2) x.2 y.2)
def subW (x y : W2) : W2 := (List.zipWith (· - ·) x.1 y.1, List.zipWith (fun a b => (a + b).fmod 2) x.2 y.2)
def negW (x : W2) : W2 := (x.1.map (- ·), x.2)
def mulW (k : Int) (x : W2) : W2 := (x.1.map (k * ·), x.2.map (fun b => (k * b).fmod 2))
theorem bit_mod (a : Int) : Bit (a.fmod 2) := by
  have := fm (i := a) (j := 2) (by decide)
  unfold Bit
  omega
theorem bit_zip {f : Int → Int → Int} (hf : ∀ a b, Bit (f a b)) {xs ys : List Int} : ∀ z ∈ List.zipWith f xs ys, Bit z := by
  intro z hz
  obtain ⟨i, hi, rfl⟩ := List.mem_iff_getElem.mp hz
  rw [List.getElem_zipWith]
  exact hf _ _
theorem addW_ok {x y : W2} (h1 : WOk x) (h2 : WOk y) : WOk (addW x y) := ⟨by simp [addW, h1.l1, h2.l1], by simp [addW, h1.l2, h2.l2], bit_zip fun a b => bit_mod _⟩
theorem subW_ok {x y : W2} (h1 : WOk x) (h2 : WOk y) : WOk (subW x y) := ⟨by simp [subW, h1.l1, h2.l1], by simp [subW, h1.l2, h2.l2], bit_zip fun a b => bit_mod _⟩
theorem negW_ok {x : W2} (h1 : WOk x) : WOk (negW x) := ⟨by simp [negW, h1.l1], h1.l2, h1.bit⟩
theorem mulW_ok {k : Int} {x : W2} (h1 : WOk x) : WOk (mulW k x) := ⟨by simp [mulW, h1.l1], by simp [mulW, h1.l2], fun b hb => by
  obtain ⟨c, _, rfl⟩ := List.mem_map.mp hb
  exact bit_mod _⟩
/-- x op y of two wedges -/
def spOp2 (K : PySem.W.Frag) (C : Addr) (f : W2 → W2 → W2) : Sp := fun vs H Q _ => ∃ (p r : Addr) (x y : W2), vs = [.ref p, .ref r] ∧ WAt K C H p x ∧ WAt K C H r y ∧ ∀ t H', Same H H' → WAt K C H' t (f x y) → Q (.ref t) H'
end
end TL.W
namespace TL.W
open TL
open PySem L2

/-! ### steps of a reading -/
local macro_rules | `(tactic| walk_at "hp") => `(tactic| first | assumption | exact upd_same | (refine (upd_ne (by first | assumption | (exact Ne.symm (by assumption)))).trans ?_; walk_at "hp"))
local macro_rules | `(tactic| walk_at "ok") => `(tactic| first | (exact Or.inr ⟨by decide, by decide⟩) | (exact ⟨by decide, by decide⟩) | (exact ⟨by decide, by decide, by decide⟩) | (show _ ≠ _; omega) | (show _ ≠ _; decide) | (exact Or.inl ⟨by omega, by omega⟩) | decide)
local macro_rules | `(tactic| walk_at "sq") => `(tactic| first | assumption | exact SqL.of (by walk_at "hp") | exact SqT.of (by walk_at "hp"))
local macro_rules | `(tactic| walk_at "ty") => `(tactic| first | refine ⟨_, _, Value.type "int", Value.type "list", false, rfl, ClsV.ty _, TyX.base (TyOf.int _), kt_int_list, ?_⟩ | refine ⟨_, _, Value.type "bool", Value.type "list", false, rfl, ClsV.ty _, TyX.base (TyOf.bl _), kt_bool_list, ?_⟩ | refine ⟨_, _, Value.type "str", Value.type "list", false, rfl, ClsV.ty _, TyX.base (TyOf.str _), kt_str_list, ?_⟩ | refine ⟨_, _, Value.type "NoneType", Value.type "list", false, rfl, ClsV.ty _, TyX.base TyOf.non, kt_NoneType_list, ?_⟩ | refine ⟨_, _, Value.type "list", Value.type "list", true, rfl, ClsV.ty _, tyx_L (by walk_at "sq"), kt_list_list, ?_⟩ | refine ⟨_, _, Value.type "tuple", Value.type "list", false, rfl, ClsV.ty _, tyx_T (by walk_at "sq"), kt_tuple_list, ?_⟩ | refine ⟨_, _, Value.type "int", Value.type "tuple", false, rfl, ClsV.ty _, TyX.base (TyOf.int _), kt_int_tuple, ?_⟩ | refine ⟨_, _, Value.type "bool", Value.type "tuple", false, rfl, ClsV.ty _, TyX.base (TyOf.bl _), kt_bool_tuple, ?_⟩ | refine ⟨_, _, Value.type "str", Value.type "tuple", false, rfl, ClsV.ty _, TyX.base (TyOf.str _), kt_str_tuple, ?_⟩ | refine ⟨_, _, Value.type "NoneType", Value.type "tuple", false, rfl, ClsV.ty _, TyX.base TyOf.non, kt_NoneType_tuple, ?_⟩ | refine ⟨_, _, Value.type "list", Value.type "tuple", false, rfl, ClsV.ty _, tyx_L (by walk_at "sq"), kt_list_tuple, ?_⟩ | refine ⟨_, _, Value.type "tuple", Value.type "tuple", true, rfl, ClsV.ty _, tyx_T (by walk_at "sq"), kt_tuple_tuple, ?_⟩ | refine ⟨_, _, Value.type "int", Value.type "bool", false, rfl, ClsV.ty _, TyX.base (TyOf.int _), kt_int_bool, ?_⟩ | refine ⟨_, _, Value.type "bool", Value.type "bool", true, rfl, ClsV.ty _, TyX.base (TyOf.bl _), kt_bool_bool, ?_⟩ | refine ⟨_, _, Value.type "str", Value.type "bool", false, rfl, ClsV.ty _, TyX.base (TyOf.str _), kt_str_bool, ?_⟩ | refine ⟨_, _, Value.type "NoneType", Value.type "bool", false, rfl, ClsV.ty _, TyX.base TyOf.non, kt_NoneType_bool, ?_⟩ | refine ⟨_, _, Value.type "list", Value.type "bool", false, rfl, ClsV.ty _, tyx_L (by walk_at "sq"), kt_list_bool, ?_⟩ | refine ⟨_, _, Value.type "tuple", Value.type "bool", false, rfl, ClsV.ty _, tyx_T (by walk_at "sq"), kt_tuple_bool, ?_⟩ | refine ⟨_, _, Value.type "int", Value.type "int", true, rfl, ClsV.ty _, TyX.base (TyOf.int _), kt_int_int, ?_⟩ | refine ⟨_, _, Value.type "bool", Value.type "int", true, rfl, ClsV.ty _, TyX.base (TyOf.bl _), kt_bool_int, ?_⟩ | refine ⟨_, _, Value.type "str", Value.type "int", false, rfl, ClsV.ty _, TyX.base (TyOf.str _), kt_str_int, ?_⟩ | refine ⟨_, _, Value.type "NoneType", Value.type "int", false, rfl, ClsV.ty _, TyX.base TyOf.non, kt_NoneType_int, ?_⟩ | refine ⟨_, _, Value.type "list", Value.type "int", false, rfl, ClsV.ty _, tyx_L (by walk_at "sq"), kt_list_int, ?_⟩ | refine ⟨_, _, Value.type "tuple", Value.type "int", false, rfl, ClsV.ty _, tyx_T (by walk_at "sq"), kt_tuple_int, ?_⟩ | refine ⟨_, _, Value.type "int", Value.type "str", false, rfl, ClsV.ty _, TyX.base (TyOf.int _), kt_int_str, ?_⟩ | refine ⟨_, _, Value.type "bool", Value.type "str", false, rfl, ClsV.ty _, TyX.base (TyOf.bl _), kt_bool_str, ?_⟩ | refine ⟨_, _, Value.type "str", Value.type "str", true, rfl, ClsV.ty _, TyX.base (TyOf.str _), kt_str_str, ?_⟩ | refine ⟨_, _, Value.type "NoneType", Value.type "str", false, rfl, ClsV.ty _, TyX.base TyOf.non, kt_NoneType_str, ?_⟩ | refine ⟨_, _, Value.type "list", Value.type "str", false, rfl, ClsV.ty _, tyx_L (by walk_at "sq"), kt_list_str, ?_⟩ | refine ⟨_, _, Value.type "tuple", Value.type "str", false, rfl, ClsV.ty _, tyx_T (by walk_at "sq"), kt_tuple_str, ?_⟩)
local macro_rules | `(tactic| walk_at "go1") => `(tactic| first
  | (refine ⟨_, rfl, ?_⟩)
  | (refine ⟨_, _, rfl, rfl, ?_⟩)
  | (refine ⟨_, _, _, _, rfl, rfl, SqL.of (by walk_at "hp"), rfl, ?_⟩)
  | (refine Or.inl ⟨_, rfl, ?_⟩)
  | (refine ⟨rfl, ?_⟩)
  | (refine ⟨_, _, rfl, .inl (SqL.of (by walk_at "hp")), ?_⟩)
  | (refine ⟨_, _, rfl, Or.inl (by assumption), ?_⟩)
  | (refine ⟨_, _, rfl, Or.inr (by assumption), ?_⟩)
  | (refine ⟨(by walk_at "ok"), ?_⟩)
  | (refine ⟨_, _, _, _, rfl, rfl, (by walk_at "hp"), rfl, ?_⟩))
local macro_rules | `(tactic| walk_at "go") => `(tactic| repeat (walk_at "go1"))
local macro_rules | `(tactic| walk_at "gt") => `(tactic| repeat (first | walk_at "go1" | walk_at "ty"))

section
variable {P : Program} {w : World} {K : PySem.W.Frag} {mg : Str → Option Value} {base : Heap}
def spNegW (K : PySem.W.Frag) (C : Addr) : Sp := fun vs H Q _ => ∃ (p : Addr) (x : W2), vs = [.ref p] ∧ WAt K C H p x ∧ ∀ t H', Same H H' → WAt K C H' t (negW x) → Q (.ref t) H'
theorem ok_neg (T : Tx K mg) : FnOk P w K mg base CX0 6 T.f_Wedge_neg T.d_Wedge_neg ["self"] (spNegW K T.C_Wedge) := by
  have G_Wedge_init := ok_init (P := P) (w := w) (base := base) T
  refine T.F_Wedge_neg.ok sc_Wedge_neg (fun vs H Q E h => ?_) (fun cdv A outer s H vs Q E hr h => ?_)
  · obtain ⟨p, x, rfl, _⟩ := h
    rfl
  obtain ⟨p, x, rfl, hx, q⟩ := h
  have nd := sc_Wedge_neg.nd
  obtain ⟨⟨dx, t1, t2, e1, e2, e3⟩, ox⟩ := id hx
  refine ⟨_, (pss_one (ps_ret (pe_make T.k_Wedge G_Wedge_init hr (by rfl) T.g_Wedge T.b_Wedge_init .nil pass0 (pa_cons (pe_lc (own := [("number", 1)]) (g := (gName 1)) rfl nd (show PI _ _ _ (iTup K _) from pi_tup (show PE _ _ (tFld K _ _) from pe_fld (pv 0) rfl)) (blkOk_by (own := [("number", 1)]) (N := N_Wedge_neg) (sc := defScope s_Wedge_neg) (by decide +kernel)) (fun _ _ _ _ _ => by exact (pg_name (i := 1) nd rfl (Or.inl rfl))) (fun _ _ _ _ _ => by exact pts_nil) (fun _ _ _ _ _ => by exact (pe_un un_neg (pv 1)))) (pa_cons (show PE _ _ (tFld K _ _) from pe_fld (pv 0) rfl) pa_nil))))), ?_⟩
  refine ⟨_, rfl, p, _, _, _, _, rfl, e1, T.c_Wedge, T.n_Wedge_pairs, wf_p _ _, t1, rfl, ⟨_, e2⟩, fun D hD => ?_⟩
  refine lc_mapT (f := fun a => -a) e2 (by rw [ox.l1]; decide) hD (fun u => rfl) (fun u H1 k _ hk => ⟨_, rfl, u, rfl, hk⟩) fun H1 s1 hD1 => ?_
  refine ⟨_, rfl, p, _, _, _, _, rfl, s1 _ _ e1, T.c_Wedge, T.n_Wedge_bits, wf_b _ _, ?_⟩
  exact make_w (wd := negW x) (.inl (SqL.of hD1)) (.inr (seqT s1 e3)) (negW_ok ox) fun z H' s3 hz => q z H' (s1.trans s3) hz
def Small (k : Int) (x : W2) : Prop := ∀ u ∈ x.1, CMulW k u
def spMulW (K : PySem.W.Frag) (C : Addr) : Sp := fun vs H Q _ => ∃ (p : Addr) (k : Int) (x : W2), vs = [.ref p, .int k] ∧ WAt K C H p x ∧ Small k x ∧ ∀ t H', Same H H' → WAt K C H' t (mulW k x) → Q (.ref t) H'
theorem bit_mul (k : Int) {b : Int} (h : Bit b) : CMul k b := by
  refine .inr ?_
  rcases h with rfl | rfl <;> exact ⟨by decide, by decide⟩
theorem ok_mul (T : Tx K mg) : FnOk P w K mg base CX0 6 T.f_Wedge_mul T.d_Wedge_mul ["self", "k"] (spMulW K T.C_Wedge) := by
  have G_Wedge_init := ok_init (P := P) (w := w) (base := base) T
  refine T.F_Wedge_mul.ok sc_Wedge_mul (fun vs H Q E h => ?_) (fun cdv A outer s H vs Q E hr h => ?_)
  · obtain ⟨p, k, x, rfl, _⟩ := h
    rfl
  obtain ⟨p, k, x, rfl, hx, hsm, q⟩ := h
  have nd := sc_Wedge_mul.nd
  obtain ⟨⟨dx, t1, t2, e1, e2, e3⟩, ox⟩ := id hx
  refine ⟨_, (pss_one (ps_ret (pe_make T.k_Wedge G_Wedge_init hr (by rfl) T.g_Wedge T.b_Wedge_init .nil pass0 (pa_cons (pe_lc (own := [("number", 2)]) (g := (gName 2)) rfl nd (show PI _ _ _ (iTup K _) from pi_tup (show PE _ _ (tFld K _ _) from pe_fld (pv 0) rfl)) (blkOk_by (own := [("number", 2)]) (N := N_Wedge_mul) (sc := defScope s_Wedge_mul) (by decide +kernel)) (fun _ _ _ _ _ => by exact (pg_name (i := 2) nd rfl (Or.inl rfl))) (fun _ _ _ _ _ => by exact pts_nil) (fun _ _ _ _ _ => by exact (pe_op op_mulW (pv 1) (pv 2)))) (pa_cons (pe_lc (own := [("bit", 3)]) (g := (gName 3)) rfl nd (show PI _ _ _ (iTup K _) from pi_tup (show PE _ _ (tFld K _ _) from pe_fld (pv 0) rfl)) (blkOk_by (own := [("bit", 3)]) (N := N_Wedge_mul) (sc := defScope s_Wedge_mul) (by decide +kernel)) (fun _ _ _ _ _ => by exact (pg_name (i := 3) nd rfl (Or.inl rfl))) (fun _ _ _ _ _ => by exact pts_nil) (fun _ _ _ _ _ => by exact (pe_op op_modN (pe_op op_mul (pv 1) (pv 3)) pe_int))) pa_nil))))), ?_⟩
  refine ⟨_, rfl, p, _, _, _, _, rfl, e1, T.c_Wedge, T.n_Wedge_pairs, wf_p _ _, t1, rfl, ⟨_, e2⟩, fun D hD => ?_⟩
  refine lc_mapT (f := fun a => k * a) e2 (by rw [ox.l1]; decide) hD (fun u => rfl) (fun u H1 kk hu hk => ⟨_, rfl, _, rfl, k, u, rfl, rfl, hsm u hu, hk⟩) fun H1 s1 hD1 => ?_
  refine ⟨_, rfl, p, _, _, _, _, rfl, s1 _ _ e1, T.c_Wedge, T.n_Wedge_bits, wf_b _ _, t2, rfl, ⟨_, seqT s1 e3⟩, fun D2 hD2 => ?_⟩
  refine lc_mapT (f := fun b => (k * b).fmod 2) (seqT s1 e3) (by rw [ox.l2]; decide) hD2 (fun u => rfl) (fun u H1 kk hu hk => ⟨_, rfl, _, rfl, k, u, rfl, rfl, bit_mul k (ox.bit u hu), _, _, rfl, rfl, (by show (2 : Int) ≠ 0; decide), hk⟩) fun H2 s2 hD3 => ?_
  exact make_w (wd := mulW k x) (.inl (SqL.of (s2 _ _ hD1))) (.inl (SqL.of hD3)) (mulW_ok ox) fun z H' s3 hz => q z H' ((s1.trans s2).trans s3) hz
theorem ok_rmul (T : Tx K mg) : FnOk P w K mg base CX0 6 T.f_Wedge_rmul T.d_Wedge_rmul ["self", "k"] (spMulW K T.C_Wedge) := by
  have G_Wedge_init := ok_init (P := P) (w := w) (base := base) T
  refine T.F_Wedge_rmul.ok sc_Wedge_rmul (fun vs H Q E h => ?_) (fun cdv A outer s H vs Q E hr h => ?_)
  · obtain ⟨p, k, x, rfl, _⟩ := h
    rfl
  obtain ⟨p, k, x, rfl, hx, hsm, q⟩ := h
  have nd := sc_Wedge_rmul.nd
  obtain ⟨⟨dx, t1, t2, e1, e2, e3⟩, ox⟩ := id hx
  refine ⟨_, (pss_one (ps_ret (pe_make T.k_Wedge G_Wedge_init hr (by rfl) T.g_Wedge T.b_Wedge_init .nil pass0 (pa_cons (pe_lc (own := [("number", 2)]) (g := (gName 2)) rfl nd (show PI _ _ _ (iTup K _) from pi_tup (show PE _ _ (tFld K _ _) from pe_fld (pv 0) rfl)) (blkOk_by (own := [("number", 2)]) (N := N_Wedge_rmul) (sc := defScope s_Wedge_rmul) (by decide +kernel)) (fun _ _ _ _ _ => by exact (pg_name (i := 2) nd rfl (Or.inl rfl))) (fun _ _ _ _ _ => by exact pts_nil) (fun _ _ _ _ _ => by exact (pe_op op_mulW (pv 1) (pv 2)))) (pa_cons (pe_lc (own := [("bit", 3)]) (g := (gName 3)) rfl nd (show PI _ _ _ (iTup K _) from pi_tup (show PE _ _ (tFld K _ _) from pe_fld (pv 0) rfl)) (blkOk_by (own := [("bit", 3)]) (N := N_Wedge_rmul) (sc := defScope s_Wedge_rmul) (by decide +kernel)) (fun _ _ _ _ _ => by exact (pg_name (i := 3) nd rfl (Or.inl rfl))) (fun _ _ _ _ _ => by exact pts_nil) (fun _ _ _ _ _ => by exact (pe_op op_modN (pe_op op_mul (pv 1) (pv 3)) pe_int))) pa_nil))))), ?_⟩
  refine ⟨_, rfl, p, _, _, _, _, rfl, e1, T.c_Wedge, T.n_Wedge_pairs, wf_p _ _, t1, rfl, ⟨_, e2⟩, fun D hD => ?_⟩
  refine lc_mapT (f := fun a => k * a) e2 (by rw [ox.l1]; decide) hD (fun u => rfl) (fun u H1 kk hu hk => ⟨_, rfl, _, rfl, k, u, rfl, rfl, hsm u hu, hk⟩) fun H1 s1 hD1 => ?_
  refine ⟨_, rfl, p, _, _, _, _, rfl, s1 _ _ e1, T.c_Wedge, T.n_Wedge_bits, wf_b _ _, t2, rfl, ⟨_, seqT s1 e3⟩, fun D2 hD2 => ?_⟩
  refine lc_mapT (f := fun b => (k * b).fmod 2) (seqT s1 e3) (by rw [ox.l2]; decide) hD2 (fun u => rfl) (fun u H1 kk hu hk => ⟨_, rfl, _, rfl, k, u, rfl, rfl, bit_mul k (ox.bit u hu), _, _, rfl, rfl, (by show (2 : Int) ≠ 0; decide), hk⟩) fun H2 s2 hD3 => ?_
  exact make_w (wd := mulW k x) (.inl (SqL.of (s2 _ _ hD1))) (.inl (SqL.of hD3)) (mulW_ok ox) fun z H' s3 hz => q z H' ((s1.trans s2).trans s3) hz
end
end TL.W
namespace TL.W
open TL
open PySem L2

/-! ### steps of a reading -/
local macro_rules | `(tactic| walk_at "hp") => `(tactic| first | assumption | exact upd_same | (refine (upd_ne (by first | assumption | (exact Ne.symm (by assumption)))).trans ?_; walk_at "hp"))
local macro_rules | `(tactic| walk_at "ok") => `(tactic| first | (exact Or.inr ⟨by decide, by decide⟩) | (exact ⟨by decide, by decide⟩) | (exact ⟨by decide, by decide, by decide⟩) | (show _ ≠ _; omega) | (show _ ≠ _; decide) | (exact Or.inl ⟨by omega, by omega⟩) | decide)
local macro_rules | `(tactic| walk_at "sq") => `(tactic| first | assumption | exact SqL.of (by walk_at "hp") | exact SqT.of (by walk_at "hp"))
local macro_rules | `(tactic| walk_at "ty") => `(tactic| first | refine ⟨_, _, Value.type "int", Value.type "list", false, rfl, ClsV.ty _, TyX.base (TyOf.int _), kt_int_list, ?_⟩ | refine ⟨_, _, Value.type "bool", Value.type "list", false, rfl, ClsV.ty _, TyX.base (TyOf.bl _), kt_bool_list, ?_⟩ | refine ⟨_, _, Value.type "str", Value.type "list", false, rfl, ClsV.ty _, TyX.base (TyOf.str _), kt_str_list, ?_⟩ | refine ⟨_, _, Value.type "NoneType", Value.type "list", false, rfl, ClsV.ty _, TyX.base TyOf.non, kt_NoneType_list, ?_⟩ | refine ⟨_, _, Value.type "list", Value.type "list", true, rfl, ClsV.ty _, tyx_L (by walk_at "sq"), kt_list_list, ?_⟩ | refine ⟨_, _, Value.type "tuple", Value.type "list", false, rfl, ClsV.ty _, tyx_T (by walk_at "sq"), kt_tuple_list, ?_⟩ | refine ⟨_, _, Value.type "int", Value.type "tuple", false, rfl, ClsV.ty _, TyX.base (TyOf.int _), kt_int_tuple, ?_⟩ | refine ⟨_, _, Value.type "bool", Value.type "tuple", false, rfl, ClsV.ty _, TyX.base (TyOf.bl _), kt_bool_tuple, ?_⟩ | refine ⟨_, _, Value.type "str", Value.type "tuple", false, rfl, ClsV.ty _, TyX.base (TyOf.str _), kt_str_tuple, ?_⟩ | refine ⟨_, _, Value.type "NoneType", Value.type "tuple", false, rfl, ClsV.ty _, TyX.base TyOf.non, kt_NoneType_tuple, ?_⟩ | refine ⟨_, _, Value.type "list", Value.type "tuple", false, rfl, ClsV.ty _, tyx_L (by walk_at "sq"), kt_list_tuple, ?_⟩ | refine ⟨_, _, Value.type "tuple", Value.type "tuple", true, rfl, ClsV.ty _, tyx_T (by walk_at "sq"), kt_tuple_tuple, ?_⟩ | refine ⟨_, _, Value.type "int", Value.type "bool", false, rfl, ClsV.ty _, TyX.base (TyOf.int _), kt_int_bool, ?_⟩ | refine ⟨_, _, Value.type "bool", Value.type "bool", true, rfl, ClsV.ty _, TyX.base (TyOf.bl _), kt_bool_bool, ?_⟩ | refine ⟨_, _, Value.type "str", Value.type "bool", false, rfl, ClsV.ty _, TyX.base (TyOf.str _), kt_str_bool, ?_⟩ | refine ⟨_, _, Value.type "NoneType", Value.type "bool", false, rfl, ClsV.ty _, TyX.base TyOf.non, kt_NoneType_bool, ?_⟩ | refine ⟨_, _, Value.type "list", Value.type "bool", false, rfl, ClsV.ty _, tyx_L (by walk_at "sq"), kt_list_bool, ?_⟩ | refine ⟨_, _, Value.type "tuple", Value.type "bool", false, rfl, ClsV.ty _, tyx_T (by walk_at "sq"), kt_tuple_bool, ?_⟩ | refine ⟨_, _, Value.type "int", Value.type "int", true, rfl, ClsV.ty _, TyX.base (TyOf.int _), kt_int_int, ?_⟩ | refine ⟨_, _, Value.type "bool", Value.type "int", true, rfl, ClsV.ty _, TyX.base (TyOf.bl _), kt_bool_int, ?_⟩ | refine ⟨_, _, Value.type "str", Value.type "int", false, rfl, ClsV.ty _, TyX.base (TyOf.str _), kt_str_int, ?_⟩ | refine ⟨_, _, Value.type "NoneType", Value.type "int", false, rfl, ClsV.ty _, TyX.base TyOf.non, kt_NoneType_int, ?_⟩ | refine ⟨_, _, Value.type "list", Value.type "int", false, rfl, ClsV.ty _, tyx_L (by walk_at "sq"), kt_list_int, ?_⟩ | refine ⟨_, _, Value.type "tuple", Value.type "int", false, rfl, ClsV.ty _, tyx_T (by walk_at "sq"), kt_tuple_int, ?_⟩ | refine ⟨_, _, Value.type "int", Value.type "str", false, rfl, ClsV.ty _, TyX.base (TyOf.int _), kt_int_str, ?_⟩ | refine ⟨_, _, Value.type "bool", Value.type "str", false, rfl, ClsV.ty _, TyX.base (TyOf.bl _), kt_bool_str, ?_⟩ | refine ⟨_, _, Value.type "str", Value.type "str", true, rfl, ClsV.ty _, TyX.base (TyOf.str _), kt_str_str, ?_⟩ | refine ⟨_, _, Value.type "NoneType", Value.type "str", false, rfl, ClsV.ty _, TyX.base TyOf.non, kt_NoneType_str, ?_⟩ | refine ⟨_, _, Value.type "list", Value.type "str", false, rfl, ClsV.ty _, tyx_L (by walk_at "sq"), kt_list_str, ?_⟩ | refine ⟨_, _, Value.type "tuple", Value.type "str", false, rfl, ClsV.ty _, tyx_T (by walk_at "sq"), kt_tuple_str, ?_⟩)
local macro_rules | `(tactic| walk_at "go1") => `(tactic| first
  | (refine ⟨_, rfl, ?_⟩)
  | (refine ⟨_, _, rfl, rfl, ?_⟩)
  | (refine ⟨_, _, _, _, rfl, rfl, SqL.of (by walk_at "hp"), rfl, ?_⟩)
  | (refine Or.inl ⟨_, rfl, ?_⟩)
  | (refine ⟨rfl, ?_⟩)
  | (refine ⟨_, _, rfl, .inl (SqL.of (by walk_at "hp")), ?_⟩)
  | (refine ⟨_, _, rfl, Or.inl (by assumption), ?_⟩)
  | (refine ⟨_, _, rfl, Or.inr (by assumption), ?_⟩)
  | (refine ⟨(by walk_at "ok"), ?_⟩)
  | (refine ⟨_, _, _, _, rfl, rfl, (by walk_at "hp"), rfl, ?_⟩))
local macro_rules | `(tactic| walk_at "go") => `(tactic| repeat (walk_at "go1"))
local macro_rules | `(tactic| walk_at "gt") => `(tactic| repeat (first | walk_at "go1" | walk_at "ty"))

section
variable {P : Program} {w : World} {K : PySem.W.Frag} {mg : Str → Option Value} {base : Heap}
def spGet (K : PySem.W.Frag) (C : Addr) (f : W2 → List Int) : Sp := fun vs H Q _ => ∃ (p : Addr) (x : W2), vs = [.ref p] ∧ WAt K C H p x ∧ ∀ t, SqT K H t ((f x).map V.int) → Q (.ref t) H
theorem ok_pairs (T : Tx K mg) : FnOk P w K mg base CX0 1 T.f_Wedge_pairs T.d_Wedge_pairs ["self"] (spGet K T.C_Wedge (·.1)) := by
  refine T.F_Wedge_pairs.ok sc_Wedge_pairs (fun vs H Q E h => ?_) (fun cdv A outer s H vs Q E hr h => ?_)
  · obtain ⟨p, x, rfl, _⟩ := h
    rfl
  obtain ⟨p, x, rfl, ⟨⟨dx, t1, t2, e1, e2, e3⟩, ox⟩, q⟩ := h
  refine ⟨_, (pss_one (ps_ret (show PE _ _ (tFld K _ _) from pe_fld (pv 0) rfl))), ?_⟩
  exact ⟨_, rfl, p, _, _, _, _, rfl, e1, T.c_Wedge, T.n_Wedge_pairs, wf_p _ _, q t1 e2⟩
def spEqW (K : PySem.W.Frag) (C : Addr) : Sp := fun vs H Q _ => ∃ (p r : Addr) (x y : W2), vs = [.ref p, .ref r] ∧ WAt K C H p x ∧ WAt K C H r y ∧ Q (.bl (decide (x = y))) H
theorem dec_two (x y : W2) : decide (x = y) = (decide (x.1 = y.1) && decide (x.2 = y.2)) := by
  obtain ⟨a, b⟩ := x
  obtain ⟨c, d⟩ := y
  by_cases h1 : a = c <;> by_cases h2 : b = d <;> simp [h1, h2]
def boolW (x : W2) : Bool := x.1.any (fun n => n != 0) || x.2.any (fun n => n != 0)
def spBoolW (K : PySem.W.Frag) (C : Addr) : Sp := fun vs H Q _ => ∃ (p : Addr) (x : W2), vs = [.ref p] ∧ WAt K C H p x ∧ Q (.bl (boolW x)) H
def zeroW : W2 := (List.replicate 15 0, List.replicate 6 0)
theorem zeroW_ok : WOk zeroW := ⟨by decide, by decide, fun b hb => .inl (List.mem_replicate.mp hb).2⟩
def spNothing (K : PySem.W.Frag) (C : Addr) : Sp := fun vs H Q _ => vs = [] ∧ ∀ t H', Same H H' → WAt K C H' t zeroW → Q (.ref t) H'
end
end TL.W
namespace TL
open PySem PySem.Spec PyProof.Rows L2 PySem.W
/-! ### enumerate over a tuple -/
set_option maxHeartbeats 1000000 in
theorem enumT_new (t : Addr) (its : Array Value) : Meets (Builtin.«enumerate.__new__» ⟨[.type "enumerate", .ref t], []⟩) (fun _ R s => s.heap.IsTuple t its ∧
    R (.ok (.ret (.ref (s.heap.objs.size + 1)))) { s with heap := (s.heap.push { cls := .type "tuple_iterator", data := .fields #[.ref t, .int 0 0] }).push { cls := .type "enumerate", data := .fields #[.none, .bool false, .ref s.heap.objs.size, rawInt 0, .none, .none] } }) :=
  .of_wp fun prog w A R s h => by
    obtain ⟨h0, g, d, tk, os⟩ := s
    obtain ⟨hT, h⟩ := h
    have hz : (h0.push { cls := .type "tuple_iterator", data := .fields #[.ref t, .int 0 0] }).objs.size = h0.objs.size + 1 := Heap.size_push ..
    rw [← hz] at h
    have se := sub_enumerate
    have go : ∀ {A2 : Around} {E2 Q2 : Value → Shared → Prop}, Q2 (.ref h0.objs.size) ⟨h0.push { cls := .type "tuple_iterator", data := .fields #[.ref t, .int 0 0] }, g, d, tk, os⟩ → wpAny (model prog w) A2 (pyIter (.ref t)) Q2 E2 ⟨h0, g, d, tk, os⟩ :=
      fun k => wpAny_pyIter_tuple hT k
    wp_walk using go
    refine wpAny_stack_any fun _ => wpAny_pure ?_
    split
    · rename_i c _ _ _ _ _
      rcases hb : (c == Value.type "enumerate") <;> wp_walk using go <;> exact ⟨_, rfl, h⟩
    · wp_walk using go
      exact ⟨_, rfl, h⟩
theorem enumT_call {prog : Program} {w : World} {A : Around} {E Q : Value → Shared → Prop} {s : Shared} {t : Addr} {its : Array Value} (hT : s.heap.IsTuple t its)
    (k : ∀ h', IsEnum h' (s.heap.objs.size + 1) s.heap.objs.size 0 .none → h'.IsTupleIter s.heap.objs.size t 0 → (∀ b o, s.heap.get? b = some o → h'.get? b = some o) → Q (.ref (s.heap.objs.size + 1)) { s with heap := h' }) :
    wpAny (model prog w) A (call (.type "enumerate") [.ref t]) Q E s := by
  have hz : (s.heap.push { cls := .type "tuple_iterator", data := .fields #[.ref t, .int 0 0] }).objs.size = s.heap.objs.size + 1 := Heap.size_push ..
  have he := Heap.get?_push_size (s.heap.push { cls := .type "tuple_iterator", data := .fields #[.ref t, .int 0 0] }) (o := { cls := .type "enumerate", data := .fields #[.none, .bool false, .ref s.heap.objs.size, rawInt 0, .none, .none] }) rfl
  rw [hz] at he
  refine callType_new F.called_enumerate (by decide) (F.typeCall_enumerate_1 _) (F.newCall_enumerate_1 _) (fun o => F.args_object_init_2 o _) F.entry_enumerate_new (enumT_new t its) ⟨hT, ?_⟩
  exact ⟨⟨_, he, rfl⟩, k _ he ⟨_, Heap.get?_push_of_some _ (Heap.get?_push_size _ rfl), rfl, rfl⟩ fun b o z => Heap.get?_push_of_some _ (Heap.get?_push_of_some _ z)⟩
def IteT (K : PySem.W.Frag) (a : Addr) : It :=
  ⟨fun i H => ∃ xs x, SqT K H a xs ∧ xs[i]? = some x, fun i H v H' => ∃ T x, v = .ref T ∧ H T = none ∧ H' = upd H T (.tup [.int (i : Nat), x]) ∧ ∀ xs, SqT K H a xs → xs[i]? = some x, fun i H => ∃ xs, SqT K H a xs ∧ xs.length ≤ i⟩
theorem cls_ne {h : Heap} {a b : Addr} {S T : String} (p : ∃ o, h.get? a = some o ∧ o.cls = .type S) (q : ∃ o, h.get? b = some o ∧ o.cls = .type T) (n : S ≠ T) : a ≠ b := by
  rintro rfl
  obtain ⟨o, e1, e2⟩ := p
  obtain ⟨o', e3, e4⟩ := q
  rw [e1] at e3
  cases e3
  rw [e2] at e4
  cases e4
  exact n rfl
theorem turn_enumT {P : Program} {w : World} {K : PySem.W.Frag} {elts : List Expr} {kk : Nat} {tp : Pos} (a e it : Addr) :
    Turn P w K (.Tuple elts kk tp) (IteT K a) [e, it] e (fun i h => (∃ z, IsEnum h e it ((i : Nat) : Int) z) ∧ h.IsTupleIter it a i ∧ e ≠ it) where
  mem := List.mem_cons_self ..
  obj := fun i h st b hb => by
    obtain ⟨⟨z, he⟩, ⟨o, ho, _, hd⟩, _⟩ := st
    simp only [List.mem_cons, List.not_mem_nil, or_false] at hb
    rcases hb with rfl | rfl
    · exact ⟨_, he, fun v q => nomatch q⟩
    · refine ⟨o, ho, fun v q => ?_⟩
      rw [hd] at q
      cases q
  keep := fun i h h' st k => let ⟨⟨z, he⟩, hi, n⟩ := st; ⟨⟨z, k e (by simp) _ he⟩, hi.at fun o q => k it (by simp) o q, n⟩
  item := by
    intro X hP hw hK hc i pins s σ H E I hf st hg
    subst hP hw hK
    obtain ⟨⟨z, he⟩, hi, n⟩ := st
    obtain ⟨xs, x, hq, hx⟩ := hg
    obtain ⟨its, rv, p, hz⟩ := I.tuple hq
    obtain ⟨u, hu, ru⟩ := rv.get hx
    have hT : s.heap.IsTuple a its.toArray := p
    have cT : ∃ o, s.heap.get? a = some o ∧ o.cls = .type "tuple" := let ⟨o, e1, e2, _⟩ := hT; ⟨o, e1, e2⟩
    have cI : ∃ o, s.heap.get? it = some o ∧ o.cls = .type "tuple_iterator" := let ⟨o, e1, e2, _⟩ := hi; ⟨o, e1, e2⟩
    have ai : a ≠ it := cls_ne cT cI (by decide)
    have ea : e ≠ a := Ne.symm (cls_ne cT ⟨_, he, rfl⟩ (by decide))
    have le : e < s.heap.objs.size := Heap.lt_size he
    have li : it < s.heap.objs.size := let ⟨_, q, _⟩ := cI; Heap.lt_size q
    have hd1 : X.A.in1.handled = none := I.ok.hd hc
    refine wpAny_pyNext_enum_itemD (Draws.tuple hd1 it a ai its.toArray) he ⟨hi, hT⟩ (by
      have := (List.getElem?_eq_some_iff.mp hu).1
      simpa using this) n (by simp [n, ea]) fun y h' tk hy ho hst hT2 hsz hk => ?_
    obtain rfl : u = y := by
      have hy' : its[i]? = some y := by simpa using hy
      rw [hu] at hy'
      exact Option.some.inj hy'
    refine ⟨_, rfl, wpAny_letOwnedTupleGo_enum (s := { s with heap := h', toks := tk + 1 }) ho fun h2 he2 sb => ?_⟩
    have hT3 : h2.get? s.heap.objs.size = some { cls := .type "tuple", data := .seq #[.int i tk, u] } := (sb.2 _ (Nat.ne_of_gt le)).trans hT2
    have new : ObjOk X.prog X.w (upd H s.heap.objs.size (.tup [.int (i : Nat), x])) h2 s.heap.objs.size (.tup [.int (i : Nat), x]) :=
      ⟨(show 2 ≤ sizeLine by decide), [.int i tk, u], .cons ⟨_, rfl⟩ (.cons ru .nil), ⟨_, hT3, rfl, _, rfl⟩⟩
    have I1 : Inv X pins σ (upd H s.heap.objs.size (.tup [.int (i : Nat), x])) { s with heap := h2, toks := tk + 1 } :=
      I.turnedNew (ch := [e, it]) (fun b ob hb q => (sb.2 b fun c => hb (by simp [c])).trans (hk b ob (fun c => hb (by simp [c])) (fun c => hb (by simp [c])) q)) hf (Nat.le_refl _) new
    refine ⟨.ref s.heap.objs.size, _, I1, rfl, ⟨_, x, rfl, I.hok.fresh (Nat.le_refl _), rfl, fun ys hy => ?_⟩, ⟨⟨u, ?_⟩, hst.1.at fun o q => (sb.2 it (Ne.symm n)).trans q, n⟩, fun b hb => ?_⟩
    · rw [I.tuple_inj hy hq]
      exact hx
    · rw [show ((i + 1 : Nat) : Int) = (i : Int) + 1 by omega]
      exact he2
    · have lb : b < s.heap.objs.size := by
        simp only [List.mem_cons, List.not_mem_nil, or_false] at hb
        rcases hb with rfl | rfl <;> assumption
      rw [upd_ne (Nat.ne_of_lt lb)]
      exact (hf b hb).1
  done := by
    intro X hP hw hK hc i pins s σ H E I hf st hg
    subst hP hw hK
    obtain ⟨⟨z, he⟩, hi, n⟩ := st
    obtain ⟨xs, hq, hx⟩ := hg
    obtain ⟨its, rv, p, hz⟩ := I.tuple hq
    have hT : s.heap.IsTuple a its.toArray := p
    have cT : ∃ o, s.heap.get? a = some o ∧ o.cls = .type "tuple" := let ⟨o, e1, e2, _⟩ := hT; ⟨o, e1, e2⟩
    have cI : ∃ o, s.heap.get? it = some o ∧ o.cls = .type "tuple_iterator" := let ⟨o, e1, e2, _⟩ := hi; ⟨o, e1, e2⟩
    have ai : a ≠ it := cls_ne cT cI (by decide)
    obtain ⟨f0, f1, f2, f3, f4, f5⟩ := hf it (by simp)
    have hl := rv.length
    have hd1 : X.A.in1.handled = none := I.ok.hd hc
    have D0 : Draws X.prog X.w X.A.in1 it [it, a] i (fun _ _ => True) (fun j h => j = i ∧ h.IsTupleIter it a i ∧ h.IsTuple a its.toArray) := {
      live := fun _ _ st => let ⟨o, ho, _⟩ := st.2.1; ⟨o, ho⟩
      frame := fun _ _ _ st k => ⟨st.1, st.2.1.at fun o e => k it (by simp) o e, st.2.2.at fun o e => k a (by simp) o e⟩
      item := fun j s1 Q1 E1 hj st _ => absurd st.1 (Nat.ne_of_lt hj)
      done := fun s1 Q1 E1 st hE => wpAny_nextOf_tuple_end hd1 st.2.1 st.2.2 (by simp; omega) hE }
    exact wpAny_pyNext_enum_endD D0 he ⟨rfl, hi, hT⟩ fun h' eb => ⟨rfl, I.turned (t' := s.toks) (fun b o hb e => eb b o hb e) f0 f1 f3 f4 f5⟩
  self := fun A i s Q E st h => let ⟨⟨_, he⟩, _⟩ := st; wpAny_pyIter_enum he h
def iEnumT (K : PySem.W.Frag) (ta : TA) : TI := fun σ H R => ta σ H fun vs H1 => ∃ a, vs = [.ref a] ∧ (∃ xs, SqT K H1 a xs) ∧ R (IteT K a) H1
theorem pi_enumT {X : Cx} {e : Expr} {ta : TA} {p pos tp : Pos} {elts : List Expr} {kk : Nat} (hg : Gl X "enumerate") (hm : X.mg "enumerate" = none) (ha : PA X [e] ta) (hs : starEach [e] X.env = [(false, eval e X.env)] := by rfl) :
    PI X (.Tuple elts kk tp) (.Call (.Name "enumerate" p) [e] [] pos) (iEnumT X.K ta) := by
  refine ⟨fun pins s σ H R I h => Call_ (ld_blt I hg hm boot_enumerate (PyProof.Rows.callWith_type1 (thn (ha.run pos pins s σ H _ I h) fun us s1 ⟨vs, H1, I1, r1, q1⟩ => ?_) hs rfl))⟩
  obtain ⟨a, ex, ⟨xs, hq⟩, q⟩ := q1
  subst ex
  cases r1 with
  | cons r rr =>
    cases rr
    cases r
    obtain ⟨its, rv, pT, hz⟩ := I1.tuple hq
    refine enumT_call (show s1.heap.IsTuple a its.toArray from pT) fun h' he hi hk => wpAny_pyIter_enum he ?_
    refine ⟨s1.heap.objs.size + 1, [s1.heap.objs.size + 1, s1.heap.objs.size], _, _, H1, rfl, I1.kept (t' := s1.toks) hk, turn_enumT a (s1.heap.objs.size + 1) s1.heap.objs.size, ⟨⟨.none, he⟩, hi, Nat.succ_ne_self _⟩, fun b hb => ?_, q⟩
    have lb : s1.heap.objs.size ≤ b := by
      simp only [List.mem_cons, List.not_mem_nil, or_false] at hb
      rcases hb with z | z
      · exact z ▸ Nat.le_succ _
      · exact z ▸ Nat.le_refl _
    exact I1.fpOk lb (I1.hok.fresh lb)
theorem walk_enumT {K : PySem.W.Frag} {a : Addr} {xs : List V} : Walk (IteT K a) xs.length (fun H => SqT K H a xs) (YPair (fun i => some (.int (i : Nat))) (fun i => xs[i]?)) := by
  refine ⟨fun i _ hi q => ⟨xs, xs[i], q, by simp [hi]⟩, fun _ q => ⟨xs, q, Nat.le_refl _⟩, fun i H v H' _ q y => ?_⟩
  obtain ⟨T, x, e1, e2, e3, e4⟩ := y
  exact ⟨T, .int (i : Nat), x, e1, e2, e3, rfl, e4 xs q⟩
end TL
namespace TL
/-! ### the clearing of a matrix, as the program does it -/
def ffrom (M : List (List Int)) (c : Nat) : Nat → Nat → Option Nat
  | _, 0 => none
  | i, n + 1 => if (M.getD i []).getD c 0 ≠ 0 then some i else ffrom M c (i + 1) n
def swapR (M : List (List Int)) (i j : Nat) : List (List Int) := (M.set i (M.getD j [])).set j (M.getD i [])
def redRow (last : Int) (head : List Int) (c : Nat) (row : List Int) : List Int :=
  List.zipWith (fun own top => (head.getD c 0 * own - row.getD c 0 * top).fdiv last) row head
/-- the rows from r + 1 up to k are reduced -/
def redTo (last : Int) (head : List Int) (c r k : Nat) (M : List (List Int)) : List (List Int) :=
  M.mapIdx fun i row => if r < i ∧ i < k then redRow last head c row else row
abbrev CSt := List (List Int) × Nat × Int × Int
def pivM (M : List (List Int)) (r f : Nat) : List (List Int) := if f = r then M else swapR M r f
def stepC (c : Nat) (s : CSt) : CSt :=
  match ffrom s.1 c s.2.1 (s.1.length - s.2.1) with
  | none => s
  | some f =>
    let M1 := pivM s.1 s.2.1 f
    let head := M1.getD s.2.1 []
    (redTo s.2.2.2 head c s.2.1 M1.length M1, s.2.1 + 1, if f = s.2.1 then s.2.2.1 else - s.2.2.1, head.getD c 0)
def clrN (M : List (List Int)) : Nat → CSt
  | 0 => (M, 0, 1, 1)
  | c + 1 => stepC c (clrN M c)
def widthOf (M : List (List Int)) : Nat := (M.getD 0 []).length
def clrRank (M : List (List Int)) : Nat := (clrN M (widthOf M)).2.1
def clrDet (M : List (List Int)) : Int := (clrN M (widthOf M)).2.2.1 * (clrN M (widthOf M)).2.2.2
/-! ### sizes -/
def Ent (b : Nat) (M : List (List Int)) : Prop := ∀ row ∈ M, ∀ x ∈ row, x.natAbs < 2 ^ b
def RowsW (w : Nat) (M : List (List Int)) : Prop := ∀ row ∈ M, row.length = w
def bk (E : Nat) : Nat → Nat
  | 0 => E
  | k + 1 => 2 * bk E k + 1
theorem fdiv_le (a d : Int) (hd : d ≠ 0) : (a.fdiv d).natAbs ≤ a.natAbs := by
  have h := Int.mul_fdiv_add_fmod a d
  have hq : ∀ q r : Int, d * q + r = a → (0 < d → 0 ≤ r ∧ r < d) → (d < 0 → d < r ∧ r ≤ 0) → q.natAbs ≤ a.natAbs := by
    intro q r e p1 p2
    rcases Int.lt_or_gt_of_ne hd with c | c
    · obtain ⟨r1, r2⟩ := p2 c
      rcases Int.lt_trichotomy q 0 with z | z | z
      · have : (-d) * (-q) ≥ 1 * (-q) := Int.mul_le_mul_of_nonneg_right (by omega) (by omega)
        rw [Int.neg_mul_neg] at this
        have h2 : d * q = d * (q + 1) - d := by rw [Int.mul_add]; omega
        have h3 : 0 ≤ d * (q + 1) := Int.mul_nonneg_of_nonpos_of_nonpos (by omega) (by omega)
        have h4 : (-d) * (-(q + 1)) ≥ 1 * (-(q + 1)) := Int.mul_le_mul_of_nonneg_right (by omega) (by omega)
        rw [Int.neg_mul_neg] at h4
        omega
      · omega
      · have : (-d) * q ≥ 1 * q := Int.mul_le_mul_of_nonneg_right (by omega) (by omega)
        rw [Int.neg_mul] at this
        omega
    · obtain ⟨r1, r2⟩ := p1 c
      rcases Int.lt_trichotomy q 0 with z | z | z
      · have h2 : d * q = d * (q + 1) - d := by rw [Int.mul_add]; omega
        have h4 : d * (-(q + 1)) ≥ 1 * (-(q + 1)) := Int.mul_le_mul_of_nonneg_right (by omega) (by omega)
        rw [Int.mul_neg] at h4
        omega
      · omega
      · have : d * q ≥ 1 * q := Int.mul_le_mul_of_nonneg_right (by omega) (by omega)
        omega
  exact hq _ _ h (fun c => ⟨Int.fmod_nonneg_of_pos a c, Int.fmod_lt_of_pos a c⟩) fun c => by
    have h1 := Int.fmod_nonneg_of_pos (-a) (b := -d) (by omega)
    have h2 := Int.fmod_lt_of_pos (-a) (b := -d) (by omega)
    have h3 : (-a).fmod (-d) = - a.fmod d := Int.neg_fmod_neg ..
    omega
theorem len_swap (M : List (List Int)) (i j : Nat) : (swapR M i j).length = M.length := by simp [swapR]
theorem len_piv (M : List (List Int)) (r f : Nat) : (pivM M r f).length = M.length := by
  unfold pivM
  split
  · rfl
  · exact len_swap ..
theorem len_red (l : Int) (h : List Int) (c r k : Nat) (M : List (List Int)) : (redTo l h c r k M).length = M.length := by simp [redTo]
theorem red_at (l : Int) (h : List Int) (c r k : Nat) (M : List (List Int)) (i : Nat) : (redTo l h c r k M)[i]? = M[i]?.map fun row => if r < i ∧ i < k then redRow l h c row else row := by
  unfold redTo
  rw [List.getElem?_mapIdx]
theorem red_start (l : Int) (h : List Int) (c r : Nat) (M : List (List Int)) : redTo l h c r (r + 1) M = M := by
  apply List.ext_getElem?
  intro i
  rw [red_at]
  have : ¬ (r < i ∧ i < r + 1) := by omega
  simp only [if_neg this]
  cases M[i]? <;> rfl
theorem red_step {l : Int} {h : List Int} {c r k : Nat} {M : List (List Int)} {row : List Int} (hr : r < k) (hk : M[k]? = some row) : redTo l h c r (k + 1) M = (redTo l h c r k M).set k (redRow l h c row) := by
  apply List.ext_getElem?
  intro i
  rw [red_at, List.getElem?_set]
  have hlen : k < M.length := (List.getElem?_eq_some_iff.mp hk).1
  by_cases e : k = i
  · subst e
    rw [if_pos rfl, if_pos (by rw [len_red]; exact hlen), hk]
    simp only [Option.map_some]
    rw [if_pos ⟨hr, by omega⟩]
  · rw [if_neg e, red_at]
    cases M[i]? with
    | none => rfl
    | some z =>
      simp only [Option.map_some]
      by_cases d : r < i ∧ i < k
      · rw [if_pos d, if_pos ⟨d.1, by omega⟩]
      · rw [if_neg d, if_neg (by omega)]
theorem red_keep {l : Int} {h : List Int} {c r k : Nat} {M : List (List Int)} {i : Nat} (hi : i ≤ r ∨ k ≤ i) : (redTo l h c r k M)[i]? = M[i]? := by
  rw [red_at]
  have : ¬ (r < i ∧ i < k) := by omega
  simp only [if_neg this]
  cases M[i]? <;> rfl
theorem ffrom_some {M : List (List Int)} {c : Nat} : ∀ {n i f : Nat}, ffrom M c i n = some f → i ≤ f ∧ f < i + n ∧ (M.getD f []).getD c 0 ≠ 0
  | 0, i, f, h => by cases h
  | n + 1, i, f, h => by
    unfold ffrom at h
    split at h
    · cases h
      exact ⟨Nat.le_refl _, by omega, by assumption⟩
    · have := ffrom_some h
      exact ⟨by omega, by omega, this.2.2⟩
theorem getD_mem {M : List (List Int)} {i : Nat} (h : i < M.length) : M.getD i [] ∈ M := by
  rw [List.getD_eq_getElem?_getD, List.getElem?_eq_getElem h]
  exact List.getElem_mem h
theorem getD_some {M : List (List Int)} {i : Nat} (h : i < M.length) : M[i]? = some (M.getD i []) := by
  rw [List.getD_eq_getElem?_getD, List.getElem?_eq_getElem h]
  rfl
theorem swap_mem {M : List (List Int)} {i j : Nat} (hi : i < M.length) (hj : j < M.length) : ∀ x ∈ swapR M i j, x ∈ M := fun x hx => by
  unfold swapR at hx
  rcases List.mem_or_eq_of_mem_set hx with h | h
  · rcases List.mem_or_eq_of_mem_set h with h | h
    · exact h
    · rw [h]
      exact getD_mem hj
  · rw [h]
    exact getD_mem hi
theorem piv_mem {M : List (List Int)} {r f : Nat} (hr : r < M.length) (hf : f < M.length) : ∀ x ∈ pivM M r f, x ∈ M := fun x hx => by
  unfold pivM at hx
  split at hx
  · exact hx
  · exact swap_mem hr hf x hx
theorem piv_at {M : List (List Int)} {r f : Nat} (hr : r < M.length) (hf : f < M.length) : (pivM M r f)[r]? = some (M.getD f []) := by
  unfold pivM
  split
  · rename_i e
    rw [e]
    exact getD_some hr
  · rename_i e
    unfold swapR
    rw [List.getElem?_set_ne e, List.getElem?_set_self hr]
theorem getD_of {M : List (List Int)} {i : Nat} {row : List Int} (h : M[i]? = some row) : M.getD i [] = row := by
  rw [List.getD_eq_getElem?_getD, h]
  rfl
theorem abs2 {p q u v : Int} {b : Nat} (a1 : p.natAbs < 2 ^ b) (a2 : q.natAbs < 2 ^ b) (a3 : u.natAbs < 2 ^ b) (a4 : v.natAbs < 2 ^ b) : (p * u - q * v).natAbs < 2 ^ (2 * b + 1) := by
  have m1 : (p * u).natAbs < 2 ^ b * 2 ^ b := by
    rw [Int.natAbs_mul]
    exact Nat.mul_lt_mul'' a1 a3
  have m2 : (q * v).natAbs < 2 ^ b * 2 ^ b := by
    rw [Int.natAbs_mul]
    exact Nat.mul_lt_mul'' a2 a4
  have e : 2 ^ (2 * b + 1) = 2 ^ b * 2 ^ b + 2 ^ b * 2 ^ b := by
    rw [Nat.pow_succ, Nat.two_mul, Nat.pow_add]
    omega
  rw [e]
  omega
theorem red_row_ent {b : Nat} {l : Int} {h row : List Int} {c : Nat} (hl : l ≠ 0) (hh : ∀ x ∈ h, x.natAbs < 2 ^ b) (hr : ∀ x ∈ row, x.natAbs < 2 ^ b) : ∀ x ∈ redRow l h c row, x.natAbs < 2 ^ (2 * b + 1) := by
  have g : ∀ (xs : List Int), (∀ x ∈ xs, x.natAbs < 2 ^ b) → (xs.getD c 0).natAbs < 2 ^ b := fun xs hx => by
    rw [List.getD_eq_getElem?_getD]
    rcases Nat.lt_or_ge c xs.length with z | z
    · rw [List.getElem?_eq_getElem z]
      exact hx _ (List.getElem_mem z)
    · rw [List.getElem?_eq_none z]
      exact Nat.pow_pos (by decide)
  intro x hx
  obtain ⟨i, hi, rfl⟩ := List.mem_iff_getElem.mp hx
  unfold redRow at hi ⊢
  rw [List.getElem_zipWith]
  refine Nat.lt_of_le_of_lt (fdiv_le _ _ hl) ?_
  simp only [List.length_zipWith] at hi
  have a1 := g h hh
  have a2 := g row hr
  have a3 := hr row[i] (List.getElem_mem _)
  have a4 := hh h[i] (List.getElem_mem _)
  exact abs2 a1 a2 a3 a4
theorem red_ent {b : Nat} {l : Int} {h : List Int} {c r k : Nat} {M : List (List Int)} (hl : l ≠ 0) (hh : ∀ x ∈ h, x.natAbs < 2 ^ b) (hM : Ent b M) : Ent (2 * b + 1) (redTo l h c r k M) := fun row hrow => by
  obtain ⟨i, e⟩ := List.mem_iff_getElem?.mp hrow
  rw [red_at] at e
  obtain ⟨z, hz, rfl⟩ := Option.map_eq_some_iff.mp e
  have hz' := hM z (List.mem_of_getElem? hz)
  split
  · exact red_row_ent hl hh hz'
  · intro x hx
    exact Nat.lt_of_lt_of_le (hz' x hx) (Nat.pow_le_pow_right (by decide) (by omega))
theorem red_rows {w : Nat} {l : Int} {h : List Int} {c r k : Nat} {M : List (List Int)} (hh : h.length = w) (hM : RowsW w M) : RowsW w (redTo l h c r k M) := fun row hrow => by
  obtain ⟨i, e⟩ := List.mem_iff_getElem?.mp hrow
  rw [red_at] at e
  obtain ⟨z, hz, rfl⟩ := Option.map_eq_some_iff.mp e
  have hz' := hM z (List.mem_of_getElem? hz)
  split
  · simp [redRow, hz', hh]
  · exact hz'
/-- what holds behind each column -/
structure ClrI (E n w : Nat) (s : CSt) : Prop where
  len : s.1.length = n
  rows : RowsW w s.1
  ent : Ent (bk E s.2.1) s.1
  le : s.2.1 ≤ n
  nz : s.2.2.2 ≠ 0
  sm : s.2.2.2.natAbs < 2 ^ bk E s.2.1
theorem bk_pos (E : Nat) (hE : 0 < E) : ∀ k, 0 < bk E k
  | 0 => hE
  | k + 1 => by unfold bk; omega
theorem clrI_start {E w : Nat} {M : List (List Int)} (hE : 0 < E) (hM : Ent E M) (hw : RowsW w M) : ClrI E M.length w (M, 0, 1, 1) :=
  ⟨rfl, hw, hM, Nat.zero_le _, by show (1 : Int) ≠ 0; decide, Nat.one_lt_two_pow (by show E ≠ 0; omega)⟩
theorem clrI_step {E n w c : Nat} {s : CSt} (h : ClrI E n w s) : ClrI E n w (stepC c s) := by
  obtain ⟨M, r, sg, last⟩ := s
  unfold stepC
  dsimp only
  split
  · exact h
  · rename_i f hf
    obtain ⟨f1, f2, f3⟩ := ffrom_some hf
    have hl : M.length = n := h.len
    have hle : r ≤ n := h.le
    have hfl : f < M.length := by omega
    have hrl : r < M.length := by omega
    have hp := piv_at hrl hfl
    have hd : (pivM M r f).getD r [] = M.getD f [] := getD_of hp
    have hmem := getD_mem hfl
    have hpe : Ent (bk E r) (pivM M r f) := fun row hr => h.ent row (piv_mem hrl hfl row hr)
    have hpw : RowsW w (pivM M r f) := fun row hr => h.rows row (piv_mem hrl hfl row hr)
    have hhe := h.ent _ hmem
    refine ⟨by dsimp only; rw [len_red, len_piv]; exact hl, red_rows (by rw [hd]; exact h.rows _ hmem) hpw, red_ent h.nz (by rw [hd]; exact hhe) hpe, by dsimp only; omega, by rw [hd]; exact f3, ?_⟩
    dsimp only
    rw [hd]
    have g : ((M.getD f []).getD c 0).natAbs < 2 ^ bk E r := by
      generalize M.getD f [] = xs at *
      rw [List.getD_eq_getElem?_getD]
      rcases Nat.lt_or_ge c xs.length with z | z
      · rw [List.getElem?_eq_getElem z]
        exact hhe _ (List.getElem_mem z)
      · rw [List.getElem?_eq_none z]
        exact Nat.pow_pos (by decide)
    exact Nat.lt_of_lt_of_le g (Nat.pow_le_pow_right (by decide) (by show bk E r ≤ 2 * bk E r + 1; omega))
theorem clrI_n {E w : Nat} {M : List (List Int)} (hE : 0 < E) (hM : Ent E M) (hw : RowsW w M) : ∀ c, ClrI E M.length w (clrN M c)
  | 0 => clrI_start hE hM hw
  | c + 1 => clrI_step (clrI_n hE hM hw c)
theorem bk_le {E k m : Nat} (h : k ≤ m) : bk E k ≤ bk E m := by
  induction m with
  | zero => rw [Nat.le_zero.mp h]; exact Nat.le_refl _
  | succ m ih =>
    rcases Nat.lt_or_ge k (m + 1) with c | c
    · have := ih (by omega)
      show bk E k ≤ 2 * bk E m + 1
      omega
    · rw [Nat.le_antisymm h c]
      exact Nat.le_refl _
theorem rank_le (M : List (List Int)) : ∀ c, (clrN M c).2.1 ≤ c
  | 0 => Nat.le_refl _
  | c + 1 => by
    have ih := rank_le M c
    show (stepC c (clrN M c)).2.1 ≤ c + 1
    unfold stepC
    split
    · omega
    · dsimp only
      omega
theorem sign_one (M : List (List Int)) : ∀ c, (clrN M c).2.2.1 = 1 ∨ (clrN M c).2.2.1 = -1
  | 0 => .inl rfl
  | c + 1 => by
    have ih := sign_one M c
    show (stepC c (clrN M c)).2.2.1 = 1 ∨ (stepC c (clrN M c)).2.2.1 = -1
    unfold stepC
    split
    · exact ih
    · dsimp only
      split <;> omega
end TL
namespace TL
open PySem PySem.Spec PyProof.Rows L2 PySem.W
/-! ### zip of a tuple and a list -/
theorem at_tuple {prog : Program} {w : World} {A : Around} (hh : A.handled = none) {it t : Addr} {h : Heap} {its : Array Value} {i : Nat} (hi : h.IsTupleIter it t i) (hT : h.IsTuple t its) (ne : t ≠ it) :
    ∃ n P St, Draws prog w A it [it, t] n P St ∧ St i h ∧ i ≤ n ∧ (its.size ≤ i → n = i) := by
  by_cases c : i ≤ its.size
  · exact ⟨_, _, _, Draws.tuple hh it t ne its, ⟨hi, hT⟩, c, fun z => Nat.le_antisymm z c⟩
  · refine ⟨i, fun _ _ => True, fun j g => j = i ∧ g.IsTupleIter it t i ∧ g.IsTuple t its, ⟨fun _ _ st => let ⟨o, ho, _⟩ := st.2.1; ⟨o, ho⟩, fun _ _ _ st k => ⟨st.1, st.2.1.at fun o e => k it (by simp) o e, st.2.2.at fun o e => k t (by simp) o e⟩, fun j _ _ _ hj st _ => absurd st.1 (Nat.ne_of_lt hj),
      fun _ _ _ st hE => wpAny_nextOf_tuple_end hh st.2.1 st.2.2 (Array.getElem?_eq_none (by omega)) hE⟩, ⟨rfl, hi, hT⟩, Nat.le_refl _, fun _ => rfl⟩
theorem at_list {prog : Program} {w : World} {A : Around} (hh : A.handled = none) {it t : Addr} {h : Heap} {its : Array Value} {i : Nat} (hi : h.IsListIter it t i) (hT : h.IsList t its) (ne : t ≠ it) :
    ∃ n P St, Draws prog w A it [it, t] n P St ∧ St i h ∧ i ≤ n ∧ (its.size ≤ i → n = i) := by
  by_cases c : i ≤ its.size
  · exact ⟨_, _, _, Draws.list hh it t ne its, ⟨hi, hT⟩, c, fun z => Nat.le_antisymm z c⟩
  · refine ⟨i, fun _ _ => True, fun j g => j = i ∧ g.IsListIter it t i ∧ g.IsList t its, ⟨fun _ _ st => let ⟨o, ho, _⟩ := st.2.1; ⟨o, ho⟩, fun _ _ _ st k => ⟨st.1, st.2.1.at fun o e => k it (by simp) o e, st.2.2.at fun o e => k t (by simp) o e⟩, fun j _ _ _ hj st _ => absurd st.1 (Nat.ne_of_lt hj),
      fun _ _ _ st hE => wpAny_nextOf_list_end hh st.2.1 st.2.2 (Array.getElem?_eq_none (by omega)) hE⟩, ⟨rfl, hi, hT⟩, Nat.le_refl _, fun _ => rfl⟩
def ItzM (K : PySem.W.Frag) (a b : Addr) : It :=
  ⟨fun i H => ∃ xs ys x y, SqT K H a xs ∧ SqL K H b ys ∧ xs[i]? = some x ∧ ys[i]? = some y,
    fun i H v H' => ∃ T x y, v = .ref T ∧ H T = none ∧ H' = upd H T (.tup [x, y]) ∧ (∀ xs, SqT K H a xs → xs[i]? = some x) ∧ ∀ ys, SqL K H b ys → ys[i]? = some y,
    fun i H => ∃ xs ys, SqT K H a xs ∧ SqL K H b ys ∧ (xs.length ≤ i ∨ ys.length ≤ i)⟩
theorem turn_zipM {P : Program} {w : World} {K : PySem.W.Frag} {elts : List Expr} {kk : Nat} {tp : Pos} {a b z TI TO i1 i2 : Addr} (S : ZipSep2 z TI TO i1 i2 [i1, a] [i2, b]) :
    Turn P w K (.Tuple elts kk tp) (ItzM K a b) [z, TI, TO, i1, i2] z (fun i h => IsZip h z TI TO .none ∧ IsPair h TI (.ref i1) (.ref i2) ∧ (∃ x y, IsPair h TO x y) ∧ h.IsTupleIter i1 a i ∧ h.IsListIter i2 b i) where
  mem := List.mem_cons_self ..
  obj := fun i h st c hc => by
    obtain ⟨hz, hTI, ⟨x, y, hTO⟩, ⟨o1, e1, _, d1⟩, ⟨o2, e2, _, d2⟩⟩ := st
    simp only [List.mem_cons, List.not_mem_nil, or_false] at hc
    rcases hc with rfl | rfl | rfl | rfl | rfl
    · exact ⟨_, hz, fun v q => nomatch q⟩
    · exact ⟨_, hTI, fun v q => nomatch q⟩
    · exact ⟨_, hTO, fun v q => nomatch q⟩
    · exact ⟨o1, e1, fun v q => by rw [d1] at q; cases q⟩
    · exact ⟨o2, e2, fun v q => by rw [d2] at q; cases q⟩
  keep := fun i h h' st k => by
    obtain ⟨hz, hTI, ⟨x, y, hTO⟩, e1, e2⟩ := st
    exact ⟨k z (by simp) _ hz, k TI (by simp) _ hTI, ⟨x, y, k TO (by simp) _ hTO⟩, e1.at fun o q => k i1 (by simp) o q, e2.at fun o q => k i2 (by simp) o q⟩
  item := by
    intro X hP hw hK hc i pins s σ H E I hf st hg
    subst hP hw hK
    obtain ⟨hz, hTI, ⟨x0, y0, hTO⟩, e1, e2⟩ := st
    obtain ⟨xs, ys, x, y, qx, qy, hx, hy⟩ := hg
    obtain ⟨t1, r1, p1, _⟩ := I.tuple qx
    obtain ⟨t2, r2, p2, _⟩ := I.list qy
    obtain ⟨u1, hu1, ru1⟩ := r1.get hx
    obtain ⟨u2, hu2, ru2⟩ := r2.get hy
    have hT : s.heap.IsTuple a t1.toArray := p1
    have hL : s.heap.IsList b t2.toArray := p2.isList
    have n1 : a ≠ i1 := cls_ne (let ⟨o, q1, q2, _⟩ := hT; ⟨o, q1, q2⟩) (let ⟨o, q1, q2, _⟩ := e1; ⟨o, q1, q2⟩) (by decide)
    have n2 : b ≠ i2 := cls_ne (let ⟨o, q1, q2, _⟩ := hL; ⟨o, q1, q2⟩) (let ⟨o, q1, q2, _⟩ := e2; ⟨o, q1, q2⟩) (by decide)
    have hh : X.A.in1.handled = none := I.ok.hd hc
    have lz : z < s.heap.objs.size := Heap.lt_size hz
    have l1 : i < t1.toArray.size := by simpa using (List.getElem?_eq_some_iff.mp hu1).1
    have l2 : i < t2.toArray.size := by simpa using (List.getElem?_eq_some_iff.mp hu2).1
    refine wpAny_pyNext_zipD2_item S (Draws.tuple hh i1 a n1 t1.toArray) (Draws.list hh i2 b n2 t2.toArray) hz hTI hTO ⟨e1, hT⟩ ⟨e2, hL⟩ l1 l2 fun v1 v2 h' tk g1 g2 z' TO' s1 s2 hT2 hsz hk => ?_
    obtain rfl : u1 = v1 := Option.some.inj (hu1.symm.trans (by simpa using g1))
    obtain rfl : u2 = v2 := Option.some.inj (hu2.symm.trans (by simpa using g2))
    refine ⟨_, rfl, wpAny_letOwnedTupleGo_zip (s := { s with heap := h', toks := tk }) z' fun h2 z2 sb => ?_⟩
    have hT3 : h2.get? s.heap.objs.size = some { cls := .type "tuple", data := .seq #[u1, u2] } := (sb.2 _ (Nat.ne_of_gt lz)).trans hT2
    have new : ObjOk X.prog X.w (upd H s.heap.objs.size (.tup [x, y])) h2 s.heap.objs.size (.tup [x, y]) := ⟨(show 2 ≤ sizeLine by decide), [u1, u2], .cons ru1 (.cons ru2 .nil), ⟨_, hT3, rfl, _, rfl⟩⟩
    have I1 : Inv X pins σ (upd H s.heap.objs.size (.tup [x, y])) { s with heap := h2, toks := tk } :=
      I.turnedNew (ch := [z, TI, TO, i1, i2]) (fun c o hb q => (sb.2 c fun q' => hb (by simp [q'])).trans (hk c o (fun q' => hb (by simp [q'])) (fun q' => hb (by simp [q'])) (fun q' => hb (by simp [q'])) (fun q' => hb (by simp [q'])) q)) hf (Nat.le_refl _) new
    have z1 : z ≠ i1 := S.zi1
    have z3 : z ≠ i2 := S.zi2
    refine ⟨.ref s.heap.objs.size, _, I1, rfl, ⟨_, x, y, rfl, I.hok.fresh (Nat.le_refl _), rfl, fun l hl => by rw [I.tuple_inj hl qx]; exact hx, fun l hl => by rw [I.list_inj hl qy]; exact hy⟩, ⟨z2, ?_, ⟨u1, u2, ?_⟩, ?_, ?_⟩, fun c hcm => ?_⟩
    · exact (sb.2 _ S.TIz).trans (hk _ _ S.TIz S.TITO S.TIi1 S.TIi2 hTI)
    · exact (sb.2 _ S.TOz).trans TO'
    · exact s1.1.at fun o q => (sb.2 _ (Ne.symm z1)).trans q
    · exact s2.1.at fun o q => (sb.2 _ (Ne.symm z3)).trans q
    · have lc : c < s.heap.objs.size := by
        simp only [List.mem_cons, List.not_mem_nil, or_false] at hcm
        rcases hcm with rfl | rfl | rfl | rfl | rfl
        · exact lz
        · exact Heap.lt_size hTI
        · exact Heap.lt_size hTO
        · obtain ⟨_, q, _⟩ := e1
          exact Heap.lt_size q
        · obtain ⟨_, q, _⟩ := e2
          exact Heap.lt_size q
      rw [upd_ne (Nat.ne_of_lt lc)]
      exact (hf c hcm).1
  done := by
    intro X hP hw hK hc i pins s σ H E I hf st hg
    subst hP hw hK
    obtain ⟨hz, hTI, ⟨x0, y0, hTO⟩, e1, e2⟩ := st
    obtain ⟨xs, ys, qx, qy, hend⟩ := hg
    obtain ⟨t1, r1, p1, _⟩ := I.tuple qx
    obtain ⟨t2, r2, p2, _⟩ := I.list qy
    have hT : s.heap.IsTuple a t1.toArray := p1
    have hL : s.heap.IsList b t2.toArray := p2.isList
    have n1 : a ≠ i1 := cls_ne (let ⟨o, q1, q2, _⟩ := hT; ⟨o, q1, q2⟩) (let ⟨o, q1, q2, _⟩ := e1; ⟨o, q1, q2⟩) (by decide)
    have n2 : b ≠ i2 := cls_ne (let ⟨o, q1, q2, _⟩ := hL; ⟨o, q1, q2⟩) (let ⟨o, q1, q2, _⟩ := e2; ⟨o, q1, q2⟩) (by decide)
    have hh : X.A.in1.handled = none := I.ok.hd hc
    have l1 := r1.length
    have l2 := r2.length
    obtain ⟨m1, P1, S1, D1, g1, k1, f1⟩ := at_tuple (prog := X.prog) (w := X.w) hh e1 hT n1
    obtain ⟨m2, P2, S2, D2, g2, k2, f2⟩ := at_list (prog := X.prog) (w := X.w) hh e2 hL n2
    refine wpAny_pyNext_zipD2_end S D1 D2 hz hTI hTO g1 g2 k1 k2 ?_ fun h' tk hk => ⟨rfl, I.turnedL (t' := tk) (ch := [z, TI, TO, i1, i2]) (fun c o hb q => hk c o (fun q' => hb (by simp [q'])) (fun q' => hb (by simp [q'])) (fun q' => hb (by simp [q'])) (fun q' => hb (by simp [q'])) q) hf⟩
    rcases hend with q | q
    · exact .inl (f1 (by simp; omega)).symm
    · exact .inr (f2 (by simp; omega)).symm
  self := fun A i s Q E st h => wpAny_pyIter_zip st.1 h
/-- zip of a tuple and a list or a tuple -/
def ZipOf (K : PySem.W.Frag) (H : Hp) (a b : Addr) (ys : List V) (J : It) : Prop := (SqL K H b ys ∧ J = ItzM K a b) ∨ (SqT K H b ys ∧ J = RZ.ItzT K a b)
def iZipP (K : PySem.W.Frag) (ta : TA) : TI := fun σ H R => ta σ H fun vs H1 => ∃ a b xs ys, vs = [.ref a, .ref b] ∧ SqT K H1 a xs ∧ Sq K H1 b ys ∧ ∀ J, ZipOf K H1 a b ys J → R J H1
theorem pi_zipP {X : Cx} {e e2 : Expr} {ta : TA} {p pos tp : Pos} {elts : List Expr} {kk : Nat} (hg : Gl X "zip") (hm : X.mg "zip" = none) (ha : PA X [e, e2] ta)
    (hs : starEach [e, e2] X.env = (false, eval e X.env) :: starEach [e2] X.env := by rfl) (hpl : (backTo pos (starEach [e2] X.env)).any (·.1) = false := by rfl) :
    PI X (.Tuple elts kk tp) (.Call (.Name "zip" p) [e, e2] [] pos) (iZipP X.K ta) := by
  refine ⟨fun pins s σ H R I h => Call_ (ld_blt I hg hm PyProof.Rows.boot_zip (PyProof.Rows.callWith_type1 (thn (ha.run pos pins s σ H _ I h) fun us s1 ⟨vs, H1, I1, r1, q1⟩ => ?_) hs hpl))⟩
  obtain ⟨a, b, xs, ys, ex, hqx, hqB, q1⟩ := q1
  subst ex
  cases r1 with
  | cons r rr =>
    cases rr with
    | cons r' rr =>
      cases rr
      cases r
      cases r'
      have fresh5 : ∀ c, c ∈ [s1.heap.objs.size + 4, s1.heap.objs.size + 2, s1.heap.objs.size + 3, s1.heap.objs.size, s1.heap.objs.size + 1] → FpOk X pins H1 c := fun c hcm => by
        simp only [List.mem_cons, List.not_mem_nil, or_false] at hcm
        have lc : s1.heap.objs.size ≤ c := by
          rcases hcm with z | z | z | z | z
          · exact z ▸ Nat.le_add_right _ _
          · exact z ▸ Nat.le_add_right _ _
          · exact z ▸ Nat.le_add_right _ _
          · exact z ▸ Nat.le_refl _
          · exact z ▸ Nat.le_add_right _ _
        exact I1.fpOk lc (I1.hok.fresh lc)
      obtain ⟨its, rv, p1, _⟩ := I1.tuple hqx
      obtain ⟨o1, ho1, _⟩ := id p1
      have hT : s1.heap.IsTuple a its.toArray := p1
      rcases hqB with hqy | hqy
      · obtain ⟨its2, rv2, p2, _⟩ := I1.list hqy
        have hL : s1.heap.IsList b its2.toArray := p2.isList
        obtain ⟨o2, ho2, _⟩ := id hL
        refine zip_begins2 (begins_tuple a its.toArray) (begins_list b its2.toArray) hT hL fun h' hz hTI hTO h1 h2 hsz hk => wpAny_pyIter_zip hz ?_
        have I2 : Inv X pins σ H1 { s1 with heap := h' } := I1.kept (t' := s1.toks) hk
        exact ⟨s1.heap.objs.size + 4, [s1.heap.objs.size + 4, s1.heap.objs.size + 2, s1.heap.objs.size + 3, s1.heap.objs.size, s1.heap.objs.size + 1], _, _, H1, rfl, I2,
          turn_zipM (zip_sep2 (fp1 := [a]) (fp2 := [b]) (fun c hc => by rw [List.mem_singleton.mp hc]; exact Heap.lt_size ho1) (fun c hc => by rw [List.mem_singleton.mp hc]; exact Heap.lt_size ho2)), ⟨hz, hTI, ⟨_, _, hTO⟩, ⟨_, h1, rfl, rfl⟩, ⟨_, h2, rfl, rfl⟩⟩, fresh5, q1 _ (.inl ⟨hqy, rfl⟩)⟩
      · obtain ⟨its2, rv2, p2, _⟩ := I1.tuple hqy
        obtain ⟨o2, ho2, _⟩ := id p2
        refine RZ.call_zipT hT (show s1.heap.IsTuple b its2.toArray from p2) fun h' hz hTI hTO h1 h2 hsz hk => wpAny_pyIter_zip hz ?_
        have I2 : Inv X pins σ H1 { s1 with heap := h' } := I1.kept (t' := s1.toks) hk
        exact ⟨s1.heap.objs.size + 4, [s1.heap.objs.size + 4, s1.heap.objs.size + 2, s1.heap.objs.size + 3, s1.heap.objs.size, s1.heap.objs.size + 1], _, _, H1, rfl, I2, RZ.turn_zipT (PySem.W.ktu_apart s1.heap.objs.size a b (Heap.lt_size ho1) (Heap.lt_size ho2)), ⟨hz, hTI, ⟨_, _, hTO⟩, h1, h2⟩, fresh5, q1 _ (.inr ⟨hqy, rfl⟩)⟩
theorem walk_zipM {K : PySem.W.Frag} {a b : Addr} {xs ys : List V} (h : xs.length = ys.length) : Walk (ItzM K a b) xs.length (fun H => SqT K H a xs ∧ SqL K H b ys) (YPair (fun i => xs[i]?) (fun i => ys[i]?)) := by
  refine ⟨fun i _ hi q => ⟨xs, ys, xs[i], ys[i]'(h ▸ hi), q.1, q.2, List.getElem?_eq_getElem hi, List.getElem?_eq_getElem (h ▸ hi)⟩, fun _ q => ⟨xs, ys, q.1, q.2, .inl (Nat.le_refl _)⟩, fun i H v H' _ q y => ?_⟩
  obtain ⟨T, x, y, e1, e2, e3, e4, e5⟩ := y
  exact ⟨T, x, y, e1, e2, e3, e4 xs q.1, e5 ys q.2⟩
theorem ZipOf.walk {K : PySem.W.Frag} {H : Hp} {a b : Addr} {xs ys : List V} {J : It} (z : ZipOf K H a b ys J) (hx : SqT K H a xs) (h : xs.length = ys.length) :
    ∃ G : Hp → Prop, Walk J xs.length G (YPair (fun i => xs[i]?) (fun i => ys[i]?)) ∧ ∀ H', Same H H' → G H' := by
  rcases z with ⟨hy, rfl⟩ | ⟨hy, rfl⟩
  · exact ⟨_, walk_zipM h, fun H' s => ⟨seqT s hx, s.seq hy⟩⟩
  · exact ⟨_, walk_zipT (by omega), fun H' s => ⟨seqT s hx, seqT s hy⟩⟩
end TL
namespace TL
open PySem L2

/-! ### steps of a reading -/
local macro_rules | `(tactic| walk_at "hp") => `(tactic| first | assumption | exact upd_same | (refine (upd_ne (by first | assumption | (exact Ne.symm (by assumption)))).trans ?_; walk_at "hp"))
local macro_rules | `(tactic| walk_at "ok") => `(tactic| first | (exact Or.inr ⟨by decide, by decide⟩) | (exact ⟨by decide, by decide⟩) | (exact ⟨by decide, by decide, by decide⟩) | (show _ ≠ _; omega) | (show _ ≠ _; decide) | (exact Or.inl ⟨by omega, by omega⟩) | decide)
local macro_rules | `(tactic| walk_at "sq") => `(tactic| first | assumption | exact SqL.of (by walk_at "hp") | exact SqT.of (by walk_at "hp"))
local macro_rules | `(tactic| walk_at "ty") => `(tactic| first | refine ⟨_, _, Value.type "int", Value.type "list", false, rfl, ClsV.ty _, TyX.base (TyOf.int _), kt_int_list, ?_⟩ | refine ⟨_, _, Value.type "bool", Value.type "list", false, rfl, ClsV.ty _, TyX.base (TyOf.bl _), kt_bool_list, ?_⟩ | refine ⟨_, _, Value.type "str", Value.type "list", false, rfl, ClsV.ty _, TyX.base (TyOf.str _), kt_str_list, ?_⟩ | refine ⟨_, _, Value.type "NoneType", Value.type "list", false, rfl, ClsV.ty _, TyX.base TyOf.non, kt_NoneType_list, ?_⟩ | refine ⟨_, _, Value.type "list", Value.type "list", true, rfl, ClsV.ty _, tyx_L (by walk_at "sq"), kt_list_list, ?_⟩ | refine ⟨_, _, Value.type "tuple", Value.type "list", false, rfl, ClsV.ty _, tyx_T (by walk_at "sq"), kt_tuple_list, ?_⟩ | refine ⟨_, _, Value.type "int", Value.type "tuple", false, rfl, ClsV.ty _, TyX.base (TyOf.int _), kt_int_tuple, ?_⟩ | refine ⟨_, _, Value.type "bool", Value.type "tuple", false, rfl, ClsV.ty _, TyX.base (TyOf.bl _), kt_bool_tuple, ?_⟩ | refine ⟨_, _, Value.type "str", Value.type "tuple", false, rfl, ClsV.ty _, TyX.base (TyOf.str _), kt_str_tuple, ?_⟩ | refine ⟨_, _, Value.type "NoneType", Value.type "tuple", false, rfl, ClsV.ty _, TyX.base TyOf.non, kt_NoneType_tuple, ?_⟩ | refine ⟨_, _, Value.type "list", Value.type "tuple", false, rfl, ClsV.ty _, tyx_L (by walk_at "sq"), kt_list_tuple, ?_⟩ | refine ⟨_, _, Value.type "tuple", Value.type "tuple", true, rfl, ClsV.ty _, tyx_T (by walk_at "sq"), kt_tuple_tuple, ?_⟩ | refine ⟨_, _, Value.type "int", Value.type "bool", false, rfl, ClsV.ty _, TyX.base (TyOf.int _), kt_int_bool, ?_⟩ | refine ⟨_, _, Value.type "bool", Value.type "bool", true, rfl, ClsV.ty _, TyX.base (TyOf.bl _), kt_bool_bool, ?_⟩ | refine ⟨_, _, Value.type "str", Value.type "bool", false, rfl, ClsV.ty _, TyX.base (TyOf.str _), kt_str_bool, ?_⟩ | refine ⟨_, _, Value.type "NoneType", Value.type "bool", false, rfl, ClsV.ty _, TyX.base TyOf.non, kt_NoneType_bool, ?_⟩ | refine ⟨_, _, Value.type "list", Value.type "bool", false, rfl, ClsV.ty _, tyx_L (by walk_at "sq"), kt_list_bool, ?_⟩ | refine ⟨_, _, Value.type "tuple", Value.type "bool", false, rfl, ClsV.ty _, tyx_T (by walk_at "sq"), kt_tuple_bool, ?_⟩ | refine ⟨_, _, Value.type "int", Value.type "int", true, rfl, ClsV.ty _, TyX.base (TyOf.int _), kt_int_int, ?_⟩ | refine ⟨_, _, Value.type "bool", Value.type "int", true, rfl, ClsV.ty _, TyX.base (TyOf.bl _), kt_bool_int, ?_⟩ | refine ⟨_, _, Value.type "str", Value.type "int", false, rfl, ClsV.ty _, TyX.base (TyOf.str _), kt_str_int, ?_⟩ | refine ⟨_, _, Value.type "NoneType", Value.type "int", false, rfl, ClsV.ty _, TyX.base TyOf.non, kt_NoneType_int, ?_⟩ | refine ⟨_, _, Value.type "list", Value.type "int", false, rfl, ClsV.ty _, tyx_L (by walk_at "sq"), kt_list_int, ?_⟩ | refine ⟨_, _, Value.type "tuple", Value.type "int", false, rfl, ClsV.ty _, tyx_T (by walk_at "sq"), kt_tuple_int, ?_⟩ | refine ⟨_, _, Value.type "int", Value.type "str", false, rfl, ClsV.ty _, TyX.base (TyOf.int _), kt_int_str, ?_⟩ | refine ⟨_, _, Value.type "bool", Value.type "str", false, rfl, ClsV.ty _, TyX.base (TyOf.bl _), kt_bool_str, ?_⟩ | refine ⟨_, _, Value.type "str", Value.type "str", true, rfl, ClsV.ty _, TyX.base (TyOf.str _), kt_str_str, ?_⟩ | refine ⟨_, _, Value.type "NoneType", Value.type "str", false, rfl, ClsV.ty _, TyX.base TyOf.non, kt_NoneType_str, ?_⟩ | refine ⟨_, _, Value.type "list", Value.type "str", false, rfl, ClsV.ty _, tyx_L (by walk_at "sq"), kt_list_str, ?_⟩ | refine ⟨_, _, Value.type "tuple", Value.type "str", false, rfl, ClsV.ty _, tyx_T (by walk_at "sq"), kt_tuple_str, ?_⟩)
local macro_rules | `(tactic| walk_at "go1") => `(tactic| first
  | (refine ⟨_, rfl, ?_⟩)
  | (refine ⟨_, _, rfl, rfl, ?_⟩)
  | (refine ⟨_, _, _, _, rfl, rfl, SqL.of (by walk_at "hp"), rfl, ?_⟩)
  | (refine Or.inl ⟨_, rfl, ?_⟩)
  | (refine ⟨rfl, ?_⟩)
  | (refine ⟨_, _, rfl, .inl (SqL.of (by walk_at "hp")), ?_⟩)
  | (refine ⟨_, _, rfl, Or.inl (by assumption), ?_⟩)
  | (refine ⟨_, _, rfl, Or.inr (by assumption), ?_⟩)
  | (refine ⟨(by walk_at "ok"), ?_⟩)
  | (refine ⟨_, _, _, _, rfl, rfl, (by walk_at "hp"), rfl, ?_⟩))
local macro_rules | `(tactic| walk_at "go") => `(tactic| repeat (walk_at "go1"))
local macro_rules | `(tactic| walk_at "gt") => `(tactic| repeat (first | walk_at "go1" | walk_at "ty"))

theorem ixN_at {n i : Nat} (h : i < n) : ixN n (i : Int) = some i := by
  unfold ixN
  rw [if_pos (Int.natCast_nonneg i), if_pos (by omega), Int.toNat_natCast]
theorem cm {a b : Int} (h : a.natAbs ≤ 1000) : CMul a b := .inl ⟨by omega, by omega⟩
theorem _root_.L2.Same.upd_new {H H' : Hp} {p : Addr} {o : HO} (s : Same H H') (h : H p = none) : Same H (L2.upd H' p o) := fun c x e => by
  rw [upd_ne (ne_of_none e h)]
  exact s c x e
section
def CDivZ (_ j : Int) : Prop := j ≠ 0 ∧ j.natAbs.log2 < 9000
theorem op_fdivZ {X : Cx} : OpR X (binaryOp .FloorDiv) (rI CDivZ fun i j => .int (i.fdiv j)) := opI fun i j _ _ _ _ _ hc q => PyProof.Rows.floordiv_int hc.1 q (.inl (PyProof.noPylong_of_log2 hc.2))
variable {P : Program} {w : World} {K : PySem.W.Frag} {mg : Str → Option Value} {base : Heap}
theorem getD_map {z : List Int} {i : Nat} (h : i < z.length) : (z.map V.int)[i]? = some (.int (z.getD i 0)) := by
  rw [List.getElem?_map, List.getD_eq_getElem?_getD, List.getElem?_eq_getElem h]
  rfl
/-! ### a matrix: a list of lists of ints -/
def MatL (H : Hp) (rs : List V) (M : List (List Int)) : Prop := rs.length = M.length ∧ ∀ (i : Nat) r, rs[i]? = some r → ∃ t row, r = .ref t ∧ M[i]? = some row ∧ H t = some (.lst (row.map V.int))
structure Mat (H : Hp) (p : Addr) (M : List (List Int)) : Prop where
  ex : ∃ rs, H p = some (.lst rs) ∧ MatL H rs M
theorem MatL.same {H H' : Hp} {rs : List V} {M : List (List Int)} (h : MatL H rs M) (s : Same H H') : MatL H' rs M := ⟨h.1, fun i r hr => by
  obtain ⟨t, row, e1, e2, e3⟩ := h.2 i r hr
  exact ⟨t, row, e1, e2, s _ _ e3⟩⟩
theorem Mat.same {H H' : Hp} {p : Addr} {M : List (List Int)} (h : Mat H p M) (s : Same H H') : Mat H' p M := by
  obtain ⟨rs, h1, h2⟩ := h.ex
  exact ⟨rs, s _ _ h1, h2.same s⟩
theorem MatL.at {H : Hp} {rs : List V} {M : List (List Int)} (h : MatL H rs M) {i : Nat} (hi : i < M.length) : ∃ t, rs[i]? = some (.ref t) ∧ H t = some (.lst ((M.getD i []).map V.int)) := by
  have hi' : i < rs.length := by rw [h.1]; exact hi
  obtain ⟨t, row, e1, e2, e3⟩ := h.2 i _ (List.getElem?_eq_getElem hi')
  refine ⟨t, by rw [List.getElem?_eq_getElem hi', e1], ?_⟩
  rw [getD_of e2]
  exact e3
-- [0=rows, 1=first, 2=column, 3=at]
-- [0=matrix, 1=rows, 2=width, 3=rank, 4=sign, 5=last*, 6=column*, 7=found, 8=head*, 9=at, 10=item*, 11=row, 12=own, 13=top]
theorem ffrom_succ (M : List (List Int)) (c i n : Nat) : ffrom M c i (n + 1) = if (M.getD i []).getD c 0 ≠ 0 then some i else ffrom M c (i + 1) n := rfl
theorem ffrom_zero (M : List (List Int)) (c i : Nat) : ffrom M c i 0 = none := by cases i <;> rfl
theorem ne_zero {x : Int} (h : (!decide (V.int x = V.int 0)) = true) : x ≠ 0 := fun e => by
  subst e
  simp at h
theorem eq_zero {x : Int} (h : ¬ (!decide (V.int x = V.int 0)) = true) : ¬ x ≠ 0 := fun e => h (by simp [e])
def spFilled : Sp := fun vs H Q _ => ∃ (p : Addr) (M : List (List Int)) (r c w : Nat), vs = [.ref p, .int (r : Int), .int (c : Int)] ∧ Mat H p M ∧ RowsW w M ∧ c < w ∧ r ≤ M.length ∧ M.length ≤ 1000 ∧ w ≤ 1000 ∧ Q (match ffrom M c r (M.length - r) with | none => .non | some f => .int (f : Int)) H
theorem ok_filled (T : Tx K mg) : FnOk P w K mg base CX0 1 T.f__filled_from T.d__filled_from ["rows", "first", "column"] spFilled := by
  refine T.F__filled_from.ok sc__filled_from (fun vs H Q E h => ?_) (fun cdv A outer s H vs Q E hr h => ?_)
  · obtain ⟨p, M, r, c, w, rfl, _⟩ := h
    rfl
  obtain ⟨p, M, r, c, w, rfl, hM, hw, hc, hr1, hn, hw1, q⟩ := h
  obtain ⟨rs, h1, h2⟩ := hM.ex
  have nd := sc__filled_from.nd
  refine ⟨_, (pss_cons (ps_for PassesOwn.never rfl (pi_range2 (by rfl) T.z_range (pa_cons (pv 1) (pa_cons (pe_callB (show CallR _ _ (rLenSq K) from call_len_seq) (by rfl) T.z_len (by decide +kernel) (pa_cons (pv 0) pa_nil)) pa_nil))) (pg_name (i := 3) nd rfl (Or.inl rfl)) (pss_one (ps_if (pt_cmpR op_ne (pe_ix (show IxR _ (rIxL K) from ix_list) (pe_ix (show IxR _ (rIxL K) from ix_list) (pv 0) (pv 3) (fun _ _ => rfl)) (pv 2) (fun _ _ => rfl)) pe_int (nomark _)) (pss_one (ps_ret (pv 3))) pss_nil)))
    (pss_one (ps_ret pe_non))), ?_⟩
  have hrs : rs.length = M.length := h2.1
  refine ⟨_, rfl, _, rfl, p, rs, rfl, .inl (SqL.of h1), (r : Int), (rs.length : Int), rfl, ⟨by omega, by omega, by omega, by omega⟩, for_range (lo := (r : Int)) (n := ((rs.length : Int) - (r : Int)).toNat) (fun k σ' H' => (∃ b, σ' = [some (.ref p), some (.int (r : Int)), some (.int (c : Int)), b]) ∧ H' = H ∧ ffrom M c r (M.length - r) = ffrom M c (r + k) (M.length - r - k)) ⟨⟨_, rfl⟩, rfl, rfl⟩ ?_ ?_⟩
  · rintro k σ' H' hk ⟨⟨b, rfl⟩, rfl, e⟩
    have hk' : r + k < M.length := by omega
    obtain ⟨t, g1, g2⟩ := h2.at hk'
    have hrow := hw _ (getD_mem hk')
    have eI : (r : Int) + (k : Int) = ((r + k : Nat) : Int) := by omega
    refine ⟨_, rfl, _, rfl, _, _, _, _, rfl, rfl, SqL.of h1, at_of (j := r + k) eI g1, _, rfl, _, _, _, _, rfl, rfl, SqL.of g2, at_of (j := c) rfl (getD_map (by rw [hrow]; exact hc)), rfl, _, rfl, ?_⟩
    have e2 : M.length - r - k = (M.length - r - (k + 1)) + 1 := by omega
    rw [e2, ffrom_succ] at e
    refine ite2 (fun c1 => ?_) (fun c1 => ?_)
    · have c2 : (M.getD (r + k) []).getD c 0 ≠ 0 := ne_zero c1
      rw [if_pos c2] at e
      refine ⟨_, rfl, ?_⟩
      rw [e] at q
      rw [eI]
      exact q
    · have c2 : ¬ (M.getD (r + k) []).getD c 0 ≠ 0 := eq_zero c1
      rw [if_neg c2] at e
      exact ⟨⟨_, rfl⟩, rfl, e⟩
  · rintro σ' H' ⟨⟨b, rfl⟩, rfl, e⟩
    have e2 : M.length - r - ((rs.length : Int) - (r : Int)).toNat = 0 := by omega
    rw [e2, ffrom_zero] at e
    rw [e] at q
    exact q
theorem lc_zipLS {K : PySem.W.Frag} {a b D : Addr} {xs ys : List Int} {f : Int → Int → Int} {te : TE} {vs : List Nat} {σ : L2.St} {H0 : Hp} {Qd : Hp → Prop} {i j : Nat} (h1 : SqL K H0 a (xs.map V.int)) (h2 : SqL K H0 b (ys.map V.int)) (hl : xs.length = ys.length) (hz : xs.length ≤ 1000) (hD : H0 D = none)
    (hw : ∀ u v, wipe (((wipe σ vs).set i (some u)).set j (some v)) vs = wipe σ vs)
    (hs : ∀ (u v : Int) (H : Hp) (k : VK), Same H0 H → u ∈ xs → v ∈ ys → k (.int (f u v)) H → te (((wipe σ vs).set i (some (.int u))).set j (some (.int v))) H k)
    (hd : ∀ H, Same H0 H → H D = some (.lst ((List.zipWith f xs ys).map V.int)) → Qd H) : LcGoal (Itz K a b) (gTup K 2 (gCons (gName i) (gCons (gName j) gNil))) te vs σ H0 D Qd := by
  refine lcm (walk_zip (n := xs.length) (by rw [List.length_map, List.length_map]; omega)) ((List.zipWith f xs ys).map V.int) (by rw [List.length_map, List.length_zipWith]; omega) (by omega) hD (fun H' s => ⟨s.seq h1, s.seq h2⟩) ?_ hd
  rintro t y x H1 H2 hi hy s1 ⟨Tp, u, z, rfl, hT, rfl, hu, hz'⟩ k hk
  replace hu : (xs.map V.int)[t]? = some u := hu
  replace hz' : (ys.map V.int)[t]? = some z := hz'
  rw [List.getElem?_map] at hy hu hz'
  obtain ⟨y', hy1, rfl⟩ := Option.map_eq_some_iff.mp hy
  obtain ⟨u', hu1, rfl⟩ := Option.map_eq_some_iff.mp hu
  obtain ⟨z', hz1, rfl⟩ := Option.map_eq_some_iff.mp hz'
  rw [List.getElem?_zipWith, hu1, hz1] at hy1
  obtain rfl : f u' z' = y' := Option.some.inj hy1
  refine ⟨Tp, [.int u', .int z'], rfl, SqT.of upd_same, rfl, .int u', [.int z'], rfl, .int z', [], rfl, rfl, hw _ _, ?_⟩
  exact hs u' z' _ k (s1.trans (Same.new hT)) (List.mem_of_getElem? hu1) (List.mem_of_getElem? hz1) (hk _ (Same.new hT))
theorem lcsD {J : It} {n : Nat} {G : Hp → Prop} {Y : Nat → Hp → V → Hp → Prop} {D : Addr} {g : TG} {te : TE} {vs : List Nat} {σ : L2.St} {H0 : Hp} {Qd : Hp → Prop} (w : Walk J n G Y) (P : Nat → V → Hp → Prop) (hP : ∀ i y H H', Same H H' → P i y H → P i y H') (hPD : ∀ i y H zs zs', H D = some (.lst zs) → P i y H → P i y (upd H D (.lst zs'))) (hz : n ≤ 100000) (hD : H0 D = none) (hG : ∀ H, Same H0 H → G H)
    (hs : ∀ i x H H', i < n → Same H0 H → (∃ zs, H D = some (.lst zs)) → Y i H x H' → ∀ k : VK, (∀ y H4, Same H H4 → P i y H4 → k y H4) → g x (wipe σ vs) H' fun σ2 H2 => wipe σ2 vs = wipe σ vs ∧ te σ2 H2 k)
    (hd : ∀ (ys : List V) H, ys.length = n → (∀ (i : Nat) y, ys[i]? = some y → P i y H) → Same H0 H → H D = some (.lst ys) → Qd H) : LcGoal J g te vs σ H0 D Qd := by
  refine lc_it w (fun i H => Same H0 H ∧ ∃ ys : List V, H D = some (.lst ys) ∧ ys.length = i ∧ ∀ (t : Nat) y, ys[t]? = some y → P t y H) ⟨Same.new hD, [], upd_same, rfl, fun t y h => by cases h⟩ (fun i H _ h => hG H h.1) (fun i x H H' hi h hy => ?_) (fun H h => ?_)
  · obtain ⟨h1, ys, h3, h4, h5⟩ := h
    refine hs i x H H' hi h1 ⟨ys, h3⟩ hy _ fun y H4 s4 p => ⟨ys, s4 _ _ h3, ?_, fun c u q => ?_, ys ++ [y], upd_same, ?_, ?_⟩
    · exact Nat.lt_of_le_of_lt (by omega : ys.length ≤ 100000) (by decide)
    · rw [upd_ne (ne_of_none q hD)]
      exact s4 _ _ (h1 _ _ q)
    · rw [List.length_append, h4]
      rfl
    · intro t z hz
      refine hPD t z H4 ys _ (s4 _ _ h3) ?_
      rcases Nat.lt_or_ge t ys.length with q | q
      · rw [List.getElem?_append_left q] at hz
        exact hP _ _ _ _ s4 (h5 t z hz)
      · rw [List.getElem?_append_right q] at hz
        have e : t - ys.length = 0 := by
          have := (List.getElem?_eq_some_iff.mp hz).1
          simp at this
          omega
        rw [e] at hz
        obtain rfl : y = z := Option.some.inj hz
        have : t = i := by omega
        rw [this]
        exact p
  · obtain ⟨h1, ys, h3, h4, h5⟩ := h
    exact hd ys H h4 h5 h1 h3
theorem lcsN {J : It} {n : Nat} {G : Hp → Prop} {Y : Nat → Hp → V → Hp → Prop} {D : Addr} {g : TG} {te : TE} {vs : List Nat} {σ : L2.St} {H0 : Hp} {Qd : Hp → Prop} (w : Walk J n G Y) (P : Nat → V → Hp → Prop) (hP : ∀ i y H H', Same H H' → P i y H → P i y H') (hPD : ∀ i y H zs zs', H D = some (.lst zs) → P i y H → P i y (upd H D (.lst zs'))) (hal : ∀ i y H, P i y H → ∃ a o, y = V.ref a ∧ H a = some o) (hz : n ≤ 100000) (hD : H0 D = none) (hG : ∀ H, Same H0 H → G H)
    (hs : ∀ i x H H', i < n → Same H0 H → (∃ zs, H D = some (.lst zs)) → Y i H x H' → ∀ k : VK, (∀ y H4, Same H H4 → P i y H4 → (∃ a, y = V.ref a ∧ H a = none) → k y H4) → g x (wipe σ vs) H' fun σ2 H2 => wipe σ2 vs = wipe σ vs ∧ te σ2 H2 k)
    (hd : ∀ (ys : List V) H, ys.length = n → ys.Nodup → (∀ (i : Nat) y, ys[i]? = some y → P i y H) → Same H0 H → H D = some (.lst ys) → Qd H) : LcGoal J g te vs σ H0 D Qd := by
  refine lc_it w (fun i H => Same H0 H ∧ ∃ ys : List V, H D = some (.lst ys) ∧ ys.length = i ∧ ys.Nodup ∧ ∀ (t : Nat) y, ys[t]? = some y → P t y H) ⟨Same.new hD, [], upd_same, rfl, List.nodup_nil, fun t y h => by cases h⟩ (fun i H _ h => hG H h.1) (fun i x H H' hi h hy => ?_) (fun H h => ?_)
  · obtain ⟨h1, ys, h3, h4, h6, h5⟩ := h
    refine hs i x H H' hi h1 ⟨ys, h3⟩ hy _ fun y H4 s4 p ⟨fa, fe, fn⟩ => ⟨ys, s4 _ _ h3, ?_, fun c u q => ?_, ys ++ [y], upd_same, ?_, ?_, ?_⟩
    · exact Nat.lt_of_le_of_lt (by omega : ys.length ≤ 100000) (by decide)
    · rw [upd_ne (ne_of_none q hD)]
      exact s4 _ _ (h1 _ _ q)
    · rw [List.length_append, h4]
      rfl
    · refine List.nodup_append.mpr ⟨h6, by simp, fun a ha b hb e => ?_⟩
      rw [List.mem_singleton.mp hb] at e
      obtain ⟨j, hj⟩ := List.mem_iff_getElem?.mp ha
      obtain ⟨a2, o, e2, e3⟩ := hal j a H (h5 j a hj)
      rw [e, fe] at e2
      cases e2
      rw [fn] at e3
      cases e3
    · intro t z hz
      refine hPD t z H4 ys _ (s4 _ _ h3) ?_
      rcases Nat.lt_or_ge t ys.length with q | q
      · rw [List.getElem?_append_left q] at hz
        exact hP _ _ _ _ s4 (h5 t z hz)
      · rw [List.getElem?_append_right q] at hz
        have e : t - ys.length = 0 := by
          have := (List.getElem?_eq_some_iff.mp hz).1
          simp at this
          omega
        rw [e] at hz
        obtain rfl : y = z := Option.some.inj hz
        have : t = i := by omega
        rw [this]
        exact p
  · obtain ⟨h1, ys, h3, h4, h6, h5⟩ := h
    exact hd ys H h4 h6 h5 h1 h3
/-- a row changed in place -/
theorem MatL.put {H : Hp} {rs : List V} {M : List (List Int)} (h : MatL H rs M) (hn : rs.Nodup) {k : Nat} {t : Addr} {row : List Int} (hk : rs[k]? = some (.ref t)) : MatL (L2.upd H t (.lst (row.map V.int))) rs (M.set k row) := by
  refine ⟨by simp [h.1], fun i r hr => ?_⟩
  obtain ⟨t', row', e1, e2, e3⟩ := h.2 i r hr
  by_cases e : k = i
  · subst e
    rw [hk] at hr
    cases hr
    cases e1
    exact ⟨t, row, rfl, by rw [List.getElem?_set_self (List.getElem?_eq_some_iff.mp e2).1], upd_same⟩
  · have ht : t' ≠ t := fun z => by
      subst z
      rw [e1] at hr
      exact e ((List.getElem?_inj (List.getElem?_eq_some_iff.mp hk).1 hn).mp (hk.trans hr.symm))
    exact ⟨t', row', e1, by rw [List.getElem?_set_ne e]; exact e2, by rw [upd_ne ht]; exact e3⟩
theorem getD_lt {b c : Nat} {xs : List Int} (h : ∀ x ∈ xs, x.natAbs < 2 ^ b) : (xs.getD c 0).natAbs < 2 ^ b := by
  rw [List.getD_eq_getElem?_getD]
  rcases Nat.lt_or_ge c xs.length with z | z
  · rw [List.getElem?_eq_getElem z]
    exact h _ (List.getElem_mem z)
  · rw [List.getElem?_eq_none z]
    exact Nat.pow_pos (by decide)
theorem MatL.set {H : Hp} {rs : List V} {M : List (List Int)} (h : MatL H rs M) {k : Nat} {t : Addr} {row : List Int} (ht : H t = some (.lst (row.map V.int))) : MatL H (rs.set k (.ref t)) (M.set k row) := by
  refine ⟨by simp [h.1], fun i r hr => ?_⟩
  rw [List.getElem?_set] at hr
  by_cases e : k = i
  · subst e
    rw [if_pos rfl] at hr
    split at hr
    · rename_i hk
      cases hr
      exact ⟨t, row, rfl, by rw [List.getElem?_set_self (by rw [← h.1]; exact hk)], ht⟩
    · cases hr
  · rw [if_neg e] at hr
    obtain ⟨t', row', e1, e2, e3⟩ := h.2 i r hr
    exact ⟨t', row', e1, by rw [List.getElem?_set_ne e]; exact e2, e3⟩
/-- a list of refs is no row -/
theorem MatL.ne {H : Hp} {rs0 : List V} {M0 : List (List Int)} {D t : Addr} {row : List Int} (h0 : MatL H rs0 M0) (hD : H D = some (.lst rs0)) (hn : 0 < M0.length) (ht : H t = some (.lst (row.map V.int))) : t ≠ D := fun e => by
  subst e
  rw [hD] at ht
  have e2 : rs0 = row.map V.int := by
    injection ht with ht
    injection ht
  have hn' : 0 < rs0.length := by rw [h0.1]; exact hn
  obtain ⟨t', row', e3, _⟩ := h0.2 0 _ (List.getElem?_eq_getElem hn')
  have e4 : (row.map V.int)[0]? = some (V.ref t') := by rw [← e2, List.getElem?_eq_getElem hn', e3]
  rw [List.getElem?_map] at e4
  obtain ⟨z, _, e5⟩ := Option.map_eq_some_iff.mp e4
  cases e5
theorem MatL.upd {H : Hp} {rs rs0 zs : List V} {M M0 : List (List Int)} {D : Addr} (h : MatL H rs M) (h0 : MatL H rs0 M0) (hD : H D = some (.lst rs0)) (hn : 0 < M0.length) : MatL (L2.upd H D (.lst zs)) rs M := ⟨h.1, fun i r hr => by
  obtain ⟨t, row, e1, e2, e3⟩ := h.2 i r hr
  exact ⟨t, row, e1, e2, by rw [upd_ne (h0.ne hD hn e3)]; exact e3⟩⟩
def spCleared : Sp := fun vs H Q _ => ∃ (p : Addr) (M : List (List Int)) (E w : Nat), vs = [.ref p] ∧ Mat H p M ∧ RowsW w M ∧ Ent E M ∧ 0 < E ∧ bk E (min w M.length) < 9000 ∧ M.length ≤ 1000 ∧ w ≤ 1000 ∧ ∀ t H', Same H H' → H' t = some (.tup [.int (clrRank M : Int), .int (clrDet M)]) → Q (.ref t) H'
theorem ok_cleared (T : Tx K mg) : FnOk P w K mg base CX0 2 T.f__cleared T.d__cleared ["matrix"] spCleared := by
  have G__filled_from := ok_filled (P := P) (w := w) (base := base) T
  refine T.F__cleared.ok sc__cleared (fun vs H Q E h => ?_) (fun cdv A outer s H vs Q E hr h => ?_)
  · obtain ⟨p, M, r, c, rfl, _⟩ := h
    rfl
  obtain ⟨p, M, B, w, rfl, hM, hw, hE, hB0, hB, hn, hw1, q⟩ := h
  obtain ⟨rs, h1, h2⟩ := hM.ex
  have nd := sc__cleared.nd
  refine ⟨_, (pss_cons (ps_setLc (i := 1) (own := [("row", 11)]) (g := (gName 11)) rfl nd rfl rfl (sw_true rfl rfl rfl (by decide +kernel)) (show PI _ _ _ (iList K _) from pi_list (pv 0)) (blkOk_by (own := [("row", 11)]) (N := N__cleared) (sc := defScope s__cleared) (by decide +kernel)) (fun _ _ _ _ _ => by exact (pg_name (i := 11) nd rfl (Or.inl rfl))) (fun _ _ _ _ _ => by exact pts_nil) (fun _ _ _ _ _ => by exact (pe_callTy (show CallR _ _ (rListOf K) from call_list_of) (by rfl) T.z_list (by decide +kernel) (pa_cons (pv 11) pa_nil))))
    (pss_cons (ps_set (i := 2) nd rfl (Or.inl rfl) (pe_ifExp (pt_truth (pv 1) (by intro _; rfl)) (pe_callB (show CallR _ _ (rLenSq K) from call_len_seq) (by rfl) T.z_len (by decide +kernel) (pa_cons (pe_ix (show IxR _ (rIxL K) from ix_list) (pv 1) pe_int (fun _ _ => rfl)) pa_nil)) pe_int))
    (pss_cons (ps_set (i := 3) nd rfl (Or.inl rfl) pe_int)
    (pss_cons (ps_set (i := 4) nd rfl (Or.inl rfl) pe_int)
    (pss_cons (ps_set (i := 5) nd rfl (Or.inr rfl) pe_int)
    (pss_cons (ps_for PassesOwn.never rfl (pi_range1 (by rfl) T.z_range (pa_cons (pv 2) pa_nil)) (pg_name (i := 6) nd rfl (Or.inr rfl)) (pss_cons (ps_set (i := 7) nd rfl (Or.inl rfl) (pe_call G__filled_from hr (by rfl) T.m__filled_from T.F__filled_from.kp T.b__filled_from .nil pass0 (pa_cons (pv 1) (pa_cons (pv 3) (pa_cons (pv 6) pa_nil)))))
    (pss_cons (ps_if (pt_cmpR op_isN (pv 7) pe_non (nomark _)) (pss_one ps_continue) pss_nil)
    (pss_cut (ps_if (pt_cmpR op_ne (pv 7) (pv 3) (nomark _)) (pss_cons (ps_asg (pe_tup (pa_cons (pe_ix (show IxR _ (rIxL K) from ix_list) (pv 1) (pv 7) (fun _ _ => rfl)) (pa_cons (pe_ix (show IxR _ (rIxL K) from ix_list) (pv 1) (pv 3) (fun _ _ => rfl)) pa_nil))) (pg_tup rfl (pgs_cons (pg_sub (pv 1) (pv 3) set_list) (pgs_cons (pg_sub (pv 1) (pv 7) set_list) pgs_nil))))
    (pss_one (ps_set (i := 4) nd rfl (Or.inl rfl) (pe_un un_neg (pv 4))))) pss_nil)
    (pss_cons (ps_set (i := 8) nd rfl (Or.inr rfl) (pe_ix (show IxR _ (rIxL K) from ix_list) (pv 1) (pv 3) (fun _ _ => rfl)))
    (pss_cons (ps_for PassesOwn.never rfl (pi_range2 (by rfl) T.z_range (pa_cons (pe_op op_add (pv 3) pe_int) (pa_cons (pe_callB (show CallR _ _ (rLenSq K) from call_len_seq) (by rfl) T.z_len (by decide +kernel) (pa_cons (pv 1) pa_nil)) pa_nil))) (pg_name (i := 9) nd rfl (Or.inl rfl)) (pss_cons (ps_set (i := 10) nd rfl (Or.inr rfl) (pe_ix (show IxR _ (rIxL K) from ix_list) (pe_ix (show IxR _ (rIxL K) from ix_list) (pv 1) (pv 9) (fun _ _ => rfl)) (pv 6) (fun _ _ => rfl)))
    (pss_one (ps_asg (pe_lc (own := [("own", 12), ("top", 13)]) (g := (gTup K 2 (gCons (gName 12) (gCons (gName 13) gNil)))) rfl nd (show PI _ _ _ (RZ.iZipA K _) from RZ.pi_zipA (by rfl) T.z_zip (pa_cons (pe_ix (show IxR _ (rIxL K) from ix_list) (pv 1) (pv 9) (fun _ _ => rfl)) (pa_cons (pv 8) pa_nil))) (blkOk_by (own := [("own", 12), ("top", 13)]) (N := N__cleared) (sc := defScope s__cleared) (by decide +kernel)) (fun _ _ _ _ _ => by exact (pg_tup rfl (pgs_cons (pg_name (i := 12) nd rfl (Or.inl rfl)) (pgs_cons (pg_name (i := 13) nd rfl (Or.inl rfl)) pgs_nil)))) (fun _ _ _ _ _ => by exact pts_nil) (fun _ _ _ _ _ => by exact (pe_op op_fdivZ (pe_op op_sub (pe_op op_mulW (pe_ix (show IxR _ (rIxL K) from ix_list) (pv 8) (pv 6) (fun _ _ => rfl)) (pv 12)) (pe_op op_mulW (pv 10) (pv 13))) (pv 5)))) (pg_sub (pv 1) (pv 9) set_list)))))
    (pss_cons (ps_set (i := 5) nd rfl (Or.inr rfl) (pe_ix (show IxR _ (rIxL K) from ix_list) (pv 8) (pv 6) (fun _ _ => rfl)))
    (pss_one (ps_aug (i := 3) nd rfl (Or.inl rfl) pe_int ip_add)))))))))
    (pss_one (ps_ret (pe_tup (pa_cons (pv 3) (pa_cons (pe_op op_mulW (pv 4) (pv 5)) pa_nil))))))))))), ?_⟩
  refine ⟨_, rfl, p, rfl, ⟨rs, SqL.of h1⟩, fun D hD => ?_⟩
  refine lcsD (walk_list (K := K) (a := p) (xs := rs)) (fun i y H => ∃ t row, y = V.ref t ∧ t ≠ D ∧ M[i]? = some row ∧ H t = some (.lst (row.map V.int))) (fun i y H1 H2 s1 ⟨t, row, a1, a0, a2, a3⟩ => ⟨t, row, a1, a0, a2, s1 _ _ a3⟩)
    (fun i y H1 zs zs' hz' ⟨t, row, a1, a0, a2, a3⟩ => ⟨t, row, a1, a0, a2, by rw [upd_ne a0]; exact a3⟩) (by rw [h2.1]; omega) hD (fun H1 s1 => SqL.of (s1 _ _ h1)) ?_ fun ys H1 hl hys s1 hD1 => ?_
  · rintro i x H1 H2 hi s1 ⟨zs, hz⟩ ⟨rfl, hx⟩ k hk
    obtain ⟨t, row, rfl, e2, e3⟩ := h2.2 i x hx
    refine ⟨rfl, ?_⟩
    exact ⟨_, rfl, t, row.map V.int, rfl, .inl (SqL.of (s1 _ _ e3)), fun p2 hp2 => hk _ _ (Same.new hp2) ⟨p2, row, rfl, (ne_of_none hz hp2).symm, e2, upd_same⟩⟩
  have m1 : MatL H1 ys M := ⟨by rw [hl, h2.1], fun i r hr => by
    obtain ⟨t, row, a1, a0, a2, a3⟩ := hys i r hr
    exact ⟨t, row, a1, a2, a3⟩⟩
  clear hys hl
  -- the width
  have wid : ∀ Qw : VK, Qw (.int (widthOf M : Int)) H1 → (tIf
      (fun σ H_1 Q => tVar 1 σ H_1 fun x H' => ∃ k, TruV K x H' k ∧ Q k H')
      (tCB (rLenSq K) (tCons (tOp (rIxL K) (tVar 1) (tC (V.int 0))) tNil)) (tC (V.int 0))) ([some (.ref p), some (.ref D), none, none, none, none, none, none, none, none, none, none, none, none]) H1 Qw := fun Qw k => by
    refine ⟨_, rfl, !ys.isEmpty, .inl ⟨ys, SqL.of hD1, rfl⟩, ?_⟩
    refine ite2 (fun c => ?_) (fun c => ?_)
    · have h0 : 0 < M.length := by
        rw [← m1.1]
        cases ys with
        | nil => cases c
        | cons y ys => exact Nat.succ_pos _
      obtain ⟨t, g1, g2⟩ := m1.at h0
      refine ⟨_, rfl, _, _, _, _, rfl, rfl, SqL.of hD1, at_of (j := 0) rfl g1, t, _, rfl, .inl (SqL.of g2), ?_⟩
      rw [List.length_map]
      exact k
    · have h0 : M = [] := by
        have : ys = [] := by
          cases ys with
          | nil => rfl
          | cons y ys => exact absurd rfl c
        have := m1.1
        subst ys
        exact List.eq_nil_of_length_eq_zero this.symm
      subst h0
      exact k
  refine wid _ ?_
  clear wid
  have hww : widthOf M ≤ w ∧ RowsW (widthOf M) M := by
    unfold widthOf
    cases M with
    | nil => exact ⟨Nat.zero_le _, fun row hr => by cases hr⟩
    | cons x xs =>
      have e : x.length = w := hw x (List.mem_cons_self ..)
      exact ⟨Nat.le_of_eq e, fun row hr => (hw row hr).trans e.symm⟩
  have CI := clrI_n hB0 hE hww.2
  have rk : ∀ i, i ≤ widthOf M → (clrN M i).2.1 ≤ min w M.length := fun i hi => by
    have a1 := rank_le M i
    have a2 := (CI i).le
    omega
  have bkk : ∀ i, i ≤ widthOf M → bk B (clrN M i).2.1 < 9000 := fun i hi => Nat.lt_of_le_of_lt (bk_le (rk i hi)) hB
  generalize hW : widthOf M = W at *
  refine ⟨_, rfl, _, rfl, by omega, by omega, for_range (lo := 0) (n := ((W : Nat) : Int).toNat) (fun i σ' H' => (∃ a6 a7 a8 a9 a10 : Option V, σ' = [some (.ref p), some (.ref D), some (.int (W : Int)), some (.int ((clrN M i).2.1 : Int)), some (.int (clrN M i).2.2.1), some (.int (clrN M i).2.2.2), a6, a7, a8, a9, a10, none, none, none]) ∧ Same H H' ∧ Mat H' D (clrN M i).1) ⟨⟨_, _, _, _, _, rfl⟩, s1, ys, hD1, m1⟩ ?_ ?_⟩
  · rintro i σ' H2 hi ⟨⟨a6, a7, a8, a9, a10, rfl⟩, s2, hM2⟩
    have I := CI i
    have e0 : (0 : Int) + (i : Int) = (i : Int) := by omega
    have bi := bkk i (by omega)
    have est : clrN M (i + 1) = stepC i (clrN M i) := rfl
    have hIl := I.len
    have hIr := I.rows
    have hIle := I.le
    have hInz := I.nz
    have hIsm := I.sm
    have hIe := I.ent
    unfold stepC at est
    generalize hcl : clrN M i = cs at *
    obtain ⟨Mi, r, sg, last⟩ := cs
    dsimp only at *
    rw [e0]
    refine ⟨_, rfl, _, rfl, _, rfl, D, Mi, r, i, W, rfl, hM2, hIr, by omega, by omega, by omega, by omega, ?_⟩
    cases hf : ffrom Mi i r (Mi.length - r) with
    | none =>
      rw [hf] at est
      dsimp only at est ⊢
      refine ⟨_, rfl, rfl, _, rfl, ?_⟩
      refine ite_dec rfl ?_
      rw [est]
      exact ⟨⟨_, _, _, _, _, rfl⟩, s2, hM2⟩
    | some f =>
      rw [hf] at est
      dsimp only at est ⊢
      obtain ⟨f1, f2, f3⟩ := ffrom_some hf
      have hfl : f < Mi.length := by omega
      have hrl : r < Mi.length := by omega
      refine ⟨_, rfl, rfl, _, rfl, ?_⟩
      refine ite_dec' (fun z => by cases z) ?_
      obtain ⟨rsi, g1, g2⟩ := hM2.ex
      obtain ⟨tf, gf, gf2⟩ := g2.at hfl
      obtain ⟨tr, gr, gr2⟩ := g2.at hrl
      have hn0 : 0 < Mi.length := by omega
      have hp := piv_at hrl hfl
      have hd : (pivM Mi r f).getD r [] = Mi.getD f [] := getD_of hp
      have hmem := getD_mem hfl
      have hpl : (pivM Mi r f).length = Mi.length := len_piv ..
      have hpe : Ent (bk B r) (pivM Mi r f) := fun row hr => hIe row (piv_mem hrl hfl row hr)
      have hpw : RowsW W (pivM Mi r f) := fun row hr => hIr row (piv_mem hrl hfl row hr)
      have hhe := hIe _ hmem
      have hhw := hIr _ hmem
      refine ⟨fun σ' H' => σ' = [some (.ref p), some (.ref D), some (.int (W : Int)), some (.int (r : Int)), some (.int (if f = r then sg else -sg)), some (.int last), some (.int (i : Int)), some (.int (f : Int)), a8, a9, a10, none, none, none] ∧ Same H H' ∧ Mat H' D (pivM Mi r f), ?_, ?_⟩
      · refine ⟨_, rfl, _, rfl, rfl, _, rfl, ?_⟩
        refine ite2 (fun c => ?_) (fun c => ?_)
        · have c' : f ≠ r := fun z => by
            subst z
            simp at c
          refine ⟨_, rfl, _, rfl, _, _, _, _, rfl, rfl, SqL.of g1, at_of (j := f) rfl gf, _, rfl, _, rfl, _, _, _, _, rfl, rfl, SqL.of g1, at_of (j := r) rfl gr, (by show 2 ≤ sizeLine; decide), fun t ht => ?_⟩
          have st := Same.new (o := .tup [.ref tf, .ref tr]) ht
          have g1' := st _ _ g1
          have g2' := g2.same st
          refine ⟨t, _, rfl, SqT.of upd_same, rfl, _, _, rfl, ?_⟩
          refine ⟨_, rfl, _, rfl, D, _, _, r, rfl, rfl, g1', ixN_at (by rw [g2.1]; exact hrl), _, _, rfl, ?_⟩
          refine ⟨_, rfl, _, rfl, D, _, _, f, rfl, rfl, upd_same, ixN_at (by rw [List.length_set, g2.1]; exact hfl), rfl, ?_⟩
          have gf' := st _ _ gf2
          have gr' := st _ _ gr2
          have x1 := g2'.set (k := r) gf'
          have y1 := x1.set (k := f) gr'
          refine ⟨_, rfl, _, rfl, ?_⟩
          refine ⟨by rw [if_neg c']; rfl, ((s2.trans st).upd_new hD).upd_new hD, _, upd_same, ?_⟩
          unfold pivM
          rw [if_neg c']
          exact (y1.upd g2' g1' hn0).upd (x1.upd g2' g1' hn0) upd_same (by rw [List.length_set]; exact hn0)
        · have c' : f = r := Decidable.byContradiction fun z => c (by simp; omega)
          subst c'
          rw [if_pos rfl]
          refine ⟨rfl, s2, ?_⟩
          unfold pivM
          rw [if_pos rfl]
          exact hM2
      · clear gf gf2 gr gr2 g1 g2 rsi tf tr hM2
        rintro σ' H3 ⟨rfl, s3, hM3⟩
        obtain ⟨rsi, g1, g2⟩ := hM3.ex
        have hrl' : r < (pivM Mi r f).length := by omega
        obtain ⟨th, gh, gh2⟩ := g2.at hrl'
        rw [hd] at gh2 est
        refine ⟨_, rfl, _, rfl, _, _, _, _, rfl, rfl, SqL.of g1, at_of (j := r) rfl gh, ?_⟩
        have hrs : rsi.length = Mi.length := g2.1.trans hpl
        have thD : th ≠ D := g2.ne g1 (by omega) gh2
        generalize hhd : Mi.getD f [] = head at *
        have hpiv : (head.getD i 0).natAbs < 2 ^ bk B r := getD_lt hhe
        have iI : (i : Int) < (W : Int) := by omega
        refine ⟨_, rfl, _, _, rfl, rfl, _, rfl, D, rsi, rfl, .inl (SqL.of g1), (r : Int) + 1, (rsi.length : Int), rfl, ⟨by omega, by omega, by omega, by omega⟩, for_range (lo := (r : Int) + 1) (n := ((rsi.length : Int) - ((r : Int) + 1)).toNat) (fun k σ' H' => (∃ a9 a10 : Option V, σ' = [some (.ref p), some (.ref D), some (.int (W : Int)), some (.int (r : Int)), some (.int (if f = r then sg else -sg)), some (.int last), some (.int (i : Int)), some (.int (f : Int)), some (.ref th), a9, a10, none, none, none]) ∧ Same H H' ∧ Mat H' D (redTo last head i r (r + 1 + k) (pivM Mi r f)) ∧ H' th = some (.lst (head.map V.int))) ⟨⟨_, _, rfl⟩, s3, by rw [Nat.add_zero, red_start]; exact ⟨rsi, g1, g2⟩, gh2⟩ ?_ ?_⟩
        · clear g1 g2 gh gh2 hM3 s3 s2
          rintro k σ' H4 hk ⟨⟨b9, b10, rfl⟩, s4, hM4, gth⟩
          obtain ⟨rs4, g1, g2⟩ := hM4.ex
          have hk' : r + 1 + k < (pivM Mi r f).length := by omega
          have hk4 : r + 1 + k < (redTo last head i r (r + 1 + k) (pivM Mi r f)).length := by rw [len_red]; exact hk'
          obtain ⟨tk, gk, gk2⟩ := g2.at hk4
          have hrowk : (redTo last head i r (r + 1 + k) (pivM Mi r f)).getD (r + 1 + k) [] = (pivM Mi r f).getD (r + 1 + k) [] := by
            rw [List.getD_eq_getElem?_getD, red_keep (.inr (Nat.le_refl _)), List.getD_eq_getElem?_getD]
          rw [hrowk] at gk2
          have hkm := getD_mem hk'
          have hkw := hpw _ hkm
          have hke := hpe _ hkm
          have hks := getD_some hk'
          generalize (pivM Mi r f).getD (r + 1 + k) [] = row at *
          have eI : (r : Int) + 1 + (k : Int) = ((r + 1 + k : Nat) : Int) := by omega
          rw [eI]
          refine ⟨_, rfl, _, rfl, _, _, _, _, rfl, rfl, SqL.of g1, at_of (j := r + 1 + k) rfl gk, _, rfl, _, _, _, _, rfl, rfl, SqL.of gk2, at_of (j := i) rfl (getD_map (by omega)), ?_⟩
          refine ⟨_, rfl, _, rfl, _, _, _, _, rfl, rfl, SqL.of g1, at_of (j := r + 1 + k) rfl gk, _, rfl, tk, th, _, _, rfl, .inl ⟨SqL.of gk2, SqL.of gth, fun D2 hD2 => ?_⟩⟩
          refine lc_zipLS (f := fun own top => (head.getD i 0 * own - row.getD i 0 * top).fdiv last) (SqL.of gk2) (SqL.of gth) (by rw [hkw, hhw]) (by omega) hD2 (fun u v => rfl) (fun u v H5 kk s5 hu hv hkk => ?_) fun H5 s5 hD5 => ?_
          · have ur := hke u hu
            have vr := hhe v hv
            have rr : (row.getD i 0).natAbs < 2 ^ bk B r := getD_lt hke
            have b0 : 0 < bk B r := bk_pos B hB0 r
            have b2 : bk B r + bk B r ≤ 1000000 := by clear hk hke; omega
            have i1 : i < head.length := by omega
            refine ⟨_, rfl, _, rfl, _, _, _, _, rfl, rfl, SqL.of (s5 _ _ gth), at_of (j := i) rfl (getD_map i1), _, rfl, _, _, rfl, rfl, wide_mul hpiv ur b0 b0 b2, ?_⟩
            refine ⟨_, rfl, _, rfl, _, _, rfl, rfl, wide_mul rr vr b0 b0 b2, _, _, rfl, rfl, _, rfl, _, _, rfl, rfl, ⟨hInz, ?_⟩, hkk⟩
            exact Nat.lt_of_lt_of_le ((Nat.log2_lt (by simpa using hInz)).mpr hIsm) (Nat.le_of_lt bi)
          · refine ⟨_, rfl, _, rfl, D, _, _, r + 1 + k, rfl, rfl, s5 _ _ g1, ixN_at (by rw [g2.1]; exact hk4), ?_⟩
            refine ⟨⟨_, _, rfl⟩, (s4.trans s5).upd_new hD, ⟨_, upd_same, ?_⟩, by rw [upd_ne thD]; exact s5 _ _ gth⟩
            rw [show r + 1 + (k + 1) = (r + 1 + k) + 1 from rfl, red_step (by omega) hks]
            exact ((g2.same s5).set (k := r + 1 + k) hD5).upd (g2.same s5) (s5 _ _ g1) (by omega)
        · rintro σ' H4 ⟨⟨b9, b10, rfl⟩, s4, hM4, gth⟩
          refine ⟨_, rfl, _, rfl, _, _, _, _, rfl, rfl, SqL.of gth, at_of (j := i) rfl (getD_map (by omega)), ?_⟩
          have er : r + 1 + ((rsi.length : Int) - ((r : Int) + 1)).toNat = (pivM Mi r f).length := by omega
          rw [er] at hM4
          refine ⟨_, rfl, _, _, rfl, rfl, ?_⟩
          rw [est]
          exact ⟨⟨_, _, _, _, _, rfl⟩, s4, hM4⟩
  · rintro σ' H2 ⟨⟨a6, a7, a8, a9, a10, rfl⟩, s2, hM2⟩
    have I := CI W
    have sg1 := sign_one M W
    rw [show ((W : Nat) : Int).toNat = W from Int.toNat_natCast W]
    have bW := bkk W (Nat.le_refl _)
    have b0 : 0 < bk B (clrN M W).2.1 := bk_pos B hB0 _
    refine ⟨_, rfl, _, rfl, _, rfl, _, _, rfl, rfl, wide_mul (a := 1) (b := bk B (clrN M W).2.1) (by omega) I.sm (by decide) b0 (by omega), (by show 2 ≤ sizeLine; decide), fun t ht => q t _ (s2.trans (Same.new ht)) ?_⟩
    rw [upd_same, clrRank, clrDet, hW]
def spRank : Sp := fun vs H Q _ => ∃ (p : Addr) (M : List (List Int)) (E w : Nat), vs = [.ref p] ∧ Mat H p M ∧ RowsW w M ∧ Ent E M ∧ 0 < E ∧ bk E (min w M.length) < 9000 ∧ M.length ≤ 1000 ∧ w ≤ 1000 ∧ ∀ H', Same H H' → Q (.int (clrRank M : Int)) H'
theorem ok_rank (T : Tx K mg) : FnOk P w K mg base CX0 3 T.f_rank_of T.d_rank_of ["matrix"] spRank := by
  have G__cleared := ok_cleared (P := P) (w := w) (base := base) T
  refine T.F_rank_of.ok sc_rank_of (fun vs H Q E h => ?_) (fun cdv A outer s H vs Q E hr h => ?_)
  · obtain ⟨p, M, r, c, rfl, _⟩ := h
    rfl
  obtain ⟨p, M, B, w, rfl, hM, hw, hE, hB0, hB, hn, hw1, q⟩ := h
  have nd := sc_rank_of.nd
  refine ⟨_, (pss_cons (ps_asg (pe_call G__cleared hr (by rfl) T.m__cleared T.F__cleared.kp T.b__cleared .nil pass0 (pa_cons (pv 0) pa_nil)) (pg_tup rfl (pgs_cons (pg_name (i := 1) nd rfl (Or.inl rfl)) (pgs_cons (pg_name (i := 2) nd rfl (Or.inl rfl)) pgs_nil))))
    (pss_one (ps_ret (pv 1)))), ?_⟩
  refine ⟨_, rfl, p, M, B, w, rfl, hM, hw, hE, hB0, hB, hn, hw1, fun t H1 s1 ht => ?_⟩
  exact ⟨t, _, rfl, SqT.of ht, rfl, _, _, rfl, _, _, rfl, rfl, _, rfl, q H1 s1⟩
end
end TL
namespace TL
/-! ### the rank of the table of two vectors -/
theorem pluecker (af ac ar aq bf bc br bq : Int) : (af * bc - ac * bf) * (ar * bq - aq * br) - (ar * bc - ac * br) * (af * bq - aq * bf) = (af * br - ar * bf) * (ac * bq - aq * bc) := by
  simp only [Int.mul_sub, Int.sub_mul, Int.mul_assoc, Int.mul_comm, Int.mul_left_comm]
  omega
theorem ffrom_none {M : List (List Int)} {c : Nat} : ∀ {n i : Nat}, ffrom M c i n = none → ∀ j, i ≤ j → j < i + n → (M.getD j []).getD c 0 = 0
  | 0, i, _, j, h1, h2 => by omega
  | n + 1, i, h, j, h1, h2 => by
    unfold ffrom at h
    split at h
    · cases h
    · rename_i hc
      rcases Nat.eq_or_lt_of_le h1 with e | e
      · subst e
        exact Decidable.not_not.mp hc
      · exact ffrom_none h j e (by omega)
theorem ffrom_zero2 {M : List (List Int)} {c : Nat} : ∀ {n i : Nat}, (∀ j, i ≤ j → j < i + n → (M.getD j []).getD c 0 = 0) → ffrom M c i n = none
  | 0, i, _ => by cases i <;> rfl
  | n + 1, i, h => by
    unfold ffrom
    rw [if_neg (by rw [h i (Nat.le_refl _) (by omega)]; decide)]
    exact ffrom_zero2 fun j h1 h2 => h j (by omega) (by omega)
/-- the table of two vectors, as six lists -/
def ctM (g : Nat → Nat → Int) : List (List Int) := (List.range 6).map fun p => (List.range 6).map fun q => g p q
theorem ctM_at {g : Nat → Nat → Int} {p : Nat} (h : p < 6) : (ctM g)[p]? = some ((List.range 6).map fun q => g p q) := by
  unfold ctM
  rw [List.getElem?_map, List.getElem?_range h]
  rfl
theorem row_at {f : Nat → Int} {q : Nat} (h : q < 6) : ((List.range 6).map f).getD q 0 = f q := by
  rw [List.getD_eq_getElem?_getD, List.getElem?_map, List.getElem?_range h]
  rfl
theorem zip_rows (F : Int → Int → Int) (f g : Nat → Int) : List.zipWith F ((List.range 6).map f) ((List.range 6).map g) = (List.range 6).map fun q => F (f q) (g q) := by
  apply List.ext_getElem
  · simp
  · intro i h1 h2
    simp
structure S0 (g : Nat → Nat → Int) (c : Nat) (s : CSt) : Prop where
  eq : s = (ctM g, 0, 1, 1)
  z : ∀ j, j < c → ∀ i, i < 6 → g i j = 0
structure S1 (c : Nat) (s : CSt) : Prop where
  len : s.1.length = 6
  rk : s.2.1 = 1
  ex : ∃ (k : Nat → Int) (w : Nat → Int), (∀ i, 1 ≤ i → i < 6 → s.1[i]? = some ((List.range 6).map fun q => k i * w q)) ∧ (∃ i, 1 ≤ i ∧ i < 6 ∧ k i ≠ 0) ∧ ∃ q, c ≤ q ∧ q < 6 ∧ w q ≠ 0
structure S2 (s : CSt) : Prop where
  len : s.1.length = 6
  rk : s.2.1 = 2
  z : ∀ i, 2 ≤ i → i < 6 → s.1[i]? = some ((List.range 6).map fun _ => (0 : Int))
theorem S2.step {c : Nat} {s : CSt} (h : S2 s) : S2 (stepC c s) := by
  have : stepC c s = s := by
    unfold stepC
    rw [ffrom_zero2]
    intro j h1 h2
    rw [h.len, h.rk] at h2
    rw [h.rk] at h1
    rw [getD_of (h.z j h1 (by omega)), List.getD_eq_getElem?_getD, List.getElem?_map]
    cases (List.range 6)[c]? <;> rfl
  rw [this]
  exact h
theorem fdiv_zero' (a : Int) : (0 : Int).fdiv a = 0 := by simp
theorem S1.step {c : Nat} {s : CSt} (hc : c < 6) (h : S1 c s) : S1 (c + 1) (stepC c s) ∨ S2 (stepC c s) := by
  obtain ⟨M, r, sg, last⟩ := s
  obtain ⟨hl, hr, k, w, h1, ⟨i0, i1, i2, i3⟩, q0, q1, q2, q3⟩ := h
  dsimp only at hl hr h1
  subst hr
  unfold stepC
  dsimp only
  split
  · rename_i hf
    left
    refine ⟨hl, rfl, k, w, h1, ⟨i0, i1, i2, i3⟩, q0, ?_, q2, q3⟩
    have := ffrom_none hf i0 i1 (by omega)
    rw [getD_of (h1 i0 i1 i2), row_at hc] at this
    rcases Int.mul_eq_zero.mp this with e | e
    · exact absurd e i3
    · rcases Nat.eq_or_lt_of_le q1 with e2 | e2
      · subst e2
        exact absurd e q3
      · exact e2
  · rename_i f hf
    right
    obtain ⟨f1, f2, f3⟩ := ffrom_some hf
    have f6 : f < 6 := by omega
    have hp : (pivM M 1 f).getD 1 [] = M.getD f [] := getD_of (piv_at (by omega) (by omega))
    have hh : M.getD f [] = (List.range 6).map fun q => k f * w q := getD_of (h1 f f1 f6)
    refine ⟨by dsimp only; rw [len_red, len_piv]; exact hl, rfl, fun i hi hi6 => ?_⟩
    dsimp only
    have hrow : ∃ κ : Int, (pivM M 1 f)[i]? = some ((List.range 6).map fun q => κ * w q) := by
      unfold pivM
      split
      · exact ⟨k i, h1 i (by omega) hi6⟩
      · unfold swapR
        by_cases e : f = i
        · subst e
          rw [List.getElem?_set_self (by rw [List.length_set]; omega)]
          exact ⟨k 1, by rw [getD_of (h1 1 (by decide) (by decide))]⟩
        · rw [List.getElem?_set_ne e, List.getElem?_set_ne (by omega)]
          exact ⟨k i, h1 i (by omega) hi6⟩
    obtain ⟨κ, hκ⟩ := hrow
    rw [red_at, hκ, Option.map_some, if_pos ⟨by omega, by rw [len_piv]; omega⟩, hp, hh]
    unfold redRow
    rw [zip_rows, row_at hc, row_at hc]
    refine congrArg some (List.map_congr_left fun q _ => ?_)
    have e : k f * w c * (κ * w q) - κ * w c * (k f * w q) = 0 := by
      have : k f * w c * (κ * w q) = κ * w c * (k f * w q) := by ac_rfl
      omega
    rw [e]
    exact fdiv_zero' _
def gg (a b : Nat → Int) (i j : Nat) : Int := a i * b j - a j * b i
theorem gg_neg (a b : Nat → Int) (i j : Nat) : gg a b j i = - gg a b i j := by
  unfold gg
  omega
theorem gg_self (a b : Nat → Int) (i : Nat) : gg a b i i = 0 := by
  unfold gg
  omega
theorem S0.step {a b : Nat → Int} {c : Nat} {s : CSt} (hc : c < 6) (h : S0 (gg a b) c s) : S0 (gg a b) (c + 1) (stepC c s) ∨ S1 (c + 1) (stepC c s) := by
  obtain ⟨rfl, hz⟩ := h
  have hl : (ctM (gg a b)).length = 6 := by simp [ctM]
  have cell : ∀ i, i < 6 → ((ctM (gg a b)).getD i []).getD c 0 = gg a b i c := fun i hi => by rw [getD_of (ctM_at hi), row_at hc]
  unfold stepC
  dsimp only
  rw [hl]
  split
  · rename_i hf
    left
    refine ⟨rfl, fun j hj i hi => ?_⟩
    rcases Nat.eq_or_lt_of_le (Nat.le_of_lt_succ hj) with e | e
    · subst e
      have := ffrom_none hf i (Nat.zero_le _) (by omega)
      rw [cell i hi] at this
      exact this
    · exact hz j e i hi
  · rename_i f hf
    right
    obtain ⟨_, f2, f3⟩ := ffrom_some hf
    have f6 : f < 6 := by omega
    rw [cell f f6] at f3
    have fc : c < f := by
      rcases Nat.lt_trichotomy f c with e | e | e
      · have := hz f e c hc
        rw [gg_neg] at f3
        omega
      · subst e
        exact absurd (gg_self a b f) f3
      · exact e
    have f0 : f ≠ 0 := by omega
    have hp : (pivM (ctM (gg a b)) 0 f).getD 0 [] = (List.range 6).map fun q => gg a b f q := by
      rw [getD_of (piv_at (by omega) (by omega)), getD_of (ctM_at f6)]
    refine ⟨by dsimp only; rw [len_red, len_piv]; exact hl, rfl, fun i => gg a b f (if i = f then 0 else i), fun q => gg a b c q, fun i hi hi6 => ?_, ?_, f, by omega, f6, by dsimp only; rw [gg_neg]; omega⟩
    · dsimp only
      have hrow : (pivM (ctM (gg a b)) 0 f)[i]? = some ((List.range 6).map fun q => gg a b (if i = f then 0 else i) q) := by
        unfold pivM
        rw [if_neg f0]
        unfold swapR
        by_cases e : i = f
        · subst e
          rw [List.getElem?_set_self (by rw [List.length_set]; omega), if_pos rfl, getD_of (ctM_at (by decide))]
        · rw [List.getElem?_set_ne (Ne.symm e), List.getElem?_set_ne (by omega), if_neg e, ctM_at hi6]
      rw [red_at, hrow, Option.map_some, if_pos ⟨by omega, by rw [len_piv]; omega⟩, hp]
      unfold redRow
      rw [zip_rows, row_at hc, row_at hc]
      refine congrArg some (List.map_congr_left fun q _ => ?_)
      rw [Int.fdiv_one]
      exact pluecker ..
    · rcases Nat.eq_zero_or_pos c with e | e
      · exact ⟨f, by omega, f6, by dsimp only; rw [if_pos rfl, ← e]; exact f3⟩
      · exact ⟨c, e, hc, by dsimp only; rw [if_neg (by omega)]; exact f3⟩
theorem states (a b : Nat → Int) : ∀ c, c ≤ 6 → S0 (gg a b) c (clrN (ctM (gg a b)) c) ∨ S1 c (clrN (ctM (gg a b)) c) ∨ S2 (clrN (ctM (gg a b)) c)
  | 0, _ => .inl ⟨rfl, fun j h => absurd h (Nat.not_lt_zero _)⟩
  | c + 1, h => by
    show _ ∨ S1 (c + 1) (stepC c _) ∨ S2 (stepC c _)
    rcases states a b c (by omega) with e | e | e
    · rcases e.step (by omega) with z | z
      · exact .inl z
      · exact .inr (.inl z)
    · exact .inr (e.step (by omega))
    · exact .inr (.inr e.step)
theorem clr_none {g : Nat → Nat → Int} (h : ∀ i j, i < 6 → j < 6 → g i j = 0) : ∀ c, c ≤ 6 → clrN (ctM g) c = (ctM g, 0, 1, 1)
  | 0, _ => rfl
  | c + 1, hc => by
    have hl : (ctM g).length = 6 := by simp [ctM]
    show stepC c (clrN (ctM g) c) = _
    rw [clr_none h c (by omega)]
    unfold stepC
    dsimp only
    rw [ffrom_zero2]
    intro j h1 h2
    rw [hl] at h2
    rw [getD_of (ctM_at (by omega)), row_at (by omega)]
    exact h j c (by omega) (by omega)
theorem ctM_width (g : Nat → Nat → Int) : widthOf (ctM g) = 6 := by simp [widthOf, ctM]
theorem rank_zero {g : Nat → Nat → Int} (h : ∀ i j, i < 6 → j < 6 → g i j = 0) : clrRank (ctM g) = 0 := by
  unfold clrRank
  rw [ctM_width, clr_none h 6 (Nat.le_refl _)]
theorem rank_two {a b : Nat → Int} (h : ¬ ∀ i j, i < 6 → j < 6 → gg a b i j = 0) : clrRank (ctM (gg a b)) = 2 := by
  unfold clrRank
  rw [ctM_width]
  rcases states a b 6 (Nat.le_refl _) with e | e | e
  · exact absurd (fun i j hi hj => e.z j hj i hi) h
  · obtain ⟨_, _, _, q, q1, q2, _⟩ := e.ex
    omega
  · exact e.rk
end TL
namespace TL
/-! ### determinants: rows put behind one another, columns told as a list -/
abbrev Vec := Nat → Int
abbrev Frm := List Nat → Int
def sgA : Nat → Int
  | 0 => 1
  | n + 1 => - sgA n
theorem sgA_sq : ∀ n, sgA n * sgA n = 1
  | 0 => rfl
  | n + 1 => by
    show - sgA n * - sgA n = 1
    rw [Int.neg_mul_neg]
    exact sgA_sq n
def Wd (x : Vec) : List Nat → Frm → Int
  | [], _ => 0
  | c :: cs, F => Wd x cs (fun ds => F (c :: ds)) + sgA cs.length * x c * F cs
/-- a form, and one more row -/
def WF (F : Frm) (x : Vec) : Frm := fun cs => Wd x cs F
def d0 : Frm
  | [] => 1
  | _ :: _ => 0
def DF (F : Frm) (rows : List Vec) : Frm := rows.foldl WF F
def Dt (rows : List Vec) : Frm := DF d0 rows
theorem wd_add (x : Vec) : ∀ (cs : List Nat) (F G : Frm), Wd x cs (fun ds => F ds + G ds) = Wd x cs F + Wd x cs G
  | [], _, _ => rfl
  | c :: cs, F, G => by
    show Wd x cs (fun ds => F (c :: ds) + G (c :: ds)) + _ = _
    rw [wd_add x cs (fun ds => F (c :: ds)) (fun ds => G (c :: ds))]
    show _ = (Wd x cs (fun ds => F (c :: ds)) + sgA cs.length * x c * F cs) + (Wd x cs (fun ds => G (c :: ds)) + sgA cs.length * x c * G cs)
    rw [Int.mul_add]
    omega
theorem wd_mul (x : Vec) (k : Int) : ∀ (cs : List Nat) (F : Frm), Wd x cs (fun ds => k * F ds) = k * Wd x cs F
  | [], _ => by show 0 = k * 0; rw [Int.mul_zero]
  | c :: cs, F => by
    show Wd x cs (fun ds => k * F (c :: ds)) + sgA cs.length * x c * (k * F cs) = k * (Wd x cs (fun ds => F (c :: ds)) + sgA cs.length * x c * F cs)
    rw [wd_mul x k cs (fun ds => F (c :: ds)), Int.mul_add]
    congr 1
    grind
theorem wd_zero (x : Vec) (cs : List Nat) : Wd x cs (fun _ => 0) = 0 := by
  have := wd_mul x 0 cs (fun _ => 0)
  simpa using this
theorem wd_lin (x y : Vec) (k l : Int) : ∀ (cs : List Nat) (F : Frm), Wd (fun j => k * x j + l * y j) cs F = k * Wd x cs F + l * Wd y cs F
  | [], _ => by show 0 = k * 0 + l * 0; simp
  | c :: cs, F => by
    show Wd (fun j => k * x j + l * y j) cs (fun ds => F (c :: ds)) + sgA cs.length * (k * x c + l * y c) * F cs = k * (Wd x cs (fun ds => F (c :: ds)) + sgA cs.length * x c * F cs) + l * (Wd y cs (fun ds => F (c :: ds)) + sgA cs.length * y c * F cs)
    rw [wd_lin x y k l cs (fun ds => F (c :: ds))]
    grind
theorem wd_sg (y : Vec) : ∀ (cs : List Nat) (G : Frm), Wd y cs (fun ds => sgA ds.length * G ds) = - (sgA cs.length * Wd y cs G)
  | [], _ => by show 0 = - (1 * 0); decide
  | c :: cs, G => by
    show Wd y cs (fun ds => sgA (ds.length + 1) * G (c :: ds)) + sgA cs.length * y c * (sgA cs.length * G cs) = - (sgA (cs.length + 1) * (Wd y cs (fun ds => G (c :: ds)) + sgA cs.length * y c * G cs))
    have e : (fun ds : List Nat => sgA (ds.length + 1) * G (c :: ds)) = fun ds => (-1) * (sgA ds.length * G (c :: ds)) := by
      funext ds
      show - sgA ds.length * _ = _
      rw [Int.neg_mul, Int.neg_one_mul]
    rw [e, wd_mul, wd_sg y cs (fun ds => G (c :: ds))]
    have e2 : sgA (cs.length + 1) = - sgA cs.length := rfl
    rw [e2]
    grind
theorem wd_anti (x y : Vec) : ∀ (cs : List Nat) (F : Frm), Wd y cs (fun ds => Wd x ds F) = - Wd x cs (fun ds => Wd y ds F)
  | [], _ => rfl
  | c :: cs, F => by
    show Wd y cs (fun ds => Wd x ds (fun es => F (c :: es)) + sgA ds.length * x c * F ds) + sgA cs.length * y c * Wd x cs F = - (Wd x cs (fun ds => Wd y ds (fun es => F (c :: es)) + sgA ds.length * y c * F ds) + sgA cs.length * x c * Wd y cs F)
    have ex : ∀ (u : Vec), (fun ds : List Nat => sgA ds.length * u c * F ds) = fun ds => sgA ds.length * (u c * F ds) := fun u => by
      funext ds
      rw [Int.mul_assoc]
    rw [wd_add y cs (fun ds => Wd x ds (fun es => F (c :: es))) (fun ds => sgA ds.length * x c * F ds), wd_add x cs (fun ds => Wd y ds (fun es => F (c :: es))) (fun ds => sgA ds.length * y c * F ds),
      ex x, ex y, wd_sg, wd_sg, wd_mul, wd_mul, wd_anti x y cs (fun es => F (c :: es))]
    grind
theorem wd_twice (x : Vec) (cs : List Nat) (F : Frm) : Wd x cs (fun ds => Wd x ds F) = 0 := by
  have := wd_anti x x cs F
  omega
theorem wd_block {x : Vec} {j : Nat} : ∀ {cs : List Nat} {F : Frm}, (∀ c ∈ cs, x c = 0) → Wd x (cs ++ [j]) F = x j * F cs
  | [], F, _ => by
    show 0 + 1 * x j * F [] = _
    grind
  | c :: cs, F, h => by
    show Wd x (cs ++ [j]) (fun ds => F (c :: ds)) + _ * x c * _ = _
    rw [wd_block (F := fun ds => F (c :: ds)) fun d hd => h d (List.mem_cons_of_mem _ hd), h c (List.mem_cons_self ..)]
    simp
theorem wd_block2 {x : Vec} {i j : Nat} : ∀ {cs : List Nat} {F : Frm}, (∀ c ∈ cs, x c = 0) → Wd x (cs ++ [i, j]) F = x j * F (cs ++ [i]) - x i * F (cs ++ [j])
  | [], F, _ => by
    show (0 + 1 * x j * F [i]) + (-1) * x i * F [j] = x j * F [i] - x i * F [j]
    grind
  | c :: cs, F, h => by
    show Wd x (cs ++ [i, j]) (fun ds => F (c :: ds)) + _ * x c * _ = _
    rw [wd_block2 (F := fun ds => F (c :: ds)) fun d hd => h d (List.mem_cons_of_mem _ hd), h c (List.mem_cons_self ..)]
    simp
theorem wd_last {x : Vec} {j : Nat} : ∀ {cs : List Nat} {F : Frm}, Wd x (cs ++ [j]) F = x j * F cs - Wd x cs (fun ds => F (ds ++ [j]))
  | [], F => by
    show 0 + 1 * x j * F [] = x j * F [] - 0
    grind
  | c :: cs, F => by
    show Wd x (cs ++ [j]) (fun ds => F (c :: ds)) + sgA (cs ++ [j]).length * x c * F (cs ++ [j]) = x j * F (c :: cs) - (Wd x cs (fun ds => F (c :: (ds ++ [j]))) + sgA cs.length * x c * F (cs ++ [j]))
    rw [wd_last (F := fun ds => F (c :: ds))]
    have e : sgA (cs ++ [j]).length = - sgA cs.length := by
      rw [List.length_append]
      rfl
    rw [e]
    grind
/-! ### sums -/
def sumN : Nat → (Nat → Int) → Int
  | 0, _ => 0
  | n + 1, f => sumN n f + f n
theorem sumN_congr {n : Nat} {f g : Nat → Int} (h : ∀ t, t < n → f t = g t) : sumN n f = sumN n g := by
  induction n with
  | zero => rfl
  | succ n ih =>
    show sumN n f + f n = sumN n g + g n
    rw [ih fun t ht => h t (by omega), h n (by omega)]
theorem sumN_zero {n : Nat} : sumN n (fun _ => 0) = 0 := by
  induction n with
  | zero => rfl
  | succ n ih =>
    show sumN n _ + 0 = 0
    rw [ih]
    rfl
theorem sumN_mul {n : Nat} (k : Int) (f : Nat → Int) : sumN n (fun t => k * f t) = k * sumN n f := by
  induction n with
  | zero => exact (Int.mul_zero k).symm
  | succ n ih =>
    show sumN n _ + k * f n = k * (sumN n f + f n)
    rw [ih, Int.mul_add]
theorem sumN_add {n : Nat} (f g : Nat → Int) : sumN n (fun t => f t + g t) = sumN n f + sumN n g := by
  induction n with
  | zero => rfl
  | succ n ih =>
    show sumN n _ + (f n + g n) = (sumN n f + f n) + (sumN n g + g n)
    rw [ih]
    omega
theorem wd_sum (x : Vec) (cs : List Nat) (n : Nat) (k : Nat → Int) (G : Nat → Frm) : Wd x cs (fun ds => sumN n (fun t => k t * G t ds)) = sumN n (fun t => k t * Wd x cs (G t)) := by
  induction n with
  | zero => exact wd_zero x cs
  | succ n ih =>
    show Wd x cs (fun ds => sumN n (fun t => k t * G t ds) + k n * G n ds) = sumN n _ + k n * Wd x cs (G n)
    rw [wd_add, ih, wd_mul]
/-- a row put together -/
theorem wd_comb (A : Nat → Vec) (m : Nat → Int) (n : Nat) (cs : List Nat) (F : Frm) : Wd (fun j => sumN n (fun t => A t j * m t)) cs F = sumN n (fun t => m t * Wd (A t) cs F) := by
  induction n with
  | zero =>
    have := wd_lin (fun _ => 0) (fun _ => 0) 0 0 cs F
    simp only [Int.zero_mul, Int.add_zero] at this
    exact this
  | succ n ih =>
    have e : (fun j => sumN (n + 1) (fun t => A t j * m t)) = fun j => 1 * sumN n (fun t => A t j * m t) + m n * A n j := by
      funext j
      show sumN n _ + A n j * m n = _
      rw [Int.one_mul, Int.mul_comm (A n j)]
    rw [e, wd_lin (fun j => sumN n (fun t => A t j * m t)) (A n) 1 (m n), ih]
    show _ = sumN n _ + _
    rw [Int.one_mul]
/-! ### rows and their forms -/
def rw_ (A : List Vec) (t : Nat) : Vec := A.getD t (fun _ => 0)
theorem rw_app {A B : List Vec} {t : Nat} (h : t < A.length) : rw_ (A ++ B) t = rw_ A t := by
  unfold rw_
  rw [List.getD_eq_getElem?_getD, List.getElem?_append_left h, ← List.getD_eq_getElem?_getD]
theorem rw_last {A : List Vec} {x : Vec} : rw_ (A ++ [x]) A.length = x := by
  unfold rw_
  rw [List.getD_eq_getElem?_getD, List.getElem?_append_right (Nat.le_refl _), Nat.sub_self]
  rfl
theorem df_snoc (F : Frm) (A : List Vec) (x : Vec) : DF F (A ++ [x]) = WF (DF F A) x := by
  unfold DF
  rw [List.foldl_append]
  rfl
theorem dt_snoc (A : List Vec) (x : Vec) : Dt (A ++ [x]) = WF (Dt A) x := df_snoc ..
theorem df_app (F : Frm) (A B : List Vec) : DF F (A ++ B) = DF (DF F A) B := by
  unfold DF
  rw [List.foldl_append]
theorem df_zero (A : List Vec) : DF (fun _ => 0) A = fun _ => 0 := by
  induction A with
  | nil => rfl
  | cons x A ih =>
    show DF (WF (fun _ => 0) x) A = _
    have : WF (fun _ => 0) x = fun _ => 0 := by
      funext cs
      exact wd_zero x cs
    rw [this, ih]
/-- induction from behind -/
theorem rev_ind {α : Type} {P : List α → Prop} (h0 : P []) (h1 : ∀ A x, P A → P (A ++ [x])) : ∀ A, P A := fun A => by
  have : ∀ n (A : List α), A.length = n → P A := by
    intro n
    induction n with
    | zero =>
      intro A h
      rw [List.eq_nil_of_length_eq_zero h]
      exact h0
    | succ n ih =>
      intro A h
      have hne : A ≠ [] := fun z => by rw [z] at h; cases h
      rw [← List.dropLast_concat_getLast hne]
      exact h1 _ _ (ih _ (by rw [List.length_dropLast]; omega))
  exact this _ A rfl
theorem df_again (F : Frm) (a : Vec) : ∀ A : List Vec, WF (DF (WF F a) A) a = fun _ => 0 := by
  refine rev_ind ?_ ?_
  · funext cs
    exact wd_twice a cs F
  · intro A y ih
    rw [df_snoc]
    funext cs
    show Wd a cs (fun ds => Wd y ds (DF (WF F a) A)) = 0
    rw [wd_anti]
    have : (fun ds => Wd a ds (DF (WF F a) A)) = fun _ => 0 := ih
    rw [this, wd_zero]
    rfl
/-- a row that is there already -/
theorem dt_mem {A : List Vec} {x : Vec} (h : x ∈ A) : Dt (A ++ [x]) = fun _ => 0 := by
  obtain ⟨A1, A2, rfl⟩ := List.append_of_mem h
  rw [dt_snoc]
  unfold Dt
  rw [df_app]
  exact df_again _ x A2
theorem rw_mem {A : List Vec} {t : Nat} (h : t < A.length) : rw_ A t ∈ A := by
  unfold rw_
  rw [List.getD_eq_getElem?_getD, List.getElem?_eq_getElem h]
  exact List.getElem_mem h
/-- expansion along the last column -/
theorem dt_col : ∀ A : List Vec, ∃ G : Nat → Frm, ∀ ds j, Dt A (ds ++ [j]) = sumN A.length (fun t => rw_ A t j * G t ds) := by
  refine rev_ind ?_ ?_
  · refine ⟨fun _ _ => 0, fun ds j => ?_⟩
    show d0 (ds ++ [j]) = 0
    cases ds <;> rfl
  · rintro A x ⟨G, h⟩
    refine ⟨fun t ds => if t = A.length then Dt A ds else - Wd x ds (G t), fun ds j => ?_⟩
    rw [dt_snoc]
    show Wd x (ds ++ [j]) (Dt A) = _
    rw [wd_last]
    have e : (fun es => Dt A (es ++ [j])) = fun es => sumN A.length (fun t => rw_ A t j * G t es) := by
      funext es
      exact h es j
    rw [e, wd_sum, List.length_append]
    show _ = sumN A.length _ + _
    dsimp only
    rw [rw_last, if_pos rfl]
    have e2 : sumN A.length (fun t => rw_ (A ++ [x]) t j * (if t = A.length then Dt A ds else - Wd x ds (G t))) = sumN A.length (fun t => (-1) * (rw_ A t j * Wd x ds (G t))) := sumN_congr fun t ht => by
      rw [rw_app ht, if_neg (by omega)]
      grind
    rw [e2, sumN_mul]
    omega
theorem dt_colS (A : List Vec) (x : Vec) : ∃ G : Nat → Frm, ∀ ds j, Dt (A ++ [x]) (ds ++ [j]) = x j * Dt A ds + sumN A.length (fun t => rw_ A t j * G t ds) := by
  obtain ⟨G, h⟩ := dt_col A
  refine ⟨fun t ds => - Wd x ds (G t), fun ds j => ?_⟩
  rw [dt_snoc]
  show Wd x (ds ++ [j]) (Dt A) = _
  rw [wd_last]
  have e : (fun es => Dt A (es ++ [j])) = fun es => sumN A.length (fun t => rw_ A t j * G t es) := by
    funext es
    exact h es j
  rw [e, wd_sum]
  have e2 : sumN A.length (fun t => rw_ A t j * - Wd x ds (G t)) = sumN A.length (fun t => (-1) * (rw_ A t j * Wd x ds (G t))) := sumN_congr fun t _ => by grind
  rw [e2, sumN_mul]
  omega
/-- the last row may be changed by the others -/
theorem dt_red {A : List Vec} {b v : Vec} {d : Int} {m : Nat → Int} (h : ∀ j, v j = d * b j + sumN A.length (fun t => rw_ A t j * m t)) (cs : List Nat) : Dt (A ++ [v]) cs = d * Dt (A ++ [b]) cs := by
  have e : v = fun j => d * b j + 1 * sumN A.length (fun t => rw_ A t j * m t) := by
    funext j
    rw [Int.one_mul]
    exact h j
  rw [dt_snoc, dt_snoc]
  show Wd v cs (Dt A) = d * Wd b cs (Dt A)
  rw [e, wd_lin b (fun j => sumN A.length (fun t => rw_ A t j * m t)) d 1, wd_comb]
  have e2 : sumN A.length (fun t => m t * Wd (rw_ A t) cs (Dt A)) = sumN A.length (fun _ => 0) := sumN_congr fun t ht => by
    have : Dt (A ++ [rw_ A t]) cs = 0 := congrFun (dt_mem (rw_mem ht)) cs
    rw [dt_snoc] at this
    have this : Wd (rw_ A t) cs (Dt A) = 0 := this
    rw [this, Int.mul_zero]
  rw [e2, sumN_zero]
  omega
/-- Bareiss' step: what is divided, and by what -/
theorem bareiss {A : List Vec} {a b u v : Vec} {C : List Nat} {mu mv : Nat → Int} (hd : Dt A C ≠ 0) (hu : ∀ j, u j = Dt A C * a j + sumN A.length (fun t => rw_ A t j * mu t)) (hv : ∀ j, v j = Dt A C * b j + sumN A.length (fun t => rw_ A t j * mv t))
    (zu : ∀ c ∈ C, u c = 0) (zv : ∀ c ∈ C, v c = 0) (c j : Nat) : u c = Dt (A ++ [a]) (C ++ [c]) ∧ u c * v j - v c * u j = Dt A C * Dt ((A ++ [a]) ++ [b]) ((C ++ [c]) ++ [j]) := by
  have k1 : ∀ i, u i * Dt A C = Dt A C * Dt (A ++ [a]) (C ++ [i]) := fun i => by
    rw [← dt_red hu (C ++ [i]), dt_snoc]
    exact (wd_block zu).symm
  have k2 : ∀ i, u i = Dt (A ++ [a]) (C ++ [i]) := fun i => Int.eq_of_mul_eq_mul_left hd (by rw [← k1 i, Int.mul_comm])
  refine ⟨k2 c, ?_⟩
  -- v behind A and a
  have hv' : ∀ j, v j = Dt A C * b j + sumN (A ++ [a]).length (fun t => rw_ (A ++ [a]) t j * (if t = A.length then 0 else mv t)) := fun j => by
    rw [hv j, List.length_append]
    show _ = _ + (sumN A.length _ + _)
    dsimp only
    rw [if_pos rfl, Int.mul_zero, Int.add_zero]
    congr 1
    exact sumN_congr fun t ht => by rw [rw_app ht, if_neg (by omega)]
  have e1 := dt_red hv' ((C ++ [c]) ++ [j])
  have e2 : Dt ((A ++ [a]) ++ [v]) ((C ++ [c]) ++ [j]) = v j * Dt (A ++ [a]) (C ++ [c]) - v c * Dt (A ++ [a]) (C ++ [j]) := by
    rw [dt_snoc, List.append_assoc]
    exact wd_block2 zv
  rw [e2, ← k2 c, ← k2 j] at e1
  have e3 : u c * v j - v c * u j = v j * u c - v c * u j := by rw [Int.mul_comm (u c)]
  rw [e3, e1]
end TL
namespace TL
def vec (row : List Int) : Vec := fun j => row.getD j 0
theorem getD_set_eq {M : List (List Int)} {i : Nat} {x : List Int} (h : i < M.length) : (M.set i x).getD i [] = x := by
  rw [List.getD_eq_getElem?_getD, List.getElem?_set_self h]
  rfl
theorem getD_set_ne {M : List (List Int)} {i j : Nat} {x : List Int} (h : i ≠ j) : (M.set i x).getD j [] = M.getD j [] := by
  rw [List.getD_eq_getElem?_getD, List.getElem?_set_ne h, ← List.getD_eq_getElem?_getD]
theorem pivM_r {M : List (List Int)} {r f : Nat} (hr : r < M.length) (hf : f < M.length) : (pivM M r f).getD r [] = M.getD f [] := getD_of (piv_at hr hf)
theorem pivM_i {M : List (List Int)} {r f i : Nat} (hf : f < M.length) (hrf : r ≤ f) (hi : r < i) : (pivM M r f).getD i [] = M.getD (if i = f then r else i) [] := by
  unfold pivM
  by_cases e : f = r
  · rw [if_pos e, if_neg (by omega)]
  · rw [if_neg e]
    unfold swapR
    by_cases e2 : i = f
    · rw [if_pos e2, e2, getD_set_eq (by rw [List.length_set]; exact hf)]
    · rw [if_neg e2, getD_set_ne (by omega), getD_set_ne (by omega)]
theorem pivM_take {M : List (List Int)} {r f : Nat} (hf : f < M.length) (hrf : r ≤ f) : (pivM M r f).take (r + 1) = M.take r ++ [M.getD f []] := by
  apply List.ext_getElem?
  intro i
  have hr : r < M.length := by omega
  rcases Nat.lt_trichotomy i r with z | z | z
  · rw [List.getElem?_take, if_pos (by omega), List.getElem?_append_left (by rw [List.length_take]; omega), List.getElem?_take, if_pos z]
    unfold pivM
    by_cases e : f = r
    · rw [if_pos e]
    · rw [if_neg e]
      unfold swapR
      rw [List.getElem?_set_ne (by omega), List.getElem?_set_ne (by omega)]
  · subst z
    rw [List.getElem?_take, if_pos (by omega), piv_at hr hf, List.getElem?_append_right (by rw [List.length_take]; omega), List.length_take, Nat.min_eq_left (by omega), Nat.sub_self]
    rfl
  · rw [List.getElem?_take, if_neg (by omega), List.getElem?_eq_none]
    rw [List.length_append, List.length_take, List.length_singleton]
    omega
/-! ### rows changed about -/
theorem df_neg (k : Int) (F : Frm) (A : List Vec) : DF (fun ds => k * F ds) A = fun ds => k * DF F A ds := by
  induction A generalizing F with
  | nil => rfl
  | cons x A ih =>
    show DF (WF (fun ds => k * F ds) x) A = fun ds => k * DF (WF F x) A ds
    have : WF (fun ds => k * F ds) x = fun ds => k * WF F x ds := by
      funext cs
      exact wd_mul x k cs F
    rw [this]
    exact ih _
theorem df_swap2 (F : Frm) (x y : Vec) (A : List Vec) : DF F (x :: y :: A) = fun ds => (-1) * DF F (y :: x :: A) ds := by
  show DF (WF (WF F x) y) A = fun ds => (-1) * DF (WF (WF F y) x) A ds
  rw [← df_neg]
  congr 1
  funext cs
  show Wd y cs (fun ds => Wd x ds F) = (-1) * Wd x cs (fun ds => Wd y ds F)
  rw [wd_anti]
  omega
/-- rows in another order: the same form but for the sign -/
theorem df_perm {A B : List Vec} (h : A.Perm B) : ∀ F : Frm, ∃ s : Int, (s = 1 ∨ s = -1) ∧ DF F A = fun ds => s * DF F B ds := by
  induction h with
  | nil => exact fun F => ⟨1, .inl rfl, by funext ds; exact (Int.one_mul _).symm⟩
  | cons x _ ih => exact fun F => ih (WF F x)
  | swap x y l =>
    intro F
    exact ⟨-1, .inr rfl, df_swap2 F y x l⟩
  | trans _ _ ih1 ih2 =>
    intro F
    obtain ⟨s, hs, e1⟩ := ih1 F
    obtain ⟨t, ht, e2⟩ := ih2 F
    refine ⟨s * t, ?_, ?_⟩
    · rcases hs with rfl | rfl <;> rcases ht with rfl | rfl <;> simp
    · rw [e1, e2]
      funext ds
      rw [Int.mul_assoc]
/-- one row moved ahead over n others -/
theorem df_move (y : Vec) : ∀ (L : List Vec) (F : Frm) (R : List Vec), DF F (L ++ y :: R) = fun ds => sgA L.length * DF F (y :: (L ++ R)) ds
  | [], F, R => by funext ds; exact (Int.one_mul _).symm
  | x :: L, F, R => by
    show DF (WF F x) (L ++ y :: R) = _
    rw [df_move y L (WF F x) R]
    funext ds
    have : DF F (x :: y :: (L ++ R)) ds = (-1) * DF F (y :: x :: (L ++ R)) ds := congrFun (df_swap2 F x y (L ++ R)) ds
    show sgA L.length * DF F (x :: y :: (L ++ R)) ds = - sgA L.length * DF F (y :: x :: (L ++ R)) ds
    rw [this]
    grind
/-- two rows exchanged -/
theorem df_exch (F : Frm) (x y : Vec) (L R : List Vec) : DF F (x :: (L ++ y :: R)) = fun ds => (-1) * DF F (y :: (L ++ x :: R)) ds := by
  have e1 : DF F (x :: (L ++ y :: R)) = fun ds => sgA L.length * DF F (x :: y :: (L ++ R)) ds := df_move y L (WF F x) R
  have e2 : DF F (y :: (L ++ x :: R)) = fun ds => sgA L.length * DF F (y :: x :: (L ++ R)) ds := df_move x L (WF F y) R
  rw [e1, e2]
  funext ds
  have : DF F (x :: y :: (L ++ R)) ds = (-1) * DF F (y :: x :: (L ++ R)) ds := congrFun (df_swap2 F x y (L ++ R)) ds
  dsimp only
  rw [this]
  grind
theorem swap_dec {M : List (List Int)} {r f : Nat} (hf : f < M.length) (hrf : r < f) : ∃ L N R, M = L ++ M.getD r [] :: (N ++ M.getD f [] :: R) ∧ swapR M r f = L ++ M.getD f [] :: (N ++ M.getD r [] :: R) := by
  have hr : r < M.length := by omega
  have e1 : M = M.take r ++ M.getD r [] :: M.drop (r + 1) := by
    have := List.take_append_drop r M
    rw [List.drop_eq_getElem_cons hr] at this
    rw [List.getD_eq_getElem?_getD, List.getElem?_eq_getElem hr]
    exact this.symm
  have e2 : M.drop (r + 1) = (M.drop (r + 1)).take (f - r - 1) ++ M.getD f [] :: (M.drop (r + 1)).drop (f - r) := by
    have hl : f - r - 1 < (M.drop (r + 1)).length := by rw [List.length_drop]; omega
    have := List.take_append_drop (f - r - 1) (M.drop (r + 1))
    rw [List.drop_eq_getElem_cons hl] at this
    rw [List.getD_eq_getElem?_getD, List.getElem?_eq_getElem hf]
    have e : (M.drop (r + 1))[f - r - 1] = M[f] := by
      rw [List.getElem_drop]
      congr 1
      omega
    rw [e, show f - r - 1 + 1 = f - r by omega] at this
    exact this.symm
  refine ⟨M.take r, (M.drop (r + 1)).take (f - r - 1), (M.drop (r + 1)).drop (f - r), by rw [← e2]; exact e1, ?_⟩
  apply List.ext_getElem?
  intro i
  have lt : (M.take r).length = r := by rw [List.length_take]; omega
  have ln : ((M.drop (r + 1)).take (f - r - 1)).length = f - r - 1 := by rw [List.length_take, List.length_drop]; omega
  unfold swapR
  rw [List.getElem?_set]
  by_cases c1 : f = i
  · subst c1
    rw [if_pos rfl, if_pos (by rw [List.length_set]; exact hf), List.getElem?_append_right (by omega), lt, List.getElem?_cons, if_neg (by omega), List.getElem?_append_right (by omega), ln,
      show f - r - 1 - (f - r - 1) = 0 by omega]
    rfl
  · rw [if_neg c1, List.getElem?_set]
    by_cases c2 : r = i
    · subst c2
      rw [if_pos rfl, if_pos hr, List.getElem?_append_right (by omega), lt, Nat.sub_self]
      rfl
    · rw [if_neg c2]
      rcases Nat.lt_or_ge i r with z | z
      · rw [List.getElem?_append_left (by omega), List.getElem?_take, if_pos z]
      · rw [List.getElem?_append_right (by omega), lt, List.getElem?_cons, if_neg (by omega)]
        rcases Nat.lt_or_ge i f with y | y
        · rw [List.getElem?_append_left (by omega), List.getElem?_take, if_pos (by omega), List.getElem?_drop]
          congr 1
          omega
        · rw [List.getElem?_append_right (by omega), ln, List.getElem?_cons, if_neg (by omega), List.getElem?_drop, List.getElem?_drop]
          congr 1
          omega
theorem pivM_perm {M : List (List Int)} {r f : Nat} (hf : f < M.length) (hrf : r ≤ f) : (pivM M r f).Perm M := by
  unfold pivM
  split
  · exact .refl _
  · rename_i c
    obtain ⟨L, N, R, e1, e2⟩ := swap_dec hf (by omega : r < f)
    rw [e2]
    refine .trans ?_ (.of_eq e1.symm)
    refine .append_left L ?_
    have p1 : (N ++ M.getD r [] :: R).Perm (M.getD r [] :: (N ++ R)) := List.perm_middle
    have p2 : (N ++ M.getD f [] :: R).Perm (M.getD f [] :: (N ++ R)) := List.perm_middle
    exact ((p1.cons _).trans (.swap _ _ _)).trans (p2.symm.cons _)
theorem pivM_dt {M : List (List Int)} {r f : Nat} (hf : f < M.length) (hrf : r ≤ f) : Dt ((pivM M r f).map vec) = fun ds => (if f = r then 1 else -1) * Dt (M.map vec) ds := by
  unfold pivM
  split
  · funext ds
    exact (Int.one_mul _).symm
  · rename_i c
    obtain ⟨L, N, R, e1, e2⟩ := swap_dec hf (by omega : r < f)
    rw [e2]
    have e3 : Dt (M.map vec) = Dt ((L ++ M.getD r [] :: (N ++ M.getD f [] :: R)).map vec) := by rw [← e1]
    rw [e3]
    generalize M.getD r [] = a
    generalize M.getD f [] = b
    simp only [List.map_append, List.map_cons]
    unfold Dt
    rw [df_app, df_app]
    exact df_exch _ _ _ _ _
end TL
namespace TL
theorem rw_map {A : List (List Int)} {t : Nat} (h : t < A.length) : rw_ (A.map vec) t = vec (A.getD t []) := by
  unfold rw_
  rw [List.getD_eq_getElem?_getD, List.getElem?_map, List.getElem?_eq_getElem h, List.getD_eq_getElem?_getD, List.getElem?_eq_getElem h]
  rfl
theorem vec_red {last : Int} {head row : List Int} {c j w : Nat} (hh : head.length = w) (hr : row.length = w) : vec (redRow last head c row) j = (vec head c * vec row j - vec row c * vec head j).fdiv last := by
  have at_ : ∀ {xs : List Int} {i : Nat} (h : i < xs.length), xs.getD i 0 = xs[i] := fun {xs i} h => by
    rw [List.getD_eq_getElem?_getD, List.getElem?_eq_getElem h]
    rfl
  have o : ∀ {xs : List Int} {i : Nat}, xs.length ≤ i → xs.getD i 0 = 0 := fun {xs i} h => by
    rw [List.getD_eq_getElem?_getD, List.getElem?_eq_none h]
    rfl
  unfold vec redRow
  rcases Nat.lt_or_ge j w with z | z
  · rw [at_ (i := j) (by rw [List.length_zipWith]; omega), List.getElem_zipWith, at_ (xs := row) (i := j) (by omega), at_ (xs := head) (i := j) (by omega)]
  · rw [o (by rw [List.length_zipWith]; omega), o (xs := row) (i := j) (by omega), o (xs := head) (i := j) (by omega)]
    simp
/-- what stands when the columns below c are through -/
structure BI (M : List (List Int)) (w c : Nat) (s : CSt) (B : List (List Int)) (C : List Nat) : Prop where
  perm : B.Perm M
  len : s.1.length = M.length
  le : s.2.1 ≤ M.length
  cl : C.length = s.2.1
  clt : ∀ j ∈ C, j < c
  rows : RowsW w s.1
  det : Dt ((B.take s.2.1).map vec) C = s.2.2.2
  nz : s.2.2.2 ≠ 0
  sg : s.2.2.1 = 1 ∨ s.2.2.1 = -1
  sgn : Dt (B.map vec) = fun ds => s.2.2.1 * Dt (M.map vec) ds
  rest : ∀ i, s.2.1 ≤ i → i < M.length → (∃ m : Nat → Int, ∀ j, vec (s.1.getD i []) j = s.2.2.2 * vec (B.getD i []) j + sumN s.2.1 (fun t => vec (B.getD t []) j * m t)) ∧ ∀ j, j < c → vec (s.1.getD i []) j = 0
theorem BI.start {M : List (List Int)} {w : Nat} (hw : RowsW w M) : BI M w 0 (M, 0, 1, 1) M [] where
  perm := .refl _
  len := rfl
  le := Nat.zero_le _
  cl := rfl
  clt := fun j h => by cases h
  rows := hw
  det := rfl
  nz := by show (1 : Int) ≠ 0; decide
  sg := .inl rfl
  sgn := by funext ds; exact (Int.one_mul _).symm
  rest := fun i _ _ => ⟨⟨fun _ => 0, fun j => by show vec (M.getD i []) j = 1 * vec (M.getD i []) j + 0; omega⟩, fun j h => by omega⟩
theorem BI.blen {M : List (List Int)} {w c : Nat} {s : CSt} {B : List (List Int)} {C : List Nat} (h : BI M w c s B C) : B.length = M.length := h.perm.length_eq
theorem map_take_rw {B : List (List Int)} {r t : Nat} (hr : r ≤ B.length) (ht : t < r) : rw_ ((B.take r).map vec) t = vec (B.getD t []) := by
  rw [rw_map (by rw [List.length_take]; omega)]
  congr 1
  rw [List.getD_eq_getElem?_getD, List.getElem?_take, if_pos ht, ← List.getD_eq_getElem?_getD]
theorem BI.step {M : List (List Int)} {w c : Nat} {s : CSt} {B : List (List Int)} {C : List Nat} (h : BI M w c s B C) : ∃ B' C', BI M w (c + 1) (stepC c s) B' C' := by
  obtain ⟨Mi, r, sg, last⟩ := s
  have hbl := h.blen
  obtain ⟨hperm, hlen, hle, hcl, hclt, hrows, hdet, hnz, hsg, hsgn, hrest⟩ := h
  dsimp only at *
  unfold stepC
  dsimp only
  cases hf : ffrom Mi c r (Mi.length - r) with
  | none =>
    refine ⟨B, C, hperm, hlen, hle, hcl, fun j hj => Nat.lt_succ_of_lt (hclt j hj), hrows, hdet, hnz, hsg, hsgn, fun i hi hi2 => ⟨(hrest i hi hi2).1, fun j hj => ?_⟩⟩
    rcases Nat.lt_or_ge j c with z | z
    · exact (hrest i hi hi2).2 j z
    · have : j = c := by omega
      subst this
      exact ffrom_none hf i hi (by omega)
  | some f =>
    obtain ⟨f1, f2, f3⟩ := ffrom_some hf
    have hfM : f < Mi.length := by omega
    have hrM : r < Mi.length := by omega
    have hfB : f < B.length := by omega
    have hrB : r < B.length := by omega
    dsimp only
    rw [pivM_r hrM hfM]
    -- the pivot row
    have Hf := hrest f f1 (by omega)
    obtain ⟨⟨mu, hmu⟩, zu⟩ := Hf
    have hA : ((B.take r).map vec).length = r := by rw [List.length_map, List.length_take]; omega
    have conv : ∀ (m : Nat → Int) (j : Nat), sumN r (fun t => vec (B.getD t []) j * m t) = sumN ((B.take r).map vec).length (fun t => rw_ ((B.take r).map vec) t j * m t) := fun m j => by
      rw [hA]
      exact sumN_congr fun t ht => by rw [map_take_rw (by omega) ht]
    have hd0 : Dt ((B.take r).map vec) C ≠ 0 := by rw [hdet]; exact hnz
    have hu : ∀ j, vec (Mi.getD f []) j = Dt ((B.take r).map vec) C * vec (B.getD f []) j + sumN ((B.take r).map vec).length (fun t => rw_ ((B.take r).map vec) t j * mu t) := fun j => by rw [hdet, ← conv]; exact hmu j
    have hzu : ∀ d ∈ C, vec (Mi.getD f []) d = 0 := fun d hd => zu d (hclt d hd)
    have eA : ((pivM B r f).take (r + 1)).map vec = (B.take r).map vec ++ [vec (B.getD f [])] := by
      rw [pivM_take hfB f1, List.map_append]
      rfl
    have hu0 : vec (Mi.getD f []) c = Dt ((B.take r).map vec ++ [vec (B.getD f [])]) (C ++ [c]) := (bareiss hd0 hu hu hzu hzu c c).1
    have hA1 : ((B.take r).map vec ++ [vec (B.getD f [])]).length = r + 1 := by rw [List.length_append, hA]; rfl
    have hpl : (pivM Mi r f).length = M.length := by rw [len_piv]; exact hlen
    refine ⟨pivM B r f, C ++ [c], (pivM_perm hfB f1).trans hperm, by rw [len_red]; exact hpl, by show r + 1 ≤ M.length; omega, by rw [List.length_append, hcl]; rfl, fun j hj => ?_, ?_, ?_, f3, ?_, ?_, fun i hi hi2 => ?_⟩
    · rcases List.mem_append.mp hj with z | z
      · exact Nat.lt_succ_of_lt (hclt j z)
      · have := List.mem_singleton.mp z
        omega
    · exact red_rows (hrows _ (getD_mem hfM)) fun x hx => hrows x (piv_mem hrM hfM x hx)
    · show Dt (((pivM B r f).take (r + 1)).map vec) (C ++ [c]) = _
      rw [eA, ← hu0]
      rfl
    · show (if f = r then sg else -sg) = 1 ∨ _ = -1
      split
      · exact hsg
      · rcases hsg with e | e <;> rw [e] <;> simp
    · show Dt ((pivM B r f).map vec) = fun ds => (if f = r then sg else -sg) * Dt (M.map vec) ds
      rw [pivM_dt hfB f1, hsgn]
      funext ds
      dsimp only
      split
      · rw [Int.one_mul]
      · rw [← Int.mul_assoc]
        congr 1
        omega
    · have hi' : r + 1 ≤ i := hi
      have hiM : i < (pivM Mi r f).length := by omega
      -- the row that is reduced
      have ek : ∃ k, r ≤ k ∧ k < M.length ∧ (pivM Mi r f).getD i [] = Mi.getD k [] ∧ (pivM B r f).getD i [] = B.getD k [] :=
        ⟨if i = f then r else i, by split <;> omega, by split <;> omega, pivM_i hfM f1 (by omega), pivM_i hfB f1 (by omega)⟩
      obtain ⟨k, k1, k2, ek1, ek2⟩ := ek
      obtain ⟨⟨mv, hmv⟩, zv⟩ := hrest k k1 k2
      have hv : ∀ j, vec (Mi.getD k []) j = Dt ((B.take r).map vec) C * vec (B.getD k []) j + sumN ((B.take r).map vec).length (fun t => rw_ ((B.take r).map vec) t j * mv t) := fun j => by rw [hdet, ← conv]; exact hmv j
      have hzv : ∀ d ∈ C, vec (Mi.getD k []) d = 0 := fun d hd => zv d (hclt d hd)
      have er : (redTo last (Mi.getD f []) c r (pivM Mi r f).length (pivM Mi r f)).getD i [] = redRow last (Mi.getD f []) c (Mi.getD k []) := by
        refine getD_of ?_
        rw [red_at, getD_some hiM, ek1]
        show some (if r < i ∧ i < (pivM Mi r f).length then _ else _) = _
        rw [if_pos ⟨by omega, hiM⟩]
      have val : ∀ j, vec (redRow last (Mi.getD f []) c (Mi.getD k [])) j = Dt (((B.take r).map vec ++ [vec (B.getD f [])]) ++ [vec (B.getD k [])]) ((C ++ [c]) ++ [j]) := fun j => by
        rw [vec_red (hrows _ (getD_mem hfM)) (hrows _ (getD_mem (by omega : k < Mi.length))), (bareiss hd0 hu hv hzu hzv c j).2, hdet]
        exact Int.mul_fdiv_cancel_left _ hnz
      dsimp only
      rw [er, ek2]
      obtain ⟨G, hG⟩ := dt_colS ((B.take r).map vec ++ [vec (B.getD f [])]) (vec (B.getD k []))
      refine ⟨⟨fun t => G t (C ++ [c]), fun j => ?_⟩, fun j hj => ?_⟩
      · rw [val, hG, ← hu0, hA1, Int.mul_comm]
        congr 1
        refine sumN_congr fun t ht => ?_
        have e1 : rw_ ((B.take r).map vec ++ [vec (B.getD f [])]) t = vec ((pivM B r f).getD t []) := by
          rw [← eA]
          exact map_take_rw (by rw [len_piv]; omega) ht
        rw [e1]
      · rw [vec_red (hrows _ (getD_mem hfM)) (hrows _ (getD_mem (by omega : k < Mi.length)))]
        rcases Nat.lt_or_ge j c with z | z
        · rw [zu j z, zv j z]
          simp
        · have : j = c := by omega
          subst this
          rw [Int.mul_comm, Int.sub_self]
          simp
theorem BI.all {M : List (List Int)} {w : Nat} (hw : RowsW w M) : ∀ c, ∃ B C, BI M w c (clrN M c) B C
  | 0 => ⟨M, [], BI.start hw⟩
  | c + 1 => by
    obtain ⟨B, C, h⟩ := BI.all hw c
    exact h.step
/-- what the clearing tells: r rows of M with a minor that is not 0; all the others rest on them -/
theorem clr_struct {M : List (List Int)} {w : Nat} (hw : RowsW w M) : ∃ (B : List (List Int)) (C : List Nat), B.Perm M ∧ clrRank M ≤ M.length ∧ C.length = clrRank M ∧ (∀ j ∈ C, j < widthOf M) ∧ Dt ((B.take (clrRank M)).map vec) C ≠ 0 ∧
    (∀ i, clrRank M ≤ i → i < M.length → ∃ (d : Int) (m : Nat → Int), d ≠ 0 ∧ ∀ j, d * vec (B.getD i []) j = sumN (clrRank M) (fun t => vec (B.getD t []) j * m t)) ∧
    ∃ sg : Int, (sg = 1 ∨ sg = -1) ∧ clrDet M = sg * Dt ((B.take (clrRank M)).map vec) C ∧ Dt (B.map vec) = fun ds => sg * Dt (M.map vec) ds := by
  have hW : RowsW (widthOf M) M := by
    unfold widthOf
    cases M with
    | nil => exact fun row hr => by cases hr
    | cons x xs =>
      have e : x.length = w := hw x (List.mem_cons_self ..)
      exact fun row hr => (hw row hr).trans e.symm
  obtain ⟨B, C, h⟩ := BI.all hW (widthOf M)
  refine ⟨B, C, h.perm, h.le, h.cl, h.clt, ?_, fun i h1 h2 => ?_, _, h.sg, ?_, h.sgn⟩
  · show Dt ((B.take (clrN M (widthOf M)).2.1).map vec) C ≠ 0
    rw [h.det]
    exact h.nz
  · obtain ⟨⟨m, hm⟩, hz⟩ := h.rest i h1 h2
    refine ⟨(clrN M (widthOf M)).2.2.2, fun t => - m t, h.nz, fun j => ?_⟩
    have hv : vec ((clrN M (widthOf M)).1.getD i []) j = 0 := by
      rcases Nat.lt_or_ge j (widthOf M) with z | z
      · exact hz j z
      · have hl := h.rows _ (getD_mem (by rw [h.len]; exact h2 : i < (clrN M (widthOf M)).1.length))
        unfold vec
        rw [List.getD_eq_getElem?_getD, List.getElem?_eq_none (by omega)]
        rfl
    have := hm j
    rw [hv] at this
    have e2 : sumN (clrRank M) (fun t => vec (B.getD t []) j * - m t) = - sumN (clrRank M) (fun t => vec (B.getD t []) j * m t) := by
      have := sumN_mul (n := clrRank M) (-1) (fun t => vec (B.getD t []) j * m t)
      rw [show - sumN (clrRank M) (fun t => vec (B.getD t []) j * m t) = (-1) * sumN (clrRank M) (fun t => vec (B.getD t []) j * m t) by omega, ← this]
      exact sumN_congr fun t _ => by grind
    rw [e2]
    show _ = - sumN (clrN M (widthOf M)).2.1 _
    omega
  · show (clrN M (widthOf M)).2.2.1 * (clrN M (widthOf M)).2.2.2 = _ * Dt ((B.take (clrN M (widthOf M)).2.1).map vec) C
    rw [h.det]
end TL
namespace TL
theorem sumN_ind {n t : Nat} (f : Nat → Int) (h : t < n) : sumN n (fun s => f s * (if s = t then 1 else 0)) = f t := by
  induction n with
  | zero => omega
  | succ n ih =>
    show sumN n _ + f n * (if n = t then 1 else 0) = f t
    by_cases e : n = t
    · subst e
      rw [if_pos rfl, sumN_congr (g := fun _ => 0) fun s hs => by rw [if_neg (by omega), Int.mul_zero], sumN_zero]
      omega
    · rw [if_neg e, ih (by omega)]
      omega
/-- a row that rests on the rows of A -/
def RestsOn (A : List Vec) (v : Vec) : Prop := ∃ (d : Int) (m : Nat → Int), d ≠ 0 ∧ ∀ j, d * v j = sumN A.length (fun t => rw_ A t j * m t)
theorem RestsOn.mem {A : List Vec} {t : Nat} (h : t < A.length) : RestsOn A (rw_ A t) := ⟨1, fun s => if s = t then 1 else 0, by decide, fun j => by rw [sumN_ind (fun s => rw_ A s j) h, Int.one_mul]⟩
inductive ClF (A : List Vec) : Nat → Frm → Prop
  | base (l : List Nat) {k : Nat} (hl : l.length = k) (h : ∀ t ∈ l, t < A.length) : ClF A k (Dt (l.map (rw_ A)))
  | zero {k : Nat} : ClF A k (fun _ => 0)
  | add {k : Nat} {F G : Frm} (a : ClF A k F) (b : ClF A k G) : ClF A k (fun cs => F cs + G cs)
  | mul {k : Nat} {F : Frm} (c : Int) (a : ClF A k F) : ClF A k (fun cs => c * F cs)
theorem ClF.step {A : List Vec} {k t : Nat} {F : Frm} (h : ClF A k F) (ht : t < A.length) : ClF A (k + 1) (WF F (rw_ A t)) := by
  induction h with
  | base l hl hh =>
    have e : WF (Dt (l.map (rw_ A))) (rw_ A t) = Dt ((l ++ [t]).map (rw_ A)) := by
      rw [List.map_append]
      exact (dt_snoc _ _).symm
    rw [e]
    refine .base _ (by rw [List.length_append, hl]; rfl) fun s hs => ?_
    rcases List.mem_append.mp hs with z | z
    · exact hh s z
    · rw [List.mem_singleton.mp z]
      exact ht
  | zero =>
    have e : WF (fun _ => 0) (rw_ A t) = fun _ => 0 := by
      funext cs
      exact wd_zero _ cs
    rw [e]
    exact .zero
  | @add k F G _ _ ia ib =>
    have e : WF (fun cs => F cs + G cs) (rw_ A t) = fun cs => WF F (rw_ A t) cs + WF G (rw_ A t) cs := by
      funext cs
      exact wd_add _ cs F G
    rw [e]
    exact .add ia ib
  | @mul k F c _ ia =>
    have e : WF (fun cs => c * F cs) (rw_ A t) = fun cs => c * WF F (rw_ A t) cs := by
      funext cs
      exact wd_mul _ c cs F
    rw [e]
    exact .mul c ia
theorem ClF.sum {A : List Vec} {k : Nat} {n : Nat} {m : Nat → Int} {F : Nat → Frm} (h : ∀ t, t < n → ClF A k (F t)) : ClF A k (fun cs => sumN n (fun t => m t * F t cs)) := by
  induction n with
  | zero => exact .zero
  | succ n ih => exact .add (ih fun t ht => h t (by omega)) (.mul _ (h n (by omega)))
theorem cl_of {A : List Vec} : ∀ X : List Vec, (∀ x ∈ X, RestsOn A x) → ∃ d : Int, d ≠ 0 ∧ ClF A X.length (fun cs => d * Dt X cs) := by
  refine rev_ind ?_ ?_
  · intro _
    refine ⟨1, by decide, ?_⟩
    exact .mul 1 (.base [] rfl fun t h => by cases h)
  · intro X x ih h
    obtain ⟨d1, n1, h1⟩ := ih fun y hy => h y (List.mem_append.mpr (.inl hy))
    obtain ⟨d2, m, n2, h2⟩ := h x (List.mem_append.mpr (.inr (List.mem_singleton.mpr rfl)))
    refine ⟨d2 * d1, Int.mul_ne_zero n2 n1, ?_⟩
    have e : (fun cs => d2 * d1 * Dt (X ++ [x]) cs) = fun cs => sumN A.length (fun t => m t * WF (fun cs => d1 * Dt X cs) (rw_ A t) cs) := by
      funext cs
      rw [dt_snoc]
      show d2 * d1 * Wd x cs (Dt X) = sumN A.length (fun t => m t * Wd (rw_ A t) cs (fun ds => d1 * Dt X ds))
      rw [← wd_comb]
      have e2 : (fun j => sumN A.length (fun t => rw_ A t j * m t)) = fun j => d2 * x j + 0 * x j := by
        funext j
        rw [← h2 j]
        omega
      rw [e2, wd_lin x x d2 0, wd_mul]
      grind
    rw [e, List.length_append]
    exact ClF.sum fun t ht => h1.step ht
theorem nodup_le : ∀ {n : Nat} {l : List Nat}, l.Nodup → (∀ t ∈ l, t < n) → l.length ≤ n
  | 0, l, _, h => by
    cases l with
    | nil => exact Nat.le_refl _
    | cons x xs => exact absurd (h x (List.mem_cons_self ..)) (by omega)
  | n + 1, l, hn, h => by
    have h2 : (l.erase n).length ≤ n := nodup_le (hn.erase n) fun t ht => by
      obtain ⟨h1, h3⟩ := hn.mem_erase_iff.mp ht
      have := h t h3
      omega
    rw [List.length_erase] at h2
    split at h2 <;> omega
theorem dup_split : ∀ {l : List Nat}, ¬ l.Nodup → ∃ a l1 l2 l3, l = l1 ++ a :: (l2 ++ a :: l3)
  | [], h => absurd List.nodup_nil h
  | a :: l, h => by
    by_cases z : a ∈ l
    · obtain ⟨l2, l3, rfl⟩ := List.append_of_mem z
      exact ⟨a, [], l2, l3, rfl⟩
    · have : ¬ l.Nodup := fun q => h (List.nodup_cons.mpr ⟨z, q⟩)
      obtain ⟨b, l1, l2, l3, rfl⟩ := dup_split this
      exact ⟨b, a :: l1, l2, l3, rfl⟩
theorem dt_dup (x : Vec) (L1 L2 L3 : List Vec) : Dt (L1 ++ x :: (L2 ++ x :: L3)) = fun _ => 0 := by
  have e : L1 ++ x :: (L2 ++ x :: L3) = ((L1 ++ x :: L2) ++ [x]) ++ L3 := by simp
  rw [e]
  unfold Dt
  rw [df_app]
  have : DF d0 ((L1 ++ x :: L2) ++ [x]) = fun _ => 0 := dt_mem (A := L1 ++ x :: L2) (by simp)
  rw [this, df_zero]
theorem ClF.many {A : List Vec} {k : Nat} {F : Frm} (h : ClF A k F) (hk : A.length < k) : F = fun _ => 0 := by
  induction h with
  | base l hl hh =>
    obtain ⟨a, l1, l2, l3, rfl⟩ := dup_split fun q => by
      have := nodup_le q hh
      omega
    simp only [List.map_append, List.map_cons]
    exact dt_dup _ _ _ _
  | zero => rfl
  | add _ _ ia ib =>
    rw [ia hk, ib hk]
    rfl
  | mul c _ ia =>
    rw [ia hk]
    funext cs
    exact Int.mul_zero c
/-- more rows than they rest on: no minor is left -/
theorem dt_dep {A X : List Vec} (h : ∀ x ∈ X, RestsOn A x) (hl : A.length < X.length) : Dt X = fun _ => 0 := by
  obtain ⟨d, hd, hc⟩ := cl_of X h
  have := hc.many hl
  funext cs
  have e : d * Dt X cs = 0 := congrFun this cs
  exact (Int.mul_eq_zero.mp e).resolve_left hd
theorem clr_span {M : List (List Int)} {w : Nat} (hw : RowsW w M) : ∃ A : List Vec, A.length = clrRank M ∧ (∀ x ∈ A, ∃ row ∈ M, x = vec row) ∧ (∀ row ∈ M, RestsOn A (vec row)) ∧ ∃ C : List Nat, C.length = clrRank M ∧ Dt A C ≠ 0 := by
  obtain ⟨B, C, hp, hr, hc, _, hd, hrest, _⟩ := clr_struct hw
  have hbl := hp.length_eq
  have hA : ((B.take (clrRank M)).map vec).length = clrRank M := by rw [List.length_map, List.length_take]; omega
  refine ⟨(B.take (clrRank M)).map vec, hA, fun x hx => ?_, fun row hrow => ?_, C, hc, hd⟩
  · obtain ⟨row, h1, rfl⟩ := List.mem_map.mp hx
    exact ⟨row, hp.mem_iff.mp (List.mem_of_mem_take h1), rfl⟩
  · obtain ⟨i, hi⟩ := List.mem_iff_getElem?.mp (hp.mem_iff.mpr hrow)
    have hiB := (List.getElem?_eq_some_iff.mp hi).1
    rcases Nat.lt_or_ge i (clrRank M) with z | z
    · have := RestsOn.mem (A := (B.take (clrRank M)).map vec) (t := i) (by omega)
      rw [map_take_rw (by omega) z, getD_of hi] at this
      exact this
    · obtain ⟨d, m, nd, h⟩ := hrest i z (by omega)
      refine ⟨d, m, nd, fun j => ?_⟩
      rw [← getD_of hi, h j, hA]
      exact sumN_congr fun t ht => by rw [map_take_rw (by omega) ht]
/-- a minor of m rows that is not 0: the rank is m or more -/
theorem rank_ge {M : List (List Int)} {w : Nat} (hw : RowsW w M) {X : List Vec} (hX : ∀ x ∈ X, ∃ row ∈ M, x = vec row) {cs : List Nat} (hd : Dt X cs ≠ 0) : X.length ≤ clrRank M := by
  obtain ⟨A, hA, _, hs, _⟩ := clr_span hw
  refine Nat.le_of_not_lt fun z => hd ?_
  exact congrFun (dt_dep (A := A) (fun x hx => by
    obtain ⟨row, h1, rfl⟩ := hX x hx
    exact hs row h1) (by omega)) cs
/-- all rows rest on m rows: the rank is m or less -/
theorem rank_le_of {M : List (List Int)} {w : Nat} (hw : RowsW w M) {A : List Vec} (h : ∀ row ∈ M, RestsOn A (vec row)) : clrRank M ≤ A.length := by
  obtain ⟨A', hA, hm, _, C, _, hd⟩ := clr_span hw
  refine Nat.le_of_not_lt fun z => hd ?_
  exact congrFun (dt_dep (A := A) (fun x hx => by
    obtain ⟨row, h1, rfl⟩ := hm x hx
    exact h row h1) (by omega)) C
end TL
namespace TL
def pf4 (a : Nat → Nat → Int) (p q r s : Nat) : Int := a p q * a r s - a p r * a q s + a p s * a q r
theorem dt2 (a : Nat → Nat → Int) (h : ∀ i j, a j i = - a i j) (p q : Nat) : Dt [a p, a q] [p, q] = a p q * a p q := by
  simp only [Dt, DF, List.foldl, WF, Wd, d0, sgA, List.length]
  have h1 := h p p
  have h2 := h q q
  have h3 := h p q
  have e1 : a p p = 0 := by omega
  have e2 : a q q = 0 := by omega
  rw [e1, e2, h3]
  grind
theorem dt4 (a : Nat → Nat → Int) (h : ∀ i j, a j i = - a i j) (p q r s : Nat) : Dt [a p, a q, a r, a s] [p, q, r, s] = pf4 a p q r s * pf4 a p q r s := by
  simp only [Dt, DF, List.foldl, WF, Wd, d0, sgA, List.length, pf4]
  have z : ∀ i, a i i = 0 := fun i => by have := h i i; omega
  rw [z p, z q, z r, z s, h p q, h p r, h p s, h q r, h q s, h r s]
  grind
def pf6 (a : Nat → Nat → Int) (p q r s t u : Nat) : Int := a p q * pf4 a r s t u - a p r * pf4 a q s t u + a p s * pf4 a q r t u - a p t * pf4 a q r s u + a p u * pf4 a q r s t
set_option maxHeartbeats 4000000 in
set_option maxRecDepth 100000 in
theorem dt6 (a : Nat → Nat → Int) (h : ∀ i j, a j i = - a i j) (p q r s t u : Nat) : Dt [a p, a q, a r, a s, a t, a u] [p, q, r, s, t, u] = pf6 a p q r s t u * pf6 a p q r s t u := by
  simp only [Dt, DF, List.foldl, WF, Wd, d0, sgA, List.length, pf4, pf6]
  have z : ∀ i, a i i = 0 := fun i => by have := h i i; omega
  rw [z p, z q, z r, z s, z t, z u, h p q, h p r, h p s, h p t, h p u, h q r, h q s, h q t, h q u, h r s, h r t, h r u, h s t, h s u, h t u]
  simp only [Int.mul_zero, Int.zero_mul, Int.add_zero, Int.zero_add]
  generalize a p q = x1
  generalize a p r = x2
  generalize a p s = x3
  generalize a p t = x4
  generalize a p u = x5
  generalize a q r = x6
  generalize a q s = x7
  generalize a q t = x8
  generalize a q u = x9
  generalize a r s = y1
  generalize a r t = y2
  generalize a r u = y3
  generalize a s t = y4
  generalize a s u = y5
  generalize a t u = y6
  grind
end TL
namespace TL
/-! ### functions of lists that change their sign when two neighbours change places -/
def AltF (n : Nat) (f : List Nat → Int) : Prop := ∀ l1 x y l2, l1.length + l2.length + 2 = n → f (l1 ++ x :: y :: l2) = - f (l1 ++ y :: x :: l2)
theorem alt_perm {n : Nat} {f : List Nat → Int} (h : AltF n f) {l l' : List Nat} (p : l.Perm l') : ∀ pre : List Nat, pre.length + l.length = n → f (pre ++ l) = f (pre ++ l') ∨ f (pre ++ l) = - f (pre ++ l') := by
  induction p with
  | nil => exact fun pre _ => .inl rfl
  | @cons x l1 l2 _ ih =>
    intro pre hl
    have := ih (pre ++ [x]) (by rw [List.length_append]; simp at hl ⊢; omega)
    simpa using this
  | swap x y l =>
    intro pre hl
    exact .inr (h pre y x l (by simp at hl; omega))
  | @trans l1 l2 l3 p1 p2 ih1 ih2 =>
    intro pre hl
    have a := ih1 pre hl
    have b := ih2 pre (by rw [← p1.length_eq]; exact hl)
    omega
theorem sorted_or : ∀ {l : List Nat}, l.Pairwise (· ≤ ·) → l.Pairwise (· < ·) ∨ ∃ l1 x l2, l = l1 ++ x :: x :: l2
  | [], _ => .inl .nil
  | [x], _ => .inl (.cons (fun _ h => by cases h) .nil)
  | x :: y :: l, h => by
    cases h with
    | cons h1 h2 =>
      rcases sorted_or h2 with z | ⟨l1, u, l2, e⟩
      · rcases Nat.lt_or_eq_of_le (h1 y (List.mem_cons_self ..)) with q | q
        · refine .inl (.cons (fun b hb => ?_) z)
          rcases List.mem_cons.mp hb with rfl | hb
          · exact q
          · cases z with
            | cons z1 _ => exact Nat.lt_trans q (z1 b hb)
        · exact .inr ⟨[], x, l, by rw [q]; rfl⟩
      · exact .inr ⟨x :: l1, u, l2, by rw [e]; rfl⟩
theorem ins_sorted : ∀ l : List Nat, ∃ l', l.Perm l' ∧ l'.Pairwise (· ≤ ·)
  | [] => ⟨[], .nil, .nil⟩
  | x :: l => by
    obtain ⟨l', p, s⟩ := ins_sorted l
    have key : ∀ m : List Nat, m.Pairwise (· ≤ ·) → ∃ m', (x :: m).Perm m' ∧ m'.Pairwise (· ≤ ·) := by
      intro m
      induction m with
      | nil => exact fun _ => ⟨[x], .refl _, .cons (fun _ h => by cases h) .nil⟩
      | cons y m ih =>
        intro hm
        cases hm with
        | cons h1 h2 =>
          rcases Nat.le_total x y with q | q
          · exact ⟨x :: y :: m, .refl _, .cons (fun b hb => by
              rcases List.mem_cons.mp hb with rfl | hb
              · exact q
              · exact Nat.le_trans q (h1 b hb)) (.cons h1 h2)⟩
          · obtain ⟨m', p', s'⟩ := ih h2
            refine ⟨y :: m', (List.Perm.swap y x m).trans (p'.cons y), .cons (fun b hb => ?_) s'⟩
            rcases List.mem_cons.mp (p'.mem_iff.mpr hb) with rfl | hb
            · exact q
            · exact h1 b hb
    obtain ⟨m', p', s'⟩ := key l' s
    exact ⟨m', (p.cons x).trans p', s'⟩
/-- 0 at the ascending lists: 0 everywhere -/
theorem alt_zero {n : Nat} {f : List Nat → Int} (h : AltF n f) (h0 : ∀ l : List Nat, l.length = n → l.Pairwise (· < ·) → f l = 0) : ∀ l : List Nat, l.length = n → f l = 0 := fun l hl => by
  obtain ⟨l', p, s⟩ := ins_sorted l
  have e := alt_perm h p [] (by simpa using hl)
  simp only [List.nil_append] at e
  have hl' : l'.length = n := by rw [← p.length_eq]; exact hl
  have z : f l' = 0 := by
    rcases sorted_or s with q | ⟨l1, x, l2, rfl⟩
    · exact h0 l' hl' q
    · have := h l1 x x l2 (by simp at hl'; omega)
      omega
  omega
section
variable {a : Nat → Nat → Int}
def f4 (a : Nat → Nat → Int) : List Nat → Int
  | [p, q, r, s] => pf4 a p q r s
  | _ => 0
def f6 (a : Nat → Nat → Int) : List Nat → Int
  | [p, q, r, s, t, u] => pf6 a p q r s t u
  | _ => 0
theorem alt4 (h : ∀ i j, a j i = - a i j) : AltF 4 (f4 a) := fun l1 x y l2 hl => by
  match l1, hl with
  | [], hl =>
    have hl2 : l2.length = 2 := by simp only [List.length_cons, List.length_nil] at hl; omega
    match l2, hl2 with
    | [r, s], _ =>
      show pf4 a x y r s = - pf4 a y x r s
      unfold pf4
      have := h x y
      grind
  | [p], hl =>
    have hl2 : l2.length = 1 := by simp only [List.length_cons, List.length_nil] at hl; omega
    match l2, hl2 with
    | [s], _ =>
      show pf4 a p x y s = - pf4 a p y x s
      unfold pf4
      have := h x y
      grind
  | [p, q], hl =>
    have hl2 : l2.length = 0 := by simp only [List.length_cons, List.length_nil] at hl; omega
    match l2, hl2 with
    | [], _ =>
      show pf4 a p q x y = - pf4 a p q y x
      unfold pf4
      have := h x y
      grind
  | a1 :: b1 :: c1 :: _, hl => exact absurd hl (by simp only [List.length_cons]; omega)
theorem alt6 (h : ∀ i j, a j i = - a i j) : AltF 6 (f6 a) := fun l1 x y l2 hl => by
  match l1, hl with
  | [], hl =>
    have hl2 : l2.length = 4 := by simp only [List.length_cons, List.length_nil] at hl; omega
    match l2, hl2 with
    | [r, s, t, u], _ =>
      show pf6 a x y r s t u = - pf6 a y x r s t u
      unfold pf6 pf4
      have := h x y
      grind
  | [p], hl =>
    have hl2 : l2.length = 3 := by simp only [List.length_cons, List.length_nil] at hl; omega
    match l2, hl2 with
    | [s, t, u], _ =>
      show pf6 a p x y s t u = - pf6 a p y x s t u
      unfold pf6 pf4
      have := h x y
      grind
  | [p, q], hl =>
    have hl2 : l2.length = 2 := by simp only [List.length_cons, List.length_nil] at hl; omega
    match l2, hl2 with
    | [t, u], _ =>
      show pf6 a p q x y t u = - pf6 a p q y x t u
      unfold pf6 pf4
      have := h x y
      grind
  | [p, q, r], hl =>
    have hl2 : l2.length = 1 := by simp only [List.length_cons, List.length_nil] at hl; omega
    match l2, hl2 with
    | [u], _ =>
      show pf6 a p q r x y u = - pf6 a p q r y x u
      unfold pf6 pf4
      have := h x y
      grind
  | [p, q, r, s], hl =>
    have hl2 : l2.length = 0 := by simp only [List.length_cons, List.length_nil] at hl; omega
    match l2, hl2 with
    | [], _ =>
      show pf6 a p q r s x y = - pf6 a p q r s y x
      unfold pf6 pf4
      have := h x y
      grind
  | a1 :: b1 :: c1 :: d1 :: e1 :: _, hl => exact absurd hl (by simp only [List.length_cons]; omega)
end
end TL
namespace TL
/-! ### the rank of a skew table -/
/-- skew, and 0 from n on -/
structure Skew (n : Nat) (c : Nat → Nat → Int) : Prop where
  sk : ∀ i j, c j i = - c i j
  out : ∀ i j, n ≤ j → c i j = 0
theorem Skew.self {n : Nat} {c : Nat → Nat → Int} (h : Skew n c) (i : Nat) : c i i = 0 := by
  have := h.sk i i
  omega
theorem Skew.out2 {n : Nat} {c : Nat → Nat → Int} (h : Skew n c) {i j : Nat} (hi : n ≤ i) : c i j = 0 := by
  rw [h.sk j i, h.out j i hi]
  rfl
def sqN (n : Nat) (c : Nat → Nat → Int) : List (List Int) := (List.range n).map fun i => (List.range n).map fun j => c i j
theorem sqN_rows (n : Nat) (c : Nat → Nat → Int) : RowsW n (sqN n c) := fun row h => by
  obtain ⟨i, _, rfl⟩ := List.mem_map.mp h
  simp
theorem sqN_len (n : Nat) (c : Nat → Nat → Int) : (sqN n c).length = n := by simp [sqN]
theorem vec_sq {n : Nat} {c : Nat → Nat → Int} (h : Skew n c) (i : Nat) : vec ((List.range n).map fun j => c i j) = c i := by
  funext j
  unfold vec
  rw [List.getD_eq_getElem?_getD, List.getElem?_map]
  rcases Nat.lt_or_ge j n with z | z
  · rw [List.getElem?_range z]
    rfl
  · rw [List.getElem?_eq_none (by simp; exact z), h.out i j z]
    rfl
theorem sq_mem {n : Nat} {c : Nat → Nat → Int} (h : Skew n c) {i : Nat} (hi : i < n) : ∃ row ∈ sqN n c, c i = vec row := ⟨_, List.mem_map.mpr ⟨i, List.mem_range.mpr hi, rfl⟩, (vec_sq h i).symm⟩
theorem sq_row {n : Nat} {c : Nat → Nat → Int} (h : Skew n c) {row : List Int} (hr : row ∈ sqN n c) : ∃ i, i < n ∧ vec row = c i := by
  obtain ⟨i, hi, rfl⟩ := List.mem_map.mp hr
  exact ⟨i, List.mem_range.mp hi, vec_sq h i⟩
section
variable {n : Nat} {c : Nat → Nat → Int}
theorem lt_of_ne (h : Skew n c) {i j : Nat} (q : c i j ≠ 0) : i < n ∧ j < n := ⟨Nat.lt_of_not_le fun z => q (h.out2 z), Nat.lt_of_not_le fun z => q (h.out i j z)⟩
theorem rg2 (h : Skew n c) {p q : Nat} (hq : c p q ≠ 0) : 2 ≤ clrRank (sqN n c) := by
  obtain ⟨hp, hq'⟩ := lt_of_ne h hq
  refine rank_ge (sqN_rows n c) (X := [c p, c q]) (cs := [p, q]) (fun x hx => ?_) ?_
  · simp only [List.mem_cons, List.not_mem_nil, or_false] at hx
    rcases hx with rfl | rfl
    · exact sq_mem h hp
    · exact sq_mem h hq'
  · rw [dt2 c h.sk]
    exact Int.mul_ne_zero hq hq
theorem lt4 (h : Skew n c) {p q r s : Nat} (hq : pf4 c p q r s ≠ 0) : p < n ∧ q < n ∧ r < n ∧ s < n := by
  refine ⟨Nat.lt_of_not_le fun z => hq ?_, Nat.lt_of_not_le fun z => hq ?_, Nat.lt_of_not_le fun z => hq ?_, Nat.lt_of_not_le fun z => hq ?_⟩
  · unfold pf4
    rw [h.out2 z, h.out2 z, h.out2 z]
    simp
  · unfold pf4
    rw [h.out p q z, h.out2 z, h.out2 z]
    simp
  · unfold pf4
    rw [h.out2 z, h.out p r z, h.out q r z]
    simp
  · unfold pf4
    rw [h.out r s z, h.out q s z, h.out p s z]
    simp
theorem rg4 (h : Skew n c) {p q r s : Nat} (hq : pf4 c p q r s ≠ 0) : 4 ≤ clrRank (sqN n c) := by
  obtain ⟨h1, h2, h3, h4⟩ := lt4 h hq
  refine rank_ge (sqN_rows n c) (X := [c p, c q, c r, c s]) (cs := [p, q, r, s]) (fun x hx => ?_) ?_
  · simp only [List.mem_cons, List.not_mem_nil, or_false] at hx
    rcases hx with rfl | rfl | rfl | rfl
    · exact sq_mem h h1
    · exact sq_mem h h2
    · exact sq_mem h h3
    · exact sq_mem h h4
  · rw [dt4 c h.sk]
    exact Int.mul_ne_zero hq hq
theorem rg6 (h : Skew n c) {p q r s t u : Nat} (h1 : p < n) (h2 : q < n) (h3 : r < n) (h4 : s < n) (h5 : t < n) (h6 : u < n) (hq : pf6 c p q r s t u ≠ 0) : 6 ≤ clrRank (sqN n c) := by
  refine rank_ge (sqN_rows n c) (X := [c p, c q, c r, c s, c t, c u]) (cs := [p, q, r, s, t, u]) (fun x hx => ?_) ?_
  · simp only [List.mem_cons, List.not_mem_nil, or_false] at hx
    rcases hx with rfl | rfl | rfl | rfl | rfl | rfl
    · exact sq_mem h h1
    · exact sq_mem h h2
    · exact sq_mem h h3
    · exact sq_mem h h4
    · exact sq_mem h h5
    · exact sq_mem h h6
  · rw [dt6 c h.sk]
    exact Int.mul_ne_zero hq hq
theorem rl0 (h : Skew n c) (hz : ∀ p q, c p q = 0) : clrRank (sqN n c) = 0 := by
  have := rank_le_of (sqN_rows n c) (A := []) fun row hr => by
    obtain ⟨i, _, e⟩ := sq_row h hr
    refine ⟨1, fun _ => 0, by decide, fun j => ?_⟩
    rw [e, hz]
    rfl
  exact Nat.le_zero.mp this
theorem rl2 (h : Skew n c) (hz : ∀ p q r s, pf4 c p q r s = 0) : clrRank (sqN n c) ≤ 2 := by
  by_cases z : ∀ p q, c p q = 0
  · rw [rl0 h z]
    omega
  · obtain ⟨p, hp⟩ : ∃ p, ¬ ∀ q, c p q = 0 := Classical.not_forall.mp z
    obtain ⟨q, hq⟩ : ∃ q, ¬ c p q = 0 := Classical.not_forall.mp hp
    refine rank_le_of (sqN_rows n c) (A := [c p, c q]) fun row hr => ?_
    obtain ⟨s, _, e⟩ := sq_row h hr
    refine ⟨c p q, fun t => if t = 0 then - c q s else c p s, hq, fun j => ?_⟩
    rw [e]
    have e4 := hz p q s j
    unfold pf4 at e4
    show c p q * c s j = (0 + c p j * - c q s) + c q j * c p s
    grind
theorem rl4 (h : Skew n c) (hz : ∀ p q r s t u, pf6 c p q r s t u = 0) : clrRank (sqN n c) ≤ 4 := by
  by_cases z : ∀ p q r s, pf4 c p q r s = 0
  · have := rl2 h z
    omega
  · obtain ⟨p, hp⟩ : ∃ p, ¬ ∀ q r s, pf4 c p q r s = 0 := Classical.not_forall.mp z
    obtain ⟨q, hq⟩ : ∃ q, ¬ ∀ r s, pf4 c p q r s = 0 := Classical.not_forall.mp hp
    obtain ⟨r, hr⟩ : ∃ r, ¬ ∀ s, pf4 c p q r s = 0 := Classical.not_forall.mp hq
    obtain ⟨s, hs⟩ : ∃ s, ¬ pf4 c p q r s = 0 := Classical.not_forall.mp hr
    refine rank_le_of (sqN_rows n c) (A := [c p, c q, c r, c s]) fun row hrow => ?_
    obtain ⟨t, _, e⟩ := sq_row h hrow
    refine ⟨pf4 c p q r s, fun i => if i = 0 then - pf4 c q r s t else if i = 1 then pf4 c p r s t else if i = 2 then - pf4 c p q s t else pf4 c p q r t, hs, fun j => ?_⟩
    rw [e]
    have e6 := hz p q r s t j
    show pf4 c p q r s * c t j = (((0 + c p j * - pf4 c q r s t) + c q j * pf4 c p r s t) + c r j * - pf4 c p q s t) + c s j * pf4 c p q r t
    unfold pf6 pf4 at e6
    unfold pf4
    grind
theorem all4 (h : Skew n c) (hz : ∀ p q r s, p < q → q < r → r < s → s < n → pf4 c p q r s = 0) : ∀ p q r s, pf4 c p q r s = 0 := fun p q r s => by
  refine alt_zero (f := f4 c) (alt4 h.sk) (fun l hl hs => ?_) [p, q, r, s] rfl
  match l, hl with
  | [p, q, r, s], _ =>
    show pf4 c p q r s = 0
    simp only [List.pairwise_cons, List.mem_cons, List.not_mem_nil, or_false] at hs
    have h1 := hs.1 q (by simp)
    have h2 := hs.2.1 r (by simp)
    have h3 := hs.2.2.1 s rfl
    rcases Nat.lt_or_ge s n with z | z
    · exact hz p q r s h1 h2 h3 z
    · exact Decidable.byContradiction fun q => absurd (lt4 h q).2.2.2 (by omega)
theorem all6 (h : Skew n c) (hz : ∀ p q r s t u, p < q → q < r → r < s → s < t → t < u → u < n → pf6 c p q r s t u = 0) : ∀ p q r s t u, pf6 c p q r s t u = 0 := fun p q r s t u => by
  refine alt_zero (f := f6 c) (alt6 h.sk) (fun l hl hs => ?_) [p, q, r, s, t, u] rfl
  match l, hl with
  | [p, q, r, s, t, u], _ =>
    show pf6 c p q r s t u = 0
    simp only [List.pairwise_cons, List.mem_cons, List.not_mem_nil, or_false] at hs
    have h1 := hs.1 q (by simp)
    have h2 := hs.2.1 r (by simp)
    have h3 := hs.2.2.1 s (by simp)
    have h4 := hs.2.2.2.1 t (by simp)
    have h5 := hs.2.2.2.2.1 u rfl
    rcases Nat.lt_or_ge u n with z | z
    · exact hz p q r s t u h1 h2 h3 h4 h5 z
    · unfold pf6 pf4
      rw [h.out t u z, h.out s u z, h.out r u z, h.out q u z, h.out p u z]
      simp
end
end TL
namespace TL
/-- the ascending choices of k places out of six -/
def chL : Nat → List (List Nat)
  | 0 => [[]]
  | k + 1 => (chL k).flatMap fun one => let f := match one.getLast? with
      | none => 0
      | some x => x + 1
    (List.range' f (6 - f)).map fun j => one ++ [j]
def Pf (a : Nat → Nat → Int) : List Nat → Int
  | [] => 1
  | [p, q] => a p q
  | [p, q, r, s] => pf4 a p q r s
  | [p, q, r, s, t, u] => pf6 a p q r s t u
  | _ => 0
def hasPf (c : Nat → Nat → Int) (k : Nat) : Bool := (chL k).any fun P => Pf c P != 0
/-- half of the greatest number of places with a Pfaffian -/
def ow (c : Nat → Nat → Int) : Nat := if hasPf c 6 then 3 else if hasPf c 4 then 2 else if hasPf c 2 then 1 else 0
theorem in2 : ∀ p, p < 6 → ∀ q, q < 6 → p < q → [p, q] ∈ chL 2 := by decide +kernel
theorem in4F : ∀ p q r s : Fin 6, p < q → q < r → r < s → [p.1, q.1, r.1, s.1] ∈ chL 4 := by decide +kernel
theorem in4 (p : Nat) (hp : p < 6) (q : Nat) (hq : q < 6) (r : Nat) (hr : r < 6) (s : Nat) (hs : s < 6) (h1 : p < q) (h2 : q < r) (h3 : r < s) : [p, q, r, s] ∈ chL 4 := in4F ⟨p, hp⟩ ⟨q, hq⟩ ⟨r, hr⟩ ⟨s, hs⟩ h1 h2 h3
theorem ch6 : chL 6 = [[0, 1, 2, 3, 4, 5]] := by decide +kernel
theorem ch0 : chL 0 = [[]] := rfl
theorem ch_len : ∀ k, k < 7 → ∀ P ∈ chL k, P.length = k ∧ ∀ p ∈ P, p < 6 := by decide +kernel
theorem pf_no {c : Nat → Nat → Int} {k : Nat} (h : hasPf c k = false) {P : List Nat} (hP : P ∈ chL k) : Pf c P = 0 := by
  have := List.any_eq_false.mp h P hP
  simpa using this
theorem pf_yes {c : Nat → Nat → Int} {k : Nat} (h : hasPf c k = true) : ∃ P ∈ chL k, Pf c P ≠ 0 := by
  obtain ⟨P, hP, e⟩ := List.any_eq_true.mp h
  exact ⟨P, hP, by simpa using e⟩
section
variable {c : Nat → Nat → Int}
theorem six_of (h : Skew 6 c) (z : pf6 c 0 1 2 3 4 5 = 0) : ∀ p q r s t u, pf6 c p q r s t u = 0 := all6 h fun p q r s t u h1 h2 h3 h4 h5 h6 => by
  obtain rfl : p = 0 := by omega
  obtain rfl : q = 1 := by omega
  obtain rfl : r = 2 := by omega
  obtain rfl : s = 3 := by omega
  obtain rfl : t = 4 := by omega
  obtain rfl : u = 5 := by omega
  exact z
theorem two_of (h : Skew 6 c) (z : hasPf c 2 = false) : ∀ p q, c p q = 0 := fun p q => by
  refine Decidable.byContradiction fun k => ?_
  obtain ⟨h1, h2⟩ := lt_of_ne h k
  rcases Nat.lt_trichotomy p q with y | y | y
  · exact k (pf_no z (in2 p h1 q h2 y))
  · subst y
    exact k (h.self p)
  · have : c q p = 0 := pf_no z (in2 q h2 p h1 y)
    exact k (by rw [h.sk q p, this]; rfl)
theorem four_of (h : Skew 6 c) (z : hasPf c 4 = false) : ∀ p q r s, pf4 c p q r s = 0 := all4 h fun p q r s h1 h2 h3 h4 => pf_no z (in4 p (by omega) q (by omega) r (by omega) s h4 h1 h2 h3)
theorem rank_len (n : Nat) (c : Nat → Nat → Int) : clrRank (sqN n c) ≤ n := by
  obtain ⟨_, _, _, hr, _⟩ := clr_struct (sqN_rows n c)
  rw [sqN_len] at hr
  exact hr
/-- the rank of a skew table of six -/
theorem rank_ow (h : Skew 6 c) : clrRank (sqN 6 c) = 2 * ow c := by
  have h6 := rank_len 6 c
  unfold ow
  cases e6 : hasPf c 6 with
  | true =>
    obtain ⟨P, hP, e⟩ := pf_yes e6
    rw [ch6, List.mem_singleton] at hP
    subst hP
    have := rg6 h (by decide) (by decide) (by decide) (by decide) (by decide) (by decide) (show pf6 c 0 1 2 3 4 5 ≠ 0 from e)
    rw [if_pos rfl]
    omega
  | false =>
    have z6 : pf6 c 0 1 2 3 4 5 = 0 := pf_no (P := [0, 1, 2, 3, 4, 5]) e6 (by rw [ch6]; exact List.mem_singleton.mpr rfl)
    have l4 := rl4 h (six_of h z6)
    rw [if_neg (by decide)]
    cases e4 : hasPf c 4 with
    | true =>
      obtain ⟨P, hP, e⟩ := pf_yes e4
      have hl := (ch_len 4 (by decide) P hP).1
      match P, hl with
      | [p, q, r, s], _ =>
        have := rg4 h (show pf4 c p q r s ≠ 0 from e)
        rw [if_pos rfl]
        omega
    | false =>
      have l2 := rl2 h (four_of h e4)
      rw [if_neg (by decide)]
      cases e2 : hasPf c 2 with
      | true =>
        obtain ⟨P, hP, e⟩ := pf_yes e2
        have hl := (ch_len 2 (by decide) P hP).1
        match P, hl with
        | [p, q], _ =>
          have := rg2 h (show c p q ≠ 0 from e)
          rw [if_pos rfl]
          omega
      | false =>
        rw [if_neg (by decide)]
        exact rl0 h (two_of h e2)
end
/-! ### the part at some places -/
def subM (c : Nat → Nat → Int) (P : List Nat) : List (List Int) := P.map fun p => P.map fun q => c p q
def reC (c : Nat → Nat → Int) (P : List Nat) (i j : Nat) : Int := if i < P.length ∧ j < P.length then c (P.getD i 0) (P.getD j 0) else 0
theorem re_skew {c : Nat → Nat → Int} (h : ∀ i j, c j i = - c i j) (P : List Nat) : Skew P.length (reC c P) := ⟨fun i j => by
  unfold reC
  by_cases z : i < P.length ∧ j < P.length
  · rw [if_pos z, if_pos ⟨z.2, z.1⟩]
    exact h _ _
  · rw [if_neg z, if_neg fun q => z ⟨q.2, q.1⟩]
    rfl, fun i j hj => if_neg fun q => by omega⟩
theorem map_range (f : Nat → Int) (P : List Nat) : P.map f = (List.range P.length).map fun i => f (P.getD i 0) := by
  apply List.ext_getElem?
  intro i
  rw [List.getElem?_map, List.getElem?_map]
  rcases Nat.lt_or_ge i P.length with z | z
  · rw [List.getElem?_range z, List.getElem?_eq_getElem z]
    show some _ = some (f (P.getD i 0))
    rw [List.getD_eq_getElem?_getD, List.getElem?_eq_getElem z]
    rfl
  · rw [List.getElem?_eq_none z, List.getElem?_eq_none (by simp; exact z)]
    rfl
theorem map_range2 (f : Nat → List Int) (P : List Nat) : P.map f = (List.range P.length).map fun i => f (P.getD i 0) := by
  apply List.ext_getElem?
  intro i
  rw [List.getElem?_map, List.getElem?_map]
  rcases Nat.lt_or_ge i P.length with z | z
  · rw [List.getElem?_range z, List.getElem?_eq_getElem z]
    show some _ = some (f (P.getD i 0))
    rw [List.getD_eq_getElem?_getD, List.getElem?_eq_getElem z]
    rfl
  · rw [List.getElem?_eq_none z, List.getElem?_eq_none (by simp; exact z)]
    rfl
theorem sub_sq (c : Nat → Nat → Int) (P : List Nat) : subM c P = sqN P.length (reC c P) := by
  unfold subM sqN
  rw [map_range2]
  refine List.map_congr_left fun i hi => ?_
  rw [map_range]
  refine List.map_congr_left fun j hj => ?_
  unfold reC
  rw [if_pos ⟨List.mem_range.mp hi, List.mem_range.mp hj⟩]
theorem full2 {c : Nat → Nat → Int} (h : Skew 2 c) : clrRank (sqN 2 c) = 2 ↔ c 0 1 ≠ 0 := by
  constructor
  · intro e k
    have hz : ∀ i j, c i j = 0 := fun i j => by
      refine Decidable.byContradiction fun z => ?_
      obtain ⟨h1, h2⟩ := lt_of_ne h z
      have s1 := h.self 0
      have s2 := h.self 1
      have s3 := h.sk 0 1
      have hi : i = 0 ∨ i = 1 := by omega
      have hj : j = 0 ∨ j = 1 := by omega
      rcases hi with rfl | rfl <;> rcases hj with rfl | rfl
      · exact z s1
      · exact z k
      · exact z (by rw [s3, k]; rfl)
      · exact z s2
    rw [rl0 h hz] at e
    cases e
  · intro k
    exact Nat.le_antisymm (rank_len 2 c) (rg2 h k)
theorem full4 {c : Nat → Nat → Int} (h : Skew 4 c) : clrRank (sqN 4 c) = 4 ↔ pf4 c 0 1 2 3 ≠ 0 := by
  constructor
  · intro e k
    have := rl2 h (all4 h fun i j l m h1 h2 h3 h4 => by
      obtain rfl : i = 0 := by omega
      obtain rfl : j = 1 := by omega
      obtain rfl : l = 2 := by omega
      obtain rfl : m = 3 := by omega
      exact k)
    omega
  · intro k
    exact Nat.le_antisymm (rank_len 4 c) (rg4 h k)
theorem full6 {c : Nat → Nat → Int} (h : Skew 6 c) : clrRank (sqN 6 c) = 6 ↔ pf6 c 0 1 2 3 4 5 ≠ 0 := by
  constructor
  · intro e k
    have := rl4 h (six_of h k)
    omega
  · intro k
    exact Nat.le_antisymm (rank_len 6 c) (rg6 h (by decide) (by decide) (by decide) (by decide) (by decide) (by decide) k)
/-- the part at P has its full rank exactly if the Pfaffian is not 0 -/
theorem sub_full {c : Nat → Nat → Int} (h : ∀ i j, c j i = - c i j) {P : List Nat} (hP : P.length = 0 ∨ P.length = 2 ∨ P.length = 4 ∨ P.length = 6) : clrRank (subM c P) = P.length ↔ Pf c P ≠ 0 := by
  have sk := re_skew h P
  rw [sub_sq]
  rcases hP with hl | hl | hl | hl
  · obtain rfl := List.eq_nil_of_length_eq_zero hl
    refine ⟨fun _ => by show (1 : Int) ≠ 0; decide, fun _ => ?_⟩
    show clrRank [] = 0
    decide +kernel
  · have e : Pf c P = reC c P 0 1 := by
      match P, hl with
      | [p, q], _ => rfl
    rw [hl] at sk ⊢
    rw [e]
    exact full2 sk
  · have e : Pf c P = pf4 (reC c P) 0 1 2 3 := by
      match P, hl with
      | [p, q, r, s], _ =>
        show pf4 c p q r s = _
        unfold pf4
        simp [reC]
    rw [hl] at sk ⊢
    rw [e]
    exact full4 sk
  · have e : Pf c P = pf6 (reC c P) 0 1 2 3 4 5 := by
      match P, hl with
      | [p, q, r, s, t, u], _ =>
        show pf6 c p q r s t u = _
        unfold pf6 pf4
        simp [reC]
    rw [hl] at sk ⊢
    rw [e]
    exact full6 sk
/-! ### the anchor -/
def anch (c : Nat → Nat → Int) : List Nat := ((chL (2 * ow c)).find? fun P => Pf c P != 0).getD []
theorem anch_some (c : Nat → Nat → Int) : (chL (2 * ow c)).find? (fun P => Pf c P != 0) = some (anch c) := by
  have h : hasPf c (2 * ow c) = true := by
    unfold ow
    cases e6 : hasPf c 6 with
    | true => exact e6
    | false =>
      cases e4 : hasPf c 4 with
      | true => exact e4
      | false =>
        cases e2 : hasPf c 2 with
        | true => exact e2
        | false => rfl
  obtain ⟨P, hP, e⟩ := pf_yes h
  cases z : (chL (2 * ow c)).find? (fun P => Pf c P != 0) with
  | none =>
    have := List.find?_eq_none.mp z P hP
    exact absurd (by simpa using e) this
  | some Q =>
    unfold anch
    rw [z]
    rfl
theorem ow_le (c : Nat → Nat → Int) : ow c ≤ 3 := by
  unfold ow
  split
  · omega
  · split
    · omega
    · split <;> omega
theorem anch_in (c : Nat → Nat → Int) : anch c ∈ chL (2 * ow c) ∧ Pf c (anch c) ≠ 0 := ⟨List.mem_of_find?_eq_some (anch_some c), by simpa using List.find?_some (anch_some c)⟩
theorem anch_len (c : Nat → Nat → Int) : (anch c).length = 2 * ow c := (ch_len _ (by have := ow_le c; omega) _ (anch_in c).1).1
/-- multiples have the same anchor -/
theorem pf_mul {c : Nat → Nat → Int} {k : Int} (hk : k ≠ 0) (P : List Nat) : (Pf (fun i j => k * c i j) P != 0) = (Pf c P != 0) := by
  have key : ∀ (x y : Int) (l : Int), l ≠ 0 → x = l * y → (x != 0) = (y != 0) := fun x y l hl e => by
    rw [Bool.eq_iff_iff, bne_iff_ne, bne_iff_ne, e]
    exact ⟨fun z q => z (by rw [q, Int.mul_zero]), fun z q => z ((Int.mul_eq_zero.mp q).resolve_left hl)⟩
  match P with
  | [] => rfl
  | [_] => rfl
  | [p, q] => exact key _ _ k hk rfl
  | [_, _, _] => rfl
  | [p, q, r, s] => exact key _ _ (k * k) (Int.mul_ne_zero hk hk) (by show pf4 (fun i j => k * c i j) p q r s = k * k * pf4 c p q r s; unfold pf4; grind)
  | [_, _, _, _, _] => rfl
  | [p, q, r, s, t, u] => exact key _ _ (k * k * k) (Int.mul_ne_zero (Int.mul_ne_zero hk hk) hk) (by show pf6 (fun i j => k * c i j) p q r s t u = k * k * k * pf6 c p q r s t u; unfold pf6 pf4; grind)
  | _ :: _ :: _ :: _ :: _ :: _ :: _ :: _ => rfl
theorem ow_mul {c : Nat → Nat → Int} {k : Int} (hk : k ≠ 0) : ow (fun i j => k * c i j) = ow c := by
  have h : ∀ n, hasPf (fun i j => k * c i j) n = hasPf c n := fun n => by
    unfold hasPf
    congr 1
    funext P
    exact pf_mul hk P
  unfold ow
  rw [h, h, h]
theorem anch_mul {c : Nat → Nat → Int} {k : Int} (hk : k ≠ 0) : anch (fun i j => k * c i j) = anch c := by
  unfold anch
  rw [ow_mul hk]
  congr 2
  funext P
  exact pf_mul hk P
theorem ow_zero {c : Nat → Nat → Int} (h : ∀ i j, c i j = 0) : ow c = 0 := by
  have h2 : ∀ n, n < 7 → n ≠ 0 → hasPf c n = false := fun n hn n0 => List.any_eq_false.mpr fun P hP => by
    have hl := (ch_len n hn P hP).1
    have : Pf c P = 0 := by
      match P with
      | [] => exact absurd hl.symm n0
      | [_] => rfl
      | [p, q] => exact h p q
      | [_, _, _] => rfl
      | [p, q, r, s] => show pf4 c p q r s = 0; unfold pf4; simp [h]
      | [_, _, _, _, _] => rfl
      | [p, q, r, s, t, u] => show pf6 c p q r s t u = 0; unfold pf6 pf4; simp [h]
      | _ :: _ :: _ :: _ :: _ :: _ :: _ :: _ => rfl
    simp [this]
  unfold ow
  rw [h2 6 (by decide) (by decide), h2 4 (by decide) (by decide), h2 2 (by decide) (by decide)]
  rfl
end TL
namespace TL.W
open TL
open PySem L2

/-! ### steps of a reading -/
local macro_rules | `(tactic| walk_at "hp") => `(tactic| first | assumption | exact upd_same | (refine (upd_ne (by first | assumption | (exact Ne.symm (by assumption)))).trans ?_; walk_at "hp"))
local macro_rules | `(tactic| walk_at "ok") => `(tactic| first | (exact Or.inr ⟨by decide, by decide⟩) | (exact ⟨by decide, by decide⟩) | (exact ⟨by decide, by decide, by decide⟩) | (show _ ≠ _; omega) | (show _ ≠ _; decide) | (exact Or.inl ⟨by omega, by omega⟩) | decide)
local macro_rules | `(tactic| walk_at "sq") => `(tactic| first | assumption | exact SqL.of (by walk_at "hp") | exact SqT.of (by walk_at "hp"))
local macro_rules | `(tactic| walk_at "ty") => `(tactic| first | refine ⟨_, _, Value.type "int", Value.type "list", false, rfl, ClsV.ty _, TyX.base (TyOf.int _), kt_int_list, ?_⟩ | refine ⟨_, _, Value.type "bool", Value.type "list", false, rfl, ClsV.ty _, TyX.base (TyOf.bl _), kt_bool_list, ?_⟩ | refine ⟨_, _, Value.type "str", Value.type "list", false, rfl, ClsV.ty _, TyX.base (TyOf.str _), kt_str_list, ?_⟩ | refine ⟨_, _, Value.type "NoneType", Value.type "list", false, rfl, ClsV.ty _, TyX.base TyOf.non, kt_NoneType_list, ?_⟩ | refine ⟨_, _, Value.type "list", Value.type "list", true, rfl, ClsV.ty _, tyx_L (by walk_at "sq"), kt_list_list, ?_⟩ | refine ⟨_, _, Value.type "tuple", Value.type "list", false, rfl, ClsV.ty _, tyx_T (by walk_at "sq"), kt_tuple_list, ?_⟩ | refine ⟨_, _, Value.type "int", Value.type "tuple", false, rfl, ClsV.ty _, TyX.base (TyOf.int _), kt_int_tuple, ?_⟩ | refine ⟨_, _, Value.type "bool", Value.type "tuple", false, rfl, ClsV.ty _, TyX.base (TyOf.bl _), kt_bool_tuple, ?_⟩ | refine ⟨_, _, Value.type "str", Value.type "tuple", false, rfl, ClsV.ty _, TyX.base (TyOf.str _), kt_str_tuple, ?_⟩ | refine ⟨_, _, Value.type "NoneType", Value.type "tuple", false, rfl, ClsV.ty _, TyX.base TyOf.non, kt_NoneType_tuple, ?_⟩ | refine ⟨_, _, Value.type "list", Value.type "tuple", false, rfl, ClsV.ty _, tyx_L (by walk_at "sq"), kt_list_tuple, ?_⟩ | refine ⟨_, _, Value.type "tuple", Value.type "tuple", true, rfl, ClsV.ty _, tyx_T (by walk_at "sq"), kt_tuple_tuple, ?_⟩ | refine ⟨_, _, Value.type "int", Value.type "bool", false, rfl, ClsV.ty _, TyX.base (TyOf.int _), kt_int_bool, ?_⟩ | refine ⟨_, _, Value.type "bool", Value.type "bool", true, rfl, ClsV.ty _, TyX.base (TyOf.bl _), kt_bool_bool, ?_⟩ | refine ⟨_, _, Value.type "str", Value.type "bool", false, rfl, ClsV.ty _, TyX.base (TyOf.str _), kt_str_bool, ?_⟩ | refine ⟨_, _, Value.type "NoneType", Value.type "bool", false, rfl, ClsV.ty _, TyX.base TyOf.non, kt_NoneType_bool, ?_⟩ | refine ⟨_, _, Value.type "list", Value.type "bool", false, rfl, ClsV.ty _, tyx_L (by walk_at "sq"), kt_list_bool, ?_⟩ | refine ⟨_, _, Value.type "tuple", Value.type "bool", false, rfl, ClsV.ty _, tyx_T (by walk_at "sq"), kt_tuple_bool, ?_⟩ | refine ⟨_, _, Value.type "int", Value.type "int", true, rfl, ClsV.ty _, TyX.base (TyOf.int _), kt_int_int, ?_⟩ | refine ⟨_, _, Value.type "bool", Value.type "int", true, rfl, ClsV.ty _, TyX.base (TyOf.bl _), kt_bool_int, ?_⟩ | refine ⟨_, _, Value.type "str", Value.type "int", false, rfl, ClsV.ty _, TyX.base (TyOf.str _), kt_str_int, ?_⟩ | refine ⟨_, _, Value.type "NoneType", Value.type "int", false, rfl, ClsV.ty _, TyX.base TyOf.non, kt_NoneType_int, ?_⟩ | refine ⟨_, _, Value.type "list", Value.type "int", false, rfl, ClsV.ty _, tyx_L (by walk_at "sq"), kt_list_int, ?_⟩ | refine ⟨_, _, Value.type "tuple", Value.type "int", false, rfl, ClsV.ty _, tyx_T (by walk_at "sq"), kt_tuple_int, ?_⟩ | refine ⟨_, _, Value.type "int", Value.type "str", false, rfl, ClsV.ty _, TyX.base (TyOf.int _), kt_int_str, ?_⟩ | refine ⟨_, _, Value.type "bool", Value.type "str", false, rfl, ClsV.ty _, TyX.base (TyOf.bl _), kt_bool_str, ?_⟩ | refine ⟨_, _, Value.type "str", Value.type "str", true, rfl, ClsV.ty _, TyX.base (TyOf.str _), kt_str_str, ?_⟩ | refine ⟨_, _, Value.type "NoneType", Value.type "str", false, rfl, ClsV.ty _, TyX.base TyOf.non, kt_NoneType_str, ?_⟩ | refine ⟨_, _, Value.type "list", Value.type "str", false, rfl, ClsV.ty _, tyx_L (by walk_at "sq"), kt_list_str, ?_⟩ | refine ⟨_, _, Value.type "tuple", Value.type "str", false, rfl, ClsV.ty _, tyx_T (by walk_at "sq"), kt_tuple_str, ?_⟩)
local macro_rules | `(tactic| walk_at "go1") => `(tactic| first
  | (refine ⟨_, rfl, ?_⟩)
  | (refine ⟨_, _, rfl, rfl, ?_⟩)
  | (refine ⟨_, _, _, _, rfl, rfl, SqL.of (by walk_at "hp"), rfl, ?_⟩)
  | (refine Or.inl ⟨_, rfl, ?_⟩)
  | (refine ⟨rfl, ?_⟩)
  | (refine ⟨_, _, rfl, .inl (SqL.of (by walk_at "hp")), ?_⟩)
  | (refine ⟨_, _, rfl, Or.inl (by assumption), ?_⟩)
  | (refine ⟨_, _, rfl, Or.inr (by assumption), ?_⟩)
  | (refine ⟨(by walk_at "ok"), ?_⟩)
  | (refine ⟨_, _, _, _, rfl, rfl, (by walk_at "hp"), rfl, ?_⟩))
local macro_rules | `(tactic| walk_at "go") => `(tactic| repeat (walk_at "go1"))
local macro_rules | `(tactic| walk_at "gt") => `(tactic| repeat (first | walk_at "go1" | walk_at "ty"))

def set2 (M : List (List Int)) (i j : Nat) (v : Int) : List (List Int) := M.set i ((M.getD i []).set j v)
def wmatN (ps : List Int) : Nat → List (List Int)
  | 0 => List.replicate 6 (List.replicate 6 0)
  | k + 1 => set2 (set2 (wmatN ps k) (PR.getD k (0, 0)).1 (PR.getD k (0, 0)).2 (ps.getD k 0)) (PR.getD k (0, 0)).2 (PR.getD k (0, 0)).1 (- ps.getD k 0)
def wmat (ps : List Int) : List (List Int) := wmatN ps 15
theorem set2_len (M : List (List Int)) (i j : Nat) (v : Int) : (set2 M i j v).length = M.length := by simp [set2]
theorem set2_row {w : Nat} {M : List (List Int)} (i j : Nat) (v : Int) (h : RowsW w M) : RowsW w (set2 M i j v) := fun row hr => by
  unfold set2 at hr
  rcases Nat.lt_or_ge i M.length with c | c
  · rcases List.mem_or_eq_of_mem_set hr with e | e
    · exact h row e
    · rw [e, List.length_set]
      exact h _ (getD_mem c)
  · rw [List.set_eq_of_length_le c] at hr
    exact h row hr
theorem wmatN_len (ps : List Int) : ∀ k, (wmatN ps k).length = 6
  | 0 => rfl
  | k + 1 => by rw [wmatN, set2_len, set2_len]; exact wmatN_len ps k
theorem wmatN_row (ps : List Int) : ∀ k, RowsW 6 (wmatN ps k)
  | 0 => fun row hr => by rw [(List.mem_replicate.mp hr).2]; rfl
  | k + 1 => set2_row _ _ _ (set2_row _ _ _ (wmatN_row ps k))
theorem pr_lt {k i j : Nat} (h : PR[k]? = some (i, j)) : i < 6 ∧ j < 6 := by
  have : ∀ p ∈ PR, p.1 < 6 ∧ p.2 < 6 := by decide
  exact this _ (List.mem_of_getElem? h)
section
variable {P : Program} {w : World} {K : PySem.W.Frag} {mg : Str → Option Value} {base : Heap}
-- [0=self, 1=matrix, 2=p, 3=q, 4=number, 5=_]
def spMatrix (K : PySem.W.Frag) (C : Addr) : Sp := fun vs H Q _ => ∃ (p : Addr) (x : W2), vs = [.ref p] ∧ WAt K C H p x ∧ ∀ t H', Same H H' → Mat H' t (wmat x.1) → Q (.ref t) H'
theorem ok_matrix (T : Tx K mg) : FnOk P w K mg base CX0 1 T.f_Wedge_matrix T.d_Wedge_matrix ["self"] (spMatrix K T.C_Wedge) := by
  refine T.F_Wedge_matrix.ok sc_Wedge_matrix (fun vs H Q E h => ?_) (fun cdv A outer s H vs Q E hr h => ?_)
  · obtain ⟨p, x, rfl, _⟩ := h
    rfl
  obtain ⟨p, x, rfl, ⟨⟨dx, t1, t2, e1, e2, e3⟩, ox⟩, q⟩ := h
  have nd := sc_Wedge_matrix.nd
  refine ⟨_, (pss_cons (ps_setLc (i := 1) (own := [("_", 5)]) (g := (gName 5)) rfl nd rfl rfl (sw_true rfl rfl rfl (by decide +kernel)) (show PI _ _ _ (iTup K _) from pi_tup (pe_glob (v := .ref T.e_PRIMES) (by rfl) T.m_PRIMES rfl)) (blkOk_by (own := [("_", 5)]) (N := N_Wedge_matrix) (sc := defScope s_Wedge_matrix) (by decide +kernel)) (fun _ _ _ _ _ => by exact (pg_name (i := 5) nd rfl (Or.inl rfl))) (fun _ _ _ _ _ => by exact pts_nil) (fun _ _ _ _ _ => by exact (pe_lst (pa_cons pe_int (pa_cons pe_int (pa_cons pe_int (pa_cons pe_int (pa_cons pe_int (pa_cons pe_int pa_nil)))))))))
    (pss_cons (ps_for PassesOwn.never rfl (show PI _ _ _ (RZ.iZipA K _) from RZ.pi_zipA (by rfl) T.z_zip (pa_cons (pe_glob (v := .ref T.e_PAIRS) (by rfl) T.m_PAIRS rfl) (pa_cons (show PE _ _ (tFld K _ _) from pe_fld (pv 0) rfl) pa_nil))) (pg_tup rfl (pgs_cons (pg_tup rfl (pgs_cons (pg_name (i := 2) nd rfl (Or.inl rfl)) (pgs_cons (pg_name (i := 3) nd rfl (Or.inl rfl)) pgs_nil))) (pgs_cons (pg_name (i := 4) nd rfl (Or.inl rfl)) pgs_nil))) (pss_cons (ps_asg (pv 4) (pg_sub (show PE _ _ (tOp (rIxL K) _ _) from (pe_ix ix_list (pv 1) (pv 2) (fun _ _ => rfl))) (pv 3) set_list))
    (pss_one (ps_asg (pe_un un_neg (pv 4)) (pg_sub (pe_ix (show IxR _ (rIxL K) from ix_list) (pv 1) (pv 3) (fun _ _ => rfl)) (pv 2) set_list)))))
    (pss_one (ps_ret (pv 1))))), ?_⟩
  refine ⟨T.e_PRIMES, rfl, ⟨_, T.q_PRIMES _⟩, fun D hD => ?_⟩
  refine lcsN (walk_tup (K := K) (a := T.e_PRIMES) (xs := [.int 2, .int 3, .int 5, .int 7, .int 11, .int 13])) (fun i y H' => ∃ t, y = V.ref t ∧ t ≠ D ∧ H t = none ∧ H' t = some (.lst ((List.replicate 6 (0 : Int)).map V.int))) (fun i y H1 H2 s1 ⟨t, a1, a0, af, a3⟩ => ⟨t, a1, a0, af, s1 _ _ a3⟩)
    (fun i y H1 zs zs' hz' ⟨t, a1, a0, af, a3⟩ => ⟨t, a1, a0, af, by rw [upd_ne a0]; exact a3⟩) (fun i y H1 ⟨t, a1, a0, af, a3⟩ => ⟨t, _, a1, a3⟩) (by decide) hD (fun H1 s1 => T.q_PRIMES _) ?_ fun ys H1 hl hnd hys s1 hD1 => ?_
  · rintro i x H1 H2 hi s1 ⟨zs, hz⟩ ⟨rfl, hx⟩ k hk
    refine ⟨rfl, (by show 6 ≤ sizeLine; decide), fun p2 hp2 => hk _ _ (Same.new hp2) ⟨p2, rfl, (ne_of_none hz hp2).symm, s1.free hp2, upd_same⟩ ⟨p2, rfl, hp2⟩⟩
  have m0 : MatL H1 ys (wmatN x.1 0) := ⟨hl, fun i r hr => by
    obtain ⟨t, a1, a0, af, a3⟩ := hys i r hr
    have hi : i < 6 := by
      have := (List.getElem?_eq_some_iff.mp hr).1
      rw [hl] at this
      exact this
    exact ⟨t, _, a1, by show (List.replicate 6 (List.replicate 6 (0 : Int)))[i]? = some (List.replicate 6 (0 : Int)); rw [List.getElem?_replicate, if_pos hi], a3⟩⟩
  have hfr : ∀ (i : Nat) t, ys[i]? = some (V.ref t) → H t = none ∧ t ≠ D := fun i r hr => by
    obtain ⟨t, a1, a0, af, a3⟩ := hys i _ hr
    cases a1
    exact ⟨af, a0⟩
  clear hys
  obtain ⟨as, has, hP, hPP⟩ := T.p_PAIRS
  refine ⟨_, rfl, p, _, _, _, _, rfl, s1 _ _ e1, T.c_Wedge, T.n_Wedge_pairs, wf_p _ _, T.e_PAIRS, t1, _, _, rfl, .inr ⟨hP _, seqT s1 e2, for_it (walk_zipT (n := 15) (by rw [List.length_map, List.length_map, has, ox.l1]; rfl)) (fun i σ H' => Same H H' ∧ (∃ a2 a3 a4, σ = [some (.ref p), some (.ref D), a2, a3, a4, none]) ∧ H' D = some (.lst ys) ∧ MatL H' ys (wmatN x.1 i)) ⟨s1, ⟨_, _, _, rfl⟩, hD1, m0⟩ (fun i σ H' _ h => ⟨hP _, seqT h.1 e2⟩) ?_ ?_⟩⟩
  · rintro i v σ H2 H3 hi ⟨s2, ⟨a2, a3, a4, rfl⟩, hD2, m2⟩ ⟨tt, u, z, rfl, htt, rfl, hu, hz⟩
    replace hu : (as.map V.ref)[i]? = some u := hu
    replace hz : (x.1.map V.int)[i]? = some z := hz
    rw [List.getElem?_map] at hu hz
    obtain ⟨a, ha, rfl⟩ := Option.map_eq_some_iff.mp hu
    obtain ⟨n, hn, rfl⟩ := Option.map_eq_some_iff.mp hz
    obtain ⟨pi, qi, hpr, hsq⟩ := hPP i a ha
    have b6 := pr_lt hpr
    have st := Same.new (o := .tup [V.ref a, V.int n]) htt
    have hD3 := st _ _ hD2
    have m3 := m2.same st
    have s3 := s2.trans st
    refine ⟨tt, _, rfl, SqT.of upd_same, rfl, _, _, rfl, ⟨a, _, rfl, hsq _, rfl, _, _, rfl, _, _, rfl, rfl, _, _, rfl, rfl, ?_⟩⟩
    generalize upd H2 tt (.tup [.ref a, .int n]) = H4 at *
    have len6 : ∀ k, (wmatN x.1 k).length = 6 := wmatN_len x.1
    obtain ⟨tp, gp, gp2⟩ := m3.at (i := pi) (by rw [len6]; exact b6.1)
    have wl := wmatN_row x.1 i
    have rowp := wl _ (getD_mem (i := pi) (by rw [len6]; exact b6.1))
    refine ⟨_, rfl, _, rfl, _, rfl, _, _, _, _, rfl, rfl, SqL.of hD3, at_of (j := pi) rfl gp, _, rfl, tp, _, _, qi, rfl, rfl, gp2, ixN_at (by rw [List.length_map, rowp]; exact b6.2), ?_⟩
    have em : ∀ (r : List Int) (k : Nat) (v : Int), (r.map V.int).set k (V.int v) = (r.set k v).map V.int := fun r k v => (List.map_set ..).symm
    rw [em]
    have nD := (hfr pi tp gp).2
    have m4 := m3.put hnd (row := ((wmatN x.1 i).getD pi []).set qi n) gp
    have s4 := s3.upd_new (o := .lst ((((wmatN x.1 i).getD pi []).set qi n).map V.int)) (hfr pi tp gp).1
    have hD4 : upd H4 tp (.lst ((((wmatN x.1 i).getD pi []).set qi n).map V.int)) D = some (.lst ys) := by rw [upd_ne nD.symm]; exact hD3
    have e4 : (wmatN x.1 i).set pi (((wmatN x.1 i).getD pi []).set qi n) = set2 (wmatN x.1 i) pi qi n := rfl
    rw [e4] at m4
    have wl4 := set2_row pi qi n wl
    have ln4 : (set2 (wmatN x.1 i) pi qi n).length = 6 := by rw [set2_len, len6]
    generalize upd H4 tp (.lst ((((wmatN x.1 i).getD pi []).set qi n).map V.int)) = H5 at *
    have efin : wmatN x.1 (i + 1) = set2 (set2 (wmatN x.1 i) pi qi n) qi pi (-n) := by
      rw [wmatN, List.getD_eq_getElem?_getD, hpr, List.getD_eq_getElem?_getD, hn]
      rfl
    rw [efin]
    generalize set2 (wmatN x.1 i) pi qi n = M4 at *
    obtain ⟨tq, gq, gq2⟩ := m4.at (i := qi) (by rw [ln4]; exact b6.2)
    have rowq := wl4 _ (getD_mem (i := qi) (by rw [ln4]; exact b6.2))
    refine ⟨_, rfl, _, rfl, _, rfl, _, rfl, _, _, _, _, rfl, rfl, SqL.of hD4, at_of (j := qi) rfl gq, _, rfl, tq, _, _, pi, rfl, rfl, gq2, ixN_at (by rw [List.length_map, rowq]; exact b6.1), ?_⟩
    rw [em]
    refine ⟨s4.upd_new (hfr qi tq gq).1, ⟨_, _, _, rfl⟩, by rw [upd_ne (hfr qi tq gq).2.symm]; exact hD4, ?_⟩
    exact m4.put hnd gq
  · rintro σ H2 ⟨s2, ⟨a2, a3, a4, rfl⟩, hD2, m2⟩
    exact ⟨_, rfl, q D H2 s2 ⟨ys, hD2, m2⟩⟩


def prodW (M : List (List Int)) : W2 := (PR.map fun p => (M.getD p.1 []).getD p.2 0 - (M.getD p.2 []).getD p.1 0, (List.range 6).map fun i => ((M.getD i []).getD i 0).fmod 2)
theorem prodW_ok (M : List (List Int)) : WOk (prodW M) := ⟨by simp [prodW, PR], by simp [prodW], fun b hb => by
  obtain ⟨i, _, rfl⟩ := List.mem_map.mp hb
  exact bit_mod _⟩
def spFlat (K : PySem.W.Frag) (C : Addr) : Sp := fun vs H Q _ => ∃ (p : Addr) (x : W2), vs = [.ref p] ∧ WAt K C H p x ∧ Q (.bl (!x.1.any (fun n => n != 0))) H
theorem ok_flat (T : Tx K mg) : FnOk P w K mg base CX0 1 T.f_Wedge_flat T.d_Wedge_flat ["self"] (spFlat K T.C_Wedge) := by
  refine T.F_Wedge_flat.ok sc_Wedge_flat (fun vs H Q E h => ?_) (fun cdv A outer s H vs Q E hr h => ?_)
  · obtain ⟨p, x, rfl, _⟩ := h
    rfl
  obtain ⟨p, x, rfl, ⟨⟨dx, t1, t2, e1, e2, e3⟩, ox⟩, q⟩ := h
  refine ⟨_, (pss_one (ps_ret (pe_not (pe_callB (show CallR _ _ (rAnyT K) from cr_anyT rfl) (by rfl) T.z_any (by decide +kernel) (pa_cons (show PE _ _ (tFld K _ _) from pe_fld (pv 0) rfl) pa_nil))))), ?_⟩
  exact ⟨_, rfl, p, _, _, _, _, rfl, e1, T.c_Wedge, T.n_Wedge_pairs, wf_p _ _, t1, _, rfl, e2, _, rfl, q⟩
/-- the matrix of a wedge has a rank, if its numbers are not too great -/
def RkOk (x : W2) : Prop := ∀ u ∈ x.1, u.natAbs < 2 ^ 100
theorem wf_mat {t1 t2 : Addr} : (wf t1 t2).lookup ("matrix" : Str) = none := wf_no _ _ (by decide +kernel) (by decide +kernel)
theorem set2_ent {b i j : Nat} {v : Int} {M : List (List Int)} (h : Ent b M) (hv : v.natAbs < 2 ^ b) : Ent b (set2 M i j v) := fun row hr => by
  unfold set2 at hr
  rcases Nat.lt_or_ge i M.length with c | c
  · rcases List.mem_or_eq_of_mem_set hr with e | e
    · exact h row e
    · intro x hx
      rw [e] at hx
      rcases List.mem_or_eq_of_mem_set hx with z | z
      · exact h _ (getD_mem c) x z
      · rw [z]
        exact hv
  · rw [List.set_eq_of_length_le c] at hr
    exact h row hr
theorem wmat_ent {ps : List Int} (h : ∀ u ∈ ps, u.natAbs < 2 ^ 100) : ∀ k, Ent 100 (wmatN ps k)
  | 0 => fun row hr x hx => by
    rw [(List.mem_replicate.mp hr).2] at hx
    rw [(List.mem_replicate.mp hx).2]
    exact Nat.pow_pos (by decide)
  | k + 1 => by
    have hv : (ps.getD k 0).natAbs < 2 ^ 100 := getD_lt h
    exact set2_ent (set2_ent (wmat_ent h k) hv) (by rw [Int.natAbs_neg]; exact hv)
def spRankW (K : PySem.W.Frag) (C : Addr) (f : Nat → Int) : Sp := fun vs H Q _ => ∃ (p : Addr) (x : W2), vs = [.ref p] ∧ WAt K C H p x ∧ RkOk x ∧ ∀ H', Same H H' → Q (.int (f (clrRank (wmat x.1)))) H'
theorem ok_rankW (T : Tx K mg) : FnOk P w K mg base CX0 4 T.f_Wedge_rank T.d_Wedge_rank ["self"] (spRankW K T.C_Wedge fun n => (n : Int)) := by
  have G_Wedge_matrix := ok_matrix (P := P) (w := w) (base := base) T
  have G_rank_of := ok_rank (P := P) (w := w) (base := base) T
  refine T.F_Wedge_rank.ok sc_Wedge_rank (fun vs H Q E h => ?_) (fun cdv A outer s H vs Q E hr h => ?_)
  · obtain ⟨p, x, rfl, _⟩ := h
    rfl
  obtain ⟨p, x, rfl, hx, hk, q⟩ := h
  obtain ⟨dx, t1, t2, e1, e2, e3⟩ := hx.ex
  refine ⟨_, (pss_one (ps_ret (pe_call G_rank_of hr (by rfl) T.m_rank_of T.F_rank_of.kp T.b_rank_of .nil pass0 (pa_cons (pe_meth0 (pv 0) T.c_Wedge T.a_Wedge_matrix G_Wedge_matrix (hr.mono (by decide)) T.b_Wedge_matrix .nil pass0) pa_nil)))), ?_⟩
  exact ⟨_, rfl, p, dx, _, rfl, e1, wf_mat, p, x, rfl, hx, fun t H1 s1 ht => ⟨t, wmat x.1, 100, 6, rfl, ht, wmatN_row _ _, wmat_ent hk 15, by decide, by rw [wmat, wmatN_len]; decide, by rw [wmat, wmatN_len]; decide, by decide, fun H2 s2 => q H2 (s1.trans s2)⟩⟩
theorem ok_owed (T : Tx K mg) : FnOk P w K mg base CX0 4 T.f_Wedge_owed T.d_Wedge_owed ["self"] (spRankW K T.C_Wedge fun n => ((n / 2 : Nat) : Int)) := by
  have G_Wedge_matrix := ok_matrix (P := P) (w := w) (base := base) T
  have G_rank_of := ok_rank (P := P) (w := w) (base := base) T
  refine T.F_Wedge_owed.ok sc_Wedge_owed (fun vs H Q E h => ?_) (fun cdv A outer s H vs Q E hr h => ?_)
  · obtain ⟨p, x, rfl, _⟩ := h
    rfl
  obtain ⟨p, x, rfl, hx, hk, q⟩ := h
  obtain ⟨dx, t1, t2, e1, e2, e3⟩ := hx.ex
  refine ⟨_, (pss_one (ps_ret (pe_op op_fdivN (pe_call G_rank_of hr (by rfl) T.m_rank_of T.F_rank_of.kp T.b_rank_of .nil pass0 (pa_cons (pe_meth0 (pv 0) T.c_Wedge T.a_Wedge_matrix G_Wedge_matrix (hr.mono (by decide)) T.b_Wedge_matrix .nil pass0) pa_nil)) pe_int))), ?_⟩
  refine ⟨_, rfl, p, dx, _, rfl, e1, wf_mat, p, x, rfl, hx, fun t H1 s1 ht => ⟨t, wmat x.1, 100, 6, rfl, ht, wmatN_row _ _, wmat_ent hk 15, by decide, by rw [wmat, wmatN_len]; decide, by rw [wmat, wmatN_len]; decide, by decide, fun H2 s2 => ?_⟩⟩
  refine ⟨_, _, rfl, rfl, ⟨by decide, by decide⟩, ?_⟩
  have : Q (.int ((clrRank (wmat x.1) / 2 : Nat) : Int)) H2 := q H2 (s1.trans s2)
  rw [Int.natCast_ediv, ← Int.fdiv_eq_ediv_of_nonneg _ (by decide)] at this
  exact this
theorem wmat_ct {g : Nat → Nat → Int} (h0 : ∀ i, g i i = 0) (hn : ∀ i j, g j i = - g i j) : wmat (PR.map fun p => g p.1 p.2) = ctM g := by
  have e : wmat (PR.map fun p => g p.1 p.2) = [[0, g 0 1, g 0 2, g 0 3, g 0 4, g 0 5], [- g 0 1, 0, g 1 2, g 1 3, g 1 4, g 1 5], [- g 0 2, - g 1 2, 0, g 2 3, g 2 4, g 2 5], [- g 0 3, - g 1 3, - g 2 3, 0, g 3 4, g 3 5], [- g 0 4, - g 1 4, - g 2 4, - g 3 4, 0, g 4 5], [- g 0 5, - g 1 5, - g 2 5, - g 3 5, - g 4 5, 0]] := by
    simp only [wmat, wmatN, set2, PR, List.map_cons, List.map_nil, List.getD_cons_zero, List.getD_cons_succ, List.set_cons_zero, List.set_cons_succ, List.replicate_succ, List.replicate_zero]
  rw [e]
  show _ = [[g 0 0, g 0 1, g 0 2, g 0 3, g 0 4, g 0 5], [g 1 0, g 1 1, g 1 2, g 1 3, g 1 4, g 1 5], [g 2 0, g 2 1, g 2 2, g 2 3, g 2 4, g 2 5], [g 3 0, g 3 1, g 3 2, g 3 3, g 3 4, g 3 5], [g 4 0, g 4 1, g 4 2, g 4 3, g 4 4, g 4 5], [g 5 0, g 5 1, g 5 2, g 5 3, g 5 4, g 5 5]]
  rw [h0, h0, h0, h0, h0, h0, hn 0 1, hn 0 2, hn 0 3, hn 0 4, hn 0 5, hn 1 2, hn 1 3, hn 1 4, hn 1 5, hn 2 3, hn 2 4, hn 2 5, hn 3 4, hn 3 5, hn 4 5]
end
end TL.W
namespace TL
open PySem PySem.Spec PyProof.Rows L2
theorem ints_are : ∀ {ns : List Int} {vs : List Value}, Vals (ns.map V.int) vs → IntsAre vs ns
  | [], _, .nil => .nil
  | n :: ns, _, .cons r rr => by
    obtain ⟨t, rfl⟩ := r
    exact .cons _ _ (ints_are rr)
/-- t.index(n) of a tuple of ints -/
theorem mt_indexT {X : Cx} : MtR X "tuple.index" (fun x xs H Q => ∃ (p : Addr) (ns : List Int) (k : Int), x = .ref p ∧ xs = [.int k] ∧ SqT X.K H p (ns.map V.int) ∧ k ∈ ns ∧ Q (.int ((ns.idxOf k : Nat) : Int)) H) := by
  intro pins s σ H x xs v us Q I rx rxs h
  obtain ⟨p, ns, k, rfl, rfl, hq, hk, q⟩ := h
  cases rx
  cases rxs with
  | cons r1 rs =>
    cases rs
    obtain ⟨t, rfl⟩ := r1
    obtain ⟨its, rv, pT, hz⟩ := I.tuple hq
    exact SeqAt.tuple_index_ints (show s.heap.IsTuple p its.toArray from pT) (ints_are rv) hk ⟨.int _, H, I.tok _, ⟨_, rfl⟩, q⟩
end TL
namespace TL.W
open TL
open PySem L2

/-! ### steps of a reading -/
local macro_rules | `(tactic| walk_at "hp") => `(tactic| first | assumption | exact upd_same | (refine (upd_ne (by first | assumption | (exact Ne.symm (by assumption)))).trans ?_; walk_at "hp"))
local macro_rules | `(tactic| walk_at "ok") => `(tactic| first | (exact Or.inr ⟨by decide, by decide⟩) | (exact ⟨by decide, by decide⟩) | (exact ⟨by decide, by decide, by decide⟩) | (show _ ≠ _; omega) | (show _ ≠ _; decide) | (exact Or.inl ⟨by omega, by omega⟩) | decide)
local macro_rules | `(tactic| walk_at "sq") => `(tactic| first | assumption | exact SqL.of (by walk_at "hp") | exact SqT.of (by walk_at "hp"))
local macro_rules | `(tactic| walk_at "ty") => `(tactic| first | refine ⟨_, _, Value.type "int", Value.type "list", false, rfl, ClsV.ty _, TyX.base (TyOf.int _), kt_int_list, ?_⟩ | refine ⟨_, _, Value.type "bool", Value.type "list", false, rfl, ClsV.ty _, TyX.base (TyOf.bl _), kt_bool_list, ?_⟩ | refine ⟨_, _, Value.type "str", Value.type "list", false, rfl, ClsV.ty _, TyX.base (TyOf.str _), kt_str_list, ?_⟩ | refine ⟨_, _, Value.type "NoneType", Value.type "list", false, rfl, ClsV.ty _, TyX.base TyOf.non, kt_NoneType_list, ?_⟩ | refine ⟨_, _, Value.type "list", Value.type "list", true, rfl, ClsV.ty _, tyx_L (by walk_at "sq"), kt_list_list, ?_⟩ | refine ⟨_, _, Value.type "tuple", Value.type "list", false, rfl, ClsV.ty _, tyx_T (by walk_at "sq"), kt_tuple_list, ?_⟩ | refine ⟨_, _, Value.type "int", Value.type "tuple", false, rfl, ClsV.ty _, TyX.base (TyOf.int _), kt_int_tuple, ?_⟩ | refine ⟨_, _, Value.type "bool", Value.type "tuple", false, rfl, ClsV.ty _, TyX.base (TyOf.bl _), kt_bool_tuple, ?_⟩ | refine ⟨_, _, Value.type "str", Value.type "tuple", false, rfl, ClsV.ty _, TyX.base (TyOf.str _), kt_str_tuple, ?_⟩ | refine ⟨_, _, Value.type "NoneType", Value.type "tuple", false, rfl, ClsV.ty _, TyX.base TyOf.non, kt_NoneType_tuple, ?_⟩ | refine ⟨_, _, Value.type "list", Value.type "tuple", false, rfl, ClsV.ty _, tyx_L (by walk_at "sq"), kt_list_tuple, ?_⟩ | refine ⟨_, _, Value.type "tuple", Value.type "tuple", true, rfl, ClsV.ty _, tyx_T (by walk_at "sq"), kt_tuple_tuple, ?_⟩ | refine ⟨_, _, Value.type "int", Value.type "bool", false, rfl, ClsV.ty _, TyX.base (TyOf.int _), kt_int_bool, ?_⟩ | refine ⟨_, _, Value.type "bool", Value.type "bool", true, rfl, ClsV.ty _, TyX.base (TyOf.bl _), kt_bool_bool, ?_⟩ | refine ⟨_, _, Value.type "str", Value.type "bool", false, rfl, ClsV.ty _, TyX.base (TyOf.str _), kt_str_bool, ?_⟩ | refine ⟨_, _, Value.type "NoneType", Value.type "bool", false, rfl, ClsV.ty _, TyX.base TyOf.non, kt_NoneType_bool, ?_⟩ | refine ⟨_, _, Value.type "list", Value.type "bool", false, rfl, ClsV.ty _, tyx_L (by walk_at "sq"), kt_list_bool, ?_⟩ | refine ⟨_, _, Value.type "tuple", Value.type "bool", false, rfl, ClsV.ty _, tyx_T (by walk_at "sq"), kt_tuple_bool, ?_⟩ | refine ⟨_, _, Value.type "int", Value.type "int", true, rfl, ClsV.ty _, TyX.base (TyOf.int _), kt_int_int, ?_⟩ | refine ⟨_, _, Value.type "bool", Value.type "int", true, rfl, ClsV.ty _, TyX.base (TyOf.bl _), kt_bool_int, ?_⟩ | refine ⟨_, _, Value.type "str", Value.type "int", false, rfl, ClsV.ty _, TyX.base (TyOf.str _), kt_str_int, ?_⟩ | refine ⟨_, _, Value.type "NoneType", Value.type "int", false, rfl, ClsV.ty _, TyX.base TyOf.non, kt_NoneType_int, ?_⟩ | refine ⟨_, _, Value.type "list", Value.type "int", false, rfl, ClsV.ty _, tyx_L (by walk_at "sq"), kt_list_int, ?_⟩ | refine ⟨_, _, Value.type "tuple", Value.type "int", false, rfl, ClsV.ty _, tyx_T (by walk_at "sq"), kt_tuple_int, ?_⟩ | refine ⟨_, _, Value.type "int", Value.type "str", false, rfl, ClsV.ty _, TyX.base (TyOf.int _), kt_int_str, ?_⟩ | refine ⟨_, _, Value.type "bool", Value.type "str", false, rfl, ClsV.ty _, TyX.base (TyOf.bl _), kt_bool_str, ?_⟩ | refine ⟨_, _, Value.type "str", Value.type "str", true, rfl, ClsV.ty _, TyX.base (TyOf.str _), kt_str_str, ?_⟩ | refine ⟨_, _, Value.type "NoneType", Value.type "str", false, rfl, ClsV.ty _, TyX.base TyOf.non, kt_NoneType_str, ?_⟩ | refine ⟨_, _, Value.type "list", Value.type "str", false, rfl, ClsV.ty _, tyx_L (by walk_at "sq"), kt_list_str, ?_⟩ | refine ⟨_, _, Value.type "tuple", Value.type "str", false, rfl, ClsV.ty _, tyx_T (by walk_at "sq"), kt_tuple_str, ?_⟩)
local macro_rules | `(tactic| walk_at "go1") => `(tactic| first
  | (refine ⟨_, rfl, ?_⟩)
  | (refine ⟨_, _, rfl, rfl, ?_⟩)
  | (refine ⟨_, _, _, _, rfl, rfl, SqL.of (by walk_at "hp"), rfl, ?_⟩)
  | (refine Or.inl ⟨_, rfl, ?_⟩)
  | (refine ⟨rfl, ?_⟩)
  | (refine ⟨_, _, rfl, .inl (SqL.of (by walk_at "hp")), ?_⟩)
  | (refine ⟨_, _, rfl, Or.inl (by assumption), ?_⟩)
  | (refine ⟨_, _, rfl, Or.inr (by assumption), ?_⟩)
  | (refine ⟨(by walk_at "ok"), ?_⟩)
  | (refine ⟨_, _, _, _, rfl, rfl, (by walk_at "hp"), rfl, ?_⟩))
local macro_rules | `(tactic| walk_at "go") => `(tactic| repeat (walk_at "go1"))
local macro_rules | `(tactic| walk_at "gt") => `(tactic| repeat (first | walk_at "go1" | walk_at "ty"))

section
variable {P : Program} {w : World} {K : PySem.W.Frag} {mg : Str → Option Value} {base : Heap}
-- [0=matrix, 1=rank, 2=value] [0=value] [0=wedge, 1=primes, 2=places*, 3=matrix*, 4=prime, 5=p, 6=q] [0=wedge, 1=many, 2=places, 3=primes, 4=place]
def detV (M : List (List Int)) : Int := if clrRank M = M.length then clrDet M else 0
def spDet : Sp := fun vs H Q _ => ∃ (p : Addr) (M : List (List Int)) (E w : Nat), vs = [.ref p] ∧ Mat H p M ∧ RowsW w M ∧ Ent E M ∧ 0 < E ∧ bk E (min w M.length) < 9000 ∧ M.length ≤ 1000 ∧ w ≤ 1000 ∧ ∀ H', Same H H' → Q (.int (detV M)) H'
theorem ok_det (T : Tx K mg) : FnOk P w K mg base CX0 3 T.f_determinant T.d_determinant ["matrix"] spDet := by
  have G__cleared := ok_cleared (P := P) (w := w) (base := base) T
  refine T.F_determinant.ok sc_determinant (fun vs H Q E h => ?_) (fun cdv A outer s H vs Q E hr h => ?_)
  · obtain ⟨p, M, E, w, rfl, _⟩ := h
    rfl
  obtain ⟨p, M, E, w, rfl, hM, hw, he, h0, hb, hl, hw1, q⟩ := h
  have nd := sc_determinant.nd
  refine ⟨_, (pss_cons (ps_asg (pe_call G__cleared hr (by rfl) T.m__cleared T.F__cleared.kp T.b__cleared .nil pass0 (pa_cons (pv 0) pa_nil)) (pg_tup rfl (pgs_cons (pg_name (i := 1) nd rfl (Or.inl rfl)) (pgs_cons (pg_name (i := 2) nd rfl (Or.inl rfl)) pgs_nil))))
    (pss_one (ps_ret (pe_ifExp (pt_cmpR op_eq (pv 1) (pe_callB (show CallR _ _ (rLenSq K) from call_len_seq) (by rfl) T.z_len (by decide +kernel) (pa_cons (pv 0) pa_nil)) (nomark _)) (pv 2) pe_int)))), ?_⟩
  refine ⟨_, rfl, p, M, E, w, rfl, hM, hw, he, h0, hb, hl, hw1, fun t H1 s1 ht => ?_⟩
  obtain ⟨rs, h1, h2⟩ := hM.ex
  refine ⟨t, _, rfl, SqT.of ht, rfl, _, _, rfl, _, _, rfl, rfl, ?_⟩
  refine ⟨_, rfl, _, rfl, p, rs, rfl, .inl (SqL.of (s1 _ _ h1)), rfl, _, rfl, ?_⟩
  have q1 := q H1 s1
  unfold detV at q1
  refine ite2 (fun c => ?_) (fun c => ?_)
  · have c' := of_decide_eq_true c
    rw [V.int.injEq] at c'
    have := h2.1
    rw [if_pos (by omega)] at q1
    exact ⟨_, rfl, q1⟩
  · have c' : ¬ ((clrRank M : Nat) : Int) = (rs.length : Int) := fun z => c (decide_eq_true (congrArg V.int z))
    have := h2.1
    rw [if_neg (by omega)] at q1
    exact q1
def prm : List Int := [2, 3, 5, 7, 11, 13]
def prmAt (i : Nat) : Int := prm.getD i 0
theorem ok_place (T : Tx K mg) : FnOk P w K mg base CX0 2 T.f__place_of T.d__place_of ["value"] (fun vs H Q _ => ∃ i : Nat, vs = [.int (prmAt i)] ∧ i < 6 ∧ Q (.int (i : Int)) H) := by
  have G_is_number := ok_is_number (P := P) (w := w) (base := base) T
  refine T.F__place_of.ok sc__place_of (fun vs H Q E h => ?_) (fun cdv A outer s H vs Q E hr h => ?_)
  · obtain ⟨n, rfl, _⟩ := h
    rfl
  obtain ⟨i, rfl, hi, q⟩ := h
  have nd := sc__place_of.nd
  refine ⟨_, (pss_cons (ps_if (PW.pt (pw_or (pt_not (pt_val (pe_call G_is_number hr (by rfl) T.m_is_number T.F_is_number.kp T.b_is_number .nil pass0 (pa_cons (pv 0) pa_nil)))) (pw_or1 (pt_cmpR (show OpR _ _ (rIn K true) from op_notIn_seq) (pv 0) (pe_glob (v := .ref T.e_PRIMES) (by rfl) T.m_PRIMES rfl) rfl)))) (pss_one ps_never) pss_nil)
    (pss_one (ps_ret (pe_bm PySem.F.plainAttrs_tuple PySem.F.slot_tuple_index PySem.F.type_tuple_index mt_indexT (pe_glob (v := .ref T.e_PRIMES) (by rfl) T.m_PRIMES rfl) (pa_cons (pv 0) pa_nil))))), ?_⟩
  have hx : prm.idxOf (prmAt i) = i := (by decide : ∀ i, i < 6 → prm.idxOf (prmAt i) = i) i hi
  have hm : prmAt i ∈ prm := (by decide : ∀ i, i < 6 → prmAt i ∈ prm) i hi
  have hin : inV (.int (prmAt i)) (prm.map V.int) = true := (by decide : ∀ i, i < 6 → inV (.int (prmAt i)) (prm.map V.int) = true) i hi
  refine ⟨_, rfl, _, rfl, true, rfl, ?_⟩
  refine iteF' (c := !true) rfl ?_
  refine ⟨_, rfl, T.e_PRIMES, prm.map V.int, rfl, .inr (T.q_PRIMES _), rfl, rfl, _, rfl, ?_⟩
  refine iteF' (by show (!inV _ _) = false; rw [hin]; rfl) ?_
  refine ⟨.inr (.inl ⟨rfl, T.ty_PRIMES⟩), _, rfl, T.e_PRIMES, prm, prmAt i, rfl, rfl, T.q_PRIMES _, hm, ?_⟩
  rw [hx]
  exact q
theorem lc_mapSL {K : PySem.W.Frag} {a D : Addr} {xs : List V} {ys : List V} {te : TE} {vs : List Nat} {σ : L2.St} {H0 : Hp} {Qd : Hp → Prop} {i : Nat} (h1 : SqL K H0 a xs) (hl : ys.length = xs.length) (hz : xs.length ≤ 1000) (hD : H0 D = none)
    (hw : ∀ u, wipe ((wipe σ vs).set i (some u)) vs = wipe σ vs) (hs : ∀ (j : Nat) (u y : V) (H : Hp) (k : VK), xs[j]? = some u → ys[j]? = some y → Same H0 H → (∀ H', Same H H' → k y H') → te ((wipe σ vs).set i (some u)) H k)
    (hd : ∀ H, Same H0 H → H D = some (.lst ys) → Qd H) : LcGoal (Itl K a) (gName i) te vs σ H0 D Qd := by
  refine lcm (walk_list (K := K) (a := a) (xs := xs)) ys hl (by omega) hD (fun H' s => s.seq h1) ?_ hd
  rintro t y x H1 H2 hi hy s1 ⟨rfl, hu⟩ k hk
  exact ⟨hw _, hs t x y _ k hu hy s1 fun H' s' => hk H' s'⟩
theorem lc_mapST {K : PySem.W.Frag} {a D : Addr} {xs : List V} {ys : List V} {te : TE} {vs : List Nat} {σ : L2.St} {H0 : Hp} {Qd : Hp → Prop} {i : Nat} (h1 : SqT K H0 a xs) (hl : ys.length = xs.length) (hz : xs.length ≤ 1000) (hD : H0 D = none)
    (hw : ∀ u, wipe ((wipe σ vs).set i (some u)) vs = wipe σ vs) (hs : ∀ (j : Nat) (u y : V) (H : Hp) (k : VK), xs[j]? = some u → ys[j]? = some y → Same H0 H → (∀ H', Same H H' → k y H') → te ((wipe σ vs).set i (some u)) H k)
    (hd : ∀ H, Same H0 H → H D = some (.lst ys) → Qd H) : LcGoal (Itt K a) (gName i) te vs σ H0 D Qd := by
  refine lcm (walk_tup (K := K) (a := a) (xs := xs)) ys hl (by omega) hD (fun H' s => seqT s h1) ?_ hd
  rintro t y x H1 H2 hi hy s1 ⟨rfl, hu⟩ k hk
  exact ⟨hw _, hs t x y _ k hu hy s1 fun H' s' => hk H' s'⟩
def cell (M : List (List Int)) (p q : Nat) : Int := (M.getD p []).getD q 0
def subG (M : List (List Int)) (P : List Nat) : List (List Int) := P.map fun p => P.map fun q => cell M p q
theorem natsV_at {P : List Nat} {j : Nat} {u : V} (h : (natsV P)[j]? = some u) : ∃ p, P[j]? = some p ∧ u = .int ((p : Nat) : Int) := by
  unfold natsV at h
  rw [List.getElem?_map] at h
  obtain ⟨p, hp, rfl⟩ := Option.map_eq_some_iff.mp h
  exact ⟨p, hp, rfl⟩
theorem natsV_len (P : List Nat) : (natsV P).length = P.length := List.length_map ..
/-- the square of a matrix at some places -/
theorem sq_goal {σ : L2.St} {H0 : Hp} {Mt : Addr} {M : List (List Int)} {a D : Addr} {P : List Nat} {i : Nat} {te : TE} {Qd : Hp → Prop} (hM : Mat H0 Mt M) (hl6 : M.length = 6) (hr6 : RowsW 6 M) (hP : ∀ p ∈ P, p < 6) (hz : P.length ≤ 100) (ha : SqL K H0 a (natsV P)) (hD : H0 D = none)
    (hw : ∀ u, wipe ((wipe σ [i]).set i (some u)) [i] = wipe σ [i])
    (hs : ∀ (p : Nat) (H : Hp) (k : VK), p ∈ P → Same H0 H → (∀ t H', Same H H' → (∀ zs, H D = some (.lst zs) → t ≠ D) → H' t = some (.lst ((P.map fun q => cell M p q).map V.int)) → k (.ref t) H') → te ((wipe σ [i]).set i (some (.int (p : Int)))) H k)
    (hd : ∀ H, Same H0 H → Mat H D (subG M P) → Qd H) : LcGoal (Itl K a) (gName i) te [i] σ H0 D Qd := by
  refine lcsD (walk_list (K := K) (a := a) (xs := natsV P)) (fun n y H => ∃ t p, y = V.ref t ∧ t ≠ D ∧ P[n]? = some p ∧ H t = some (.lst ((P.map fun q => cell M p q).map V.int))) (fun n y H1 H2 s1 ⟨t, p, a1, a0, a2, a3⟩ => ⟨t, p, a1, a0, a2, s1 _ _ a3⟩)
    (fun n y H1 zs zs' hz' ⟨t, p, a1, a0, a2, a3⟩ => ⟨t, p, a1, a0, a2, by rw [upd_ne a0]; exact a3⟩) (by rw [natsV_len]; omega) hD (fun H1 s1 => s1.seq ha) ?_ fun ys H1 hl hys s1 hD1 => ?_
  · rintro n x H1 H2 hi s1 ⟨zs, hzs⟩ ⟨rfl, hx⟩ k hk
    obtain ⟨p, hp, rfl⟩ := natsV_at hx
    refine ⟨hw _, hs p _ _ (List.mem_of_getElem? hp) s1 fun t H' s' hn ht => hk _ H' s' ⟨t, p, rfl, hn zs hzs, hp, ht⟩⟩
  · refine hd H1 s1 ⟨ys, hD1, by rw [hl, natsV_len]; unfold subG; rw [List.length_map], fun n r hr => ?_⟩
    obtain ⟨t, p, a1, a0, a2, a3⟩ := hys n r hr
    exact ⟨t, _, a1, by unfold subG; rw [List.getElem?_map, a2]; rfl, a3⟩
theorem ok_square (T : Tx K mg) : FnOk P w K mg base CX0 3 T.f_square_at T.d_square_at ["wedge", "primes"] (fun vs H Q _ => ∃ (p a : Addr) (x : W2) (L : List Nat), vs = [.ref p, .ref a] ∧ WAt K T.C_Wedge H p x ∧ SqL K H a (L.map fun i => V.int (prmAt i)) ∧ (∀ i ∈ L, i < 6) ∧ L.length ≤ 100 ∧ ∀ t H', Same H H' → Mat H' t (subG (wmat x.1) L) → Q (.ref t) H') := by
  have G__place_of := ok_place (P := P) (w := w) (base := base) T
  have G_Wedge_matrix := ok_matrix (P := P) (w := w) (base := base) T
  refine T.F_square_at.ok sc_square_at (fun vs H Q E h => ?_) (fun cdv A outer s H vs Q E hr h => ?_)
  · obtain ⟨p, a, x, L, rfl, _⟩ := h
    rfl
  obtain ⟨p, a, x, L, rfl, hx, ha, h6, hz, q⟩ := h
  have nd := sc_square_at.nd
  refine ⟨_, (pss_cons (ps_asg (pe_lc (own := [("prime", 4)]) (g := (gName 4)) rfl nd (show PI _ _ _ (iList K _) from pi_list (pv 1)) (blkOk_by (own := [("prime", 4)]) (N := N_square_at) (sc := defScope s_square_at) (by decide +kernel)) (fun _ _ _ _ _ => by exact (pg_name (i := 4) nd rfl (Or.inl rfl))) (fun _ _ _ _ _ => by exact pts_nil) (fun _ _ _ _ _ => by exact (pe_call G__place_of hr (by rfl) T.m__place_of T.F__place_of.kp T.b__place_of .nil pass0 (pa_cons (pv 4) pa_nil)))) (pg_name (i := 2) nd rfl (Or.inr rfl)))
    (pss_cons (ps_set (i := 3) nd rfl (Or.inr rfl) (pe_meth0 (pv 0) T.c_Wedge T.a_Wedge_matrix G_Wedge_matrix (hr.mono (by decide)) T.b_Wedge_matrix .nil pass0))
    (pss_one (ps_ret (pe_lc (own := [("p", 5)]) (g := (gName 5)) rfl nd (show PI _ _ _ (iList K _) from pi_list (pv 2)) (blkOk_by (own := [("p", 5)]) (N := N_square_at) (sc := defScope s_square_at) (by decide +kernel)) (fun _ _ _ _ _ => by exact (pg_name (i := 5) nd rfl (Or.inr rfl))) (fun _ _ _ _ _ => by exact pts_nil) (fun _ _ _ _ _ => by exact (pe_lc (own := [("q", 6)]) (g := (gName 6)) rfl nd (show PI _ _ _ (iList K _) from pi_list (pv 2)) (show BlkOk N_square_at { kind := .function, names := [(".0", .local), ("p", .cell), ("matrix", .cell), ("places", .cell)], isGenerator := false, isCoroutine := false } { kind := .function, names := [(".0", .local), ("q", .local), ("matrix", .free), ("p", .free)], isGenerator := false, isCoroutine := false } [("q", 6)] from blkOk_by (by decide +kernel)) (fun _ _ _ _ _ => by exact (pg_name (i := 6) nd rfl (Or.inl rfl))) (fun _ _ _ _ _ => by exact pts_nil) (fun _ _ _ _ _ => by exact (pe_ix (show IxR _ (rIxL K) from ix_list) (pe_ix (show IxR _ (rIxL K) from ix_list) (pv 3) (pv 5) (fun _ _ => rfl)) (pv 6) (fun _ _ => rfl)))))))))), ?_⟩
  refine ⟨_, rfl, a, rfl, ⟨_, ha⟩, fun D hD => ?_⟩
  refine lc_mapSL (ys := natsV L) ha (by rw [natsV_len, List.length_map]) (by rw [List.length_map]; omega) hD (fun u => rfl) (fun j u y H1 k hu hy s1 hk => ?_) fun H1 s1 hD1 => ?_
  · obtain ⟨i, hi, rfl⟩ := natsV_at hy
    rw [List.getElem?_map, hi] at hu
    obtain rfl := Option.some.inj hu
    exact ⟨_, rfl, i, rfl, h6 i (List.mem_of_getElem? hi), hk _ (Same.refl _)⟩
  obtain ⟨dx, t1, t2, e1, e2, e3⟩ := (hx.same s1).ex
  refine ⟨_, rfl, p, dx, _, rfl, e1, wf_mat, p, x, rfl, hx.same s1, fun Mt H2 s2 hM => ?_⟩
  have hD2 : SqL K H2 D (natsV L) := SqL.of (s2 _ _ hD1)
  refine ⟨_, rfl, D, rfl, ⟨_, hD2⟩, fun D3 hD3 => ?_⟩
  refine sq_goal hM (by rw [wmat, wmatN_len]) (wmatN_row _ _) h6 hz hD2 hD3 (fun u => rfl) (fun pp H3 k hp s3 hk => ?_) fun H3 s3 hM3 => q D3 H3 ((s1.trans s2).trans s3) hM3
  have hM3 := hM.same s3
  obtain ⟨rs, g1, g2⟩ := hM3.ex
  have hl6 : (wmat x.1).length = 6 := by rw [wmat, wmatN_len]
  have hp6 := h6 pp hp
  obtain ⟨tr, gr, gr2⟩ := g2.at (i := pp) (by omega)
  have hrow : ((wmat x.1).getD pp []).length = 6 := wmatN_row _ _ _ (getD_mem (by rw [wmatN_len]; exact hp6))
  have hD23 := s3.seq hD2
  refine ⟨_, rfl, D, rfl, ⟨_, hD23⟩, fun D4 hD4 => ?_⟩
  refine lc_mapSL (ys := (L.map fun qq => cell (wmat x.1) pp qq).map V.int) hD23 (by rw [natsV_len, List.length_map, List.length_map]) (by rw [natsV_len]; omega) hD4 (fun u => rfl) (fun j u y H4 kk hu hy s4 hkk => ?_) fun H4 s4 hD4' => ?_
  · obtain ⟨qq, hq, rfl⟩ := natsV_at hu
    rw [List.getElem?_map, List.getElem?_map, hq] at hy
    obtain rfl := Option.some.inj hy
    have hq6 := h6 qq (List.mem_of_getElem? hq)
    exact ⟨_, rfl, _, rfl, _, _, _, _, rfl, rfl, SqL.of (s4 _ _ g1), at_of (j := pp) rfl gr, _, rfl, _, _, _, _, rfl, rfl, SqL.of (s4 _ _ gr2), at_of (j := qq) rfl (getD_map (by omega)), hkk _ (Same.refl _)⟩
  · exact hk D4 H4 s4 (fun zs hzs => (ne_of_none hzs hD4).symm) hD4'
def anchO (M : List (List Int)) (k : Nat) : Option (List Nat) := (chL k).find? fun P => detV (subG M P) != 0
theorem prm_at : ∀ i, i < 6 → (prm.map V.int)[i]? = some (.int (prmAt i)) := fun
  | 0, _ => rfl
  | 1, _ => rfl
  | 2, _ => rfl
  | 3, _ => rfl
  | 4, _ => rfl
  | 5, _ => rfl
  | _ + 6, h => absurd h (by omega)
theorem sub_ent {M : List (List Int)} {E : Nat} {L : List Nat} (h : Ent E M) : Ent E (subG M L) := fun row hr a ha => by
  obtain ⟨i, _, rfl⟩ := List.mem_map.mp hr
  obtain ⟨j, _, rfl⟩ := List.mem_map.mp ha
  unfold cell
  rw [List.getD_eq_getElem?_getD, List.getD_eq_getElem?_getD]
  cases hi : M[i]? with
  | none => exact Nat.pow_pos (by decide)
  | some row =>
    show ((row[j]?).getD 0).natAbs < _
    cases hj : row[j]? with
    | none => exact Nat.pow_pos (by decide)
    | some v => exact h row (List.mem_of_getElem? hi) v (List.mem_of_getElem? hj)
theorem ch_0 : ∀ i, chs 6 0 i = (chL 0)[i]? := chs_of (by decide +kernel)
theorem ch_2 : ∀ i, chs 6 2 i = (chL 2)[i]? := chs_of (by decide +kernel)
theorem ch_4 : ∀ i, chs 6 4 i = (chL 4)[i]? := chs_of (by decide +kernel)
theorem ch_6 : ∀ i, chs 6 6 i = (chL 6)[i]? := chs_of (by decide +kernel)
def spFirst (T : Tx K mg) : Sp := fun vs H Q _ => ∃ (p : Addr) (x : W2) (k : Nat) (R : List Nat), vs = [.ref p, .int (k : Int)] ∧ WAt K T.C_Wedge H p x ∧ RkOk x ∧ (k = 0 ∨ k = 2 ∨ k = 4 ∨ k = 6) ∧ anchO (wmat x.1) k = some R ∧ ∀ t H', Same H H' → SqT K H' t (R.map fun i => V.int (prmAt i)) → Q (.ref t) H'
theorem ok_first (T : Tx K mg) : FnOk P w K mg base CX0 5 T.f__first_anchor T.d__first_anchor ["wedge", "many"] (spFirst T) := by
  have G_determinant := ok_det (P := P) (w := w) (base := base) T
  have G_square_at := ok_square (P := P) (w := w) (base := base) T
  refine T.F__first_anchor.ok sc__first_anchor (fun vs H Q E h => ?_) (fun cdv A outer s H vs Q E hr h => ?_)
  · obtain ⟨p, x, k, R, rfl, _⟩ := h
    rfl
  obtain ⟨p, x, k, R, rfl, hx, hk, h4, hP, q⟩ := h
  have nd := sc__first_anchor.nd
  refine ⟨_, (pss_cons (ps_for PassesOwn.never rfl (pi_comb rfl (by rfl) T.m_combinations (pa_cons (pe_callTy cr_range1 (by rfl) T.z_range (by decide +kernel) (pa_cons (pe_callB (show CallR _ _ (rLenSq K) from call_len_seq) (by rfl) T.z_len (by decide +kernel) (pa_cons (pe_glob (v := .ref T.e_PRIMES) (by rfl) T.m_PRIMES rfl) pa_nil)) pa_nil)) (pa_cons (pv 1) pa_nil))) (pg_name (i := 2) nd rfl (Or.inl rfl)) (pss_cons (ps_setLc (i := 3) (own := [("place", 4)]) (g := (gName 4)) rfl nd rfl rfl (sw_true rfl rfl rfl (by decide +kernel)) (show PI _ _ _ (iTup K _) from pi_tup (pv 2)) (blkOk_by (own := [("place", 4)]) (N := N__first_anchor) (sc := defScope s__first_anchor) (by decide +kernel)) (fun _ _ _ _ _ => by exact (pg_name (i := 4) nd rfl (Or.inl rfl))) (fun _ _ _ _ _ => by exact pts_nil) (fun _ _ _ _ _ => by exact (pe_ix (show IxR _ (rIxT K) from ix_tup) (pe_glob (v := .ref T.e_PRIMES) (by rfl) T.m_PRIMES rfl) (pv 4) (fun _ _ => rfl))))
    (pss_one (ps_if (pt_cmpR op_ne (pe_call G_determinant (hr.mono (by decide)) (by rfl) T.m_determinant T.F_determinant.kp T.b_determinant .nil pass0 (pa_cons (pe_call G_square_at (hr.mono (by decide)) (by rfl) T.m_square_at T.F_square_at.kp T.b_square_at .nil pass0 (pa_cons (pv 0) (pa_cons (pv 3) pa_nil))) pa_nil)) pe_int (nomark _)) (pss_one (ps_ret (pe_callTy (show CallR _ _ (rTup1 K) from call_tup1) (by rfl) T.z_tuple (by decide +kernel) (pa_cons (pv 3) pa_nil)))) pss_nil))))
    (pss_one (ps_ret pe_non))), ?_⟩
  have hch : ∀ i, chs 6 k i = (chL k)[i]? := by
    rcases h4 with rfl | rfl | rfl | rfl
    · exact ch_0
    · exact ch_2
    · exact ch_4
    · exact ch_6
  have h7 : k < 7 := by omega
  have hk100 : k ≤ 1000 := by omega
  refine ⟨T.e_PRIMES, prm.map V.int, rfl, .inr (T.q_PRIMES _), _, rfl, fun r0 hr0 => ?_⟩
  have s0 : Same H (upd H r0 (.rng 0 ((prm.map V.int).length : Int))) := Same.new hr0
  refine ⟨_, rfl, r0, 6, k, rfl, upd_same, by decide, hk100, ?_⟩
  have hxs : SqT K H T.e_PRIMES (prm.map V.int) := T.q_PRIMES H
  refine for_it (walk_comb hch) (fun i σ' H' => (∃ b c d, σ' = [some (.ref p), some (.int (k : Int)), b, c, d]) ∧ Same H H' ∧ (chL k).find? (fun P => detV (subG (wmat x.1) P) != 0) = ((chL k).drop i).find? (fun P => detV (subG (wmat x.1) P) != 0)) ⟨⟨_, _, _, rfl⟩, s0, rfl⟩ (fun _ _ _ _ _ => trivial) ?_ ?_
  · rintro i x1 σ' H1 H2 hi ⟨⟨b, c, d, rfl⟩, s1, hf⟩ ⟨t, js, rfl, ht, rfl, hjs⟩
    have s2 : Same H1 (upd H1 t (.tup (natsV js))) := Same.new ht
    have hmem : js ∈ chL k := List.mem_of_getElem? hjs
    obtain ⟨hjl, hj6⟩ := ch_len k h7 js hmem
    have hsq : SqT K (upd H1 t (.tup (natsV js))) t (natsV js) := .inl (.inl upd_same)
    show tSeq _ _ _ _ _

    refine ⟨_, rfl, t, rfl, ⟨_, hsq⟩, fun D hD => ?_⟩
    refine lc_mapST (ys := js.map fun i => V.int (prmAt i)) hsq (by rw [natsV_len, List.length_map]) (by rw [natsV_len]; omega) hD (fun u => rfl) (fun j u y H3 kk hu hy s3 hkk => ?_) fun H3 s3 hD3 => ?_
    · obtain ⟨q0, hq0, rfl⟩ := natsV_at hu
      rw [List.getElem?_map, hq0] at hy
      obtain rfl := Option.some.inj hy
      exact ⟨_, rfl, _, _, _, _, rfl, rfl, T.q_PRIMES _, at_of (j := q0) rfl (prm_at q0 (hj6 q0 (List.mem_of_getElem? hq0))), hkk _ (Same.refl _)⟩
    · have sx : Same H H3 := (s1.trans s2).trans s3
      refine ⟨_, rfl, _, rfl, p, D, x, js, rfl, hx.same sx, SqL.of hD3, hj6, by omega, fun M H4 s4 hM => ?_⟩
      have hrow : RowsW k (subG (wmat x.1) js) := fun row hr => by
        obtain ⟨a, _, rfl⟩ := List.mem_map.mp hr
        rw [List.length_map, hjl]
      have hent : Ent 100 (subG (wmat x.1) js) := sub_ent (wmat_ent hk 15)
      have hsl : (subG (wmat x.1) js).length = k := by rw [subG, List.length_map, hjl]
      refine ⟨M, _, 100, k, rfl, hM, hrow, hent, by decide, by rw [hsl, Nat.min_self]; exact Nat.lt_of_le_of_lt (bk_le (show k ≤ 6 by omega)) (by decide), by omega, by omega, fun H5 s5 => ?_⟩
      refine ⟨rfl, _, rfl, ?_⟩
      have hd : (chL k).drop i = js :: (chL k).drop (i + 1) := by
        rw [List.drop_eq_getElem_cons hi]
        rw [List.getElem?_eq_getElem hi] at hjs
        rw [Option.some.inj hjs]
      rw [hd, List.find?_cons] at hf
      refine ite2 (fun c1 => ?_) (fun c1 => ?_)
      · have c2 := ne_zero c1
        rw [show (detV (subG (wmat x.1) js) != 0) = true by simpa using c2] at hf
        rw [anchO, hf] at hP
        obtain rfl := Option.some.inj hP
        exact ⟨_, rfl, D, _, rfl, .inl (SqL.of (s5 _ _ (s4 _ _ hD3))), fun t2 H6 s6 h6 => q t2 H6 (((sx.trans s4).trans s5).trans s6) h6⟩
      · have c2 := eq_zero c1
        rw [show (detV (subG (wmat x.1) js) != 0) = false by simpa using c2] at hf
        exact ⟨⟨_, _, _, rfl⟩, (sx.trans s4).trans s5, hf⟩
  · rintro σ' H' ⟨_, s1, hf⟩
    rw [anchO] at hP
    rw [hP, List.drop_length] at hf
    cases hf
end
end TL.W
namespace TL.W
open TL
open PySem L2

/-! ### steps of a reading -/
local macro_rules | `(tactic| walk_at "hp") => `(tactic| first | assumption | exact upd_same | (refine (upd_ne (by first | assumption | (exact Ne.symm (by assumption)))).trans ?_; walk_at "hp"))
local macro_rules | `(tactic| walk_at "ok") => `(tactic| first | (exact Or.inr ⟨by decide, by decide⟩) | (exact ⟨by decide, by decide⟩) | (exact ⟨by decide, by decide, by decide⟩) | (show _ ≠ _; omega) | (show _ ≠ _; decide) | (exact Or.inl ⟨by omega, by omega⟩) | decide)
local macro_rules | `(tactic| walk_at "sq") => `(tactic| first | assumption | exact SqL.of (by walk_at "hp") | exact SqT.of (by walk_at "hp"))
local macro_rules | `(tactic| walk_at "ty") => `(tactic| first | refine ⟨_, _, Value.type "int", Value.type "list", false, rfl, ClsV.ty _, TyX.base (TyOf.int _), kt_int_list, ?_⟩ | refine ⟨_, _, Value.type "bool", Value.type "list", false, rfl, ClsV.ty _, TyX.base (TyOf.bl _), kt_bool_list, ?_⟩ | refine ⟨_, _, Value.type "str", Value.type "list", false, rfl, ClsV.ty _, TyX.base (TyOf.str _), kt_str_list, ?_⟩ | refine ⟨_, _, Value.type "NoneType", Value.type "list", false, rfl, ClsV.ty _, TyX.base TyOf.non, kt_NoneType_list, ?_⟩ | refine ⟨_, _, Value.type "list", Value.type "list", true, rfl, ClsV.ty _, tyx_L (by walk_at "sq"), kt_list_list, ?_⟩ | refine ⟨_, _, Value.type "tuple", Value.type "list", false, rfl, ClsV.ty _, tyx_T (by walk_at "sq"), kt_tuple_list, ?_⟩ | refine ⟨_, _, Value.type "int", Value.type "tuple", false, rfl, ClsV.ty _, TyX.base (TyOf.int _), kt_int_tuple, ?_⟩ | refine ⟨_, _, Value.type "bool", Value.type "tuple", false, rfl, ClsV.ty _, TyX.base (TyOf.bl _), kt_bool_tuple, ?_⟩ | refine ⟨_, _, Value.type "str", Value.type "tuple", false, rfl, ClsV.ty _, TyX.base (TyOf.str _), kt_str_tuple, ?_⟩ | refine ⟨_, _, Value.type "NoneType", Value.type "tuple", false, rfl, ClsV.ty _, TyX.base TyOf.non, kt_NoneType_tuple, ?_⟩ | refine ⟨_, _, Value.type "list", Value.type "tuple", false, rfl, ClsV.ty _, tyx_L (by walk_at "sq"), kt_list_tuple, ?_⟩ | refine ⟨_, _, Value.type "tuple", Value.type "tuple", true, rfl, ClsV.ty _, tyx_T (by walk_at "sq"), kt_tuple_tuple, ?_⟩ | refine ⟨_, _, Value.type "int", Value.type "bool", false, rfl, ClsV.ty _, TyX.base (TyOf.int _), kt_int_bool, ?_⟩ | refine ⟨_, _, Value.type "bool", Value.type "bool", true, rfl, ClsV.ty _, TyX.base (TyOf.bl _), kt_bool_bool, ?_⟩ | refine ⟨_, _, Value.type "str", Value.type "bool", false, rfl, ClsV.ty _, TyX.base (TyOf.str _), kt_str_bool, ?_⟩ | refine ⟨_, _, Value.type "NoneType", Value.type "bool", false, rfl, ClsV.ty _, TyX.base TyOf.non, kt_NoneType_bool, ?_⟩ | refine ⟨_, _, Value.type "list", Value.type "bool", false, rfl, ClsV.ty _, tyx_L (by walk_at "sq"), kt_list_bool, ?_⟩ | refine ⟨_, _, Value.type "tuple", Value.type "bool", false, rfl, ClsV.ty _, tyx_T (by walk_at "sq"), kt_tuple_bool, ?_⟩ | refine ⟨_, _, Value.type "int", Value.type "int", true, rfl, ClsV.ty _, TyX.base (TyOf.int _), kt_int_int, ?_⟩ | refine ⟨_, _, Value.type "bool", Value.type "int", true, rfl, ClsV.ty _, TyX.base (TyOf.bl _), kt_bool_int, ?_⟩ | refine ⟨_, _, Value.type "str", Value.type "int", false, rfl, ClsV.ty _, TyX.base (TyOf.str _), kt_str_int, ?_⟩ | refine ⟨_, _, Value.type "NoneType", Value.type "int", false, rfl, ClsV.ty _, TyX.base TyOf.non, kt_NoneType_int, ?_⟩ | refine ⟨_, _, Value.type "list", Value.type "int", false, rfl, ClsV.ty _, tyx_L (by walk_at "sq"), kt_list_int, ?_⟩ | refine ⟨_, _, Value.type "tuple", Value.type "int", false, rfl, ClsV.ty _, tyx_T (by walk_at "sq"), kt_tuple_int, ?_⟩ | refine ⟨_, _, Value.type "int", Value.type "str", false, rfl, ClsV.ty _, TyX.base (TyOf.int _), kt_int_str, ?_⟩ | refine ⟨_, _, Value.type "bool", Value.type "str", false, rfl, ClsV.ty _, TyX.base (TyOf.bl _), kt_bool_str, ?_⟩ | refine ⟨_, _, Value.type "str", Value.type "str", true, rfl, ClsV.ty _, TyX.base (TyOf.str _), kt_str_str, ?_⟩ | refine ⟨_, _, Value.type "NoneType", Value.type "str", false, rfl, ClsV.ty _, TyX.base TyOf.non, kt_NoneType_str, ?_⟩ | refine ⟨_, _, Value.type "list", Value.type "str", false, rfl, ClsV.ty _, tyx_L (by walk_at "sq"), kt_list_str, ?_⟩ | refine ⟨_, _, Value.type "tuple", Value.type "str", false, rfl, ClsV.ty _, tyx_T (by walk_at "sq"), kt_tuple_str, ?_⟩)
local macro_rules | `(tactic| walk_at "go1") => `(tactic| first
  | (refine ⟨_, rfl, ?_⟩)
  | (refine ⟨_, _, rfl, rfl, ?_⟩)
  | (refine ⟨_, _, _, _, rfl, rfl, SqL.of (by walk_at "hp"), rfl, ?_⟩)
  | (refine Or.inl ⟨_, rfl, ?_⟩)
  | (refine ⟨rfl, ?_⟩)
  | (refine ⟨_, _, rfl, .inl (SqL.of (by walk_at "hp")), ?_⟩)
  | (refine ⟨_, _, rfl, Or.inl (by assumption), ?_⟩)
  | (refine ⟨_, _, rfl, Or.inr (by assumption), ?_⟩)
  | (refine ⟨(by walk_at "ok"), ?_⟩)
  | (refine ⟨_, _, _, _, rfl, rfl, (by walk_at "hp"), rfl, ?_⟩))
local macro_rules | `(tactic| walk_at "go") => `(tactic| repeat (walk_at "go1"))
local macro_rules | `(tactic| walk_at "gt") => `(tactic| repeat (first | walk_at "go1" | walk_at "ty"))

/-- the skew table of a wedge's numbers -/
def gW (ps : List Int) (i j : Nat) : Int := if i < j ∧ j < 6 then ps.getD (PR.idxOf (i, j)) 0 else if j < i ∧ i < 6 then - ps.getD (PR.idxOf (j, i)) 0 else 0
theorem gW_skew (ps : List Int) : Skew 6 (gW ps) where
  sk := fun i j => by
    unfold gW
    by_cases h1 : i < j ∧ j < 6
    · rw [if_pos h1, if_neg (by omega), if_pos h1]
    · by_cases h2 : j < i ∧ i < 6
      · rw [if_pos h2, if_neg h1, if_pos h2]
        omega
      · rw [if_neg h2, if_neg h1, if_neg h1, if_neg h2]
        rfl
  out := fun i j hj => by
    unfold gW
    rw [if_neg (by omega)]
    by_cases h2 : j < i ∧ i < 6
    · omega
    · rw [if_neg h2]
theorem gW_map {ps : List Int} (h : ps.length = 15) : PR.map (fun p => gW ps p.1 p.2) = ps := by
  match ps, h with
  | [a, b, c, d, e, f, g, h, i, j, k, l, m, n, o], _ => rfl
theorem wmat_gW {ps : List Int} (h : ps.length = 15) : wmat ps = sqN 6 (gW ps) := by
  have := wmat_ct (g := gW ps) (fun i => (gW_skew ps).self i) (fun i j => (gW_skew ps).sk i j)
  rw [gW_map h] at this
  exact this
theorem cell_sq {c : Nat → Nat → Int} {p q : Nat} (hp : p < 6) (hq : q < 6) : cell (sqN 6 c) p q = c p q := by
  unfold cell sqN
  rw [List.getD_eq_getElem?_getD, List.getD_eq_getElem?_getD, List.getElem?_map, List.getElem?_range hp]
  show (((List.range 6).map fun j => c p j)[q]?).getD 0 = _
  rw [List.getElem?_map, List.getElem?_range hq]
  rfl
theorem subG_M {c : Nat → Nat → Int} {L : List Nat} (h : ∀ p ∈ L, p < 6) : subG (sqN 6 c) L = subM c L := List.map_congr_left fun p hp => List.map_congr_left fun q hq => cell_sq (h p hp) (h q hq)
theorem detV_nz (M : List (List Int)) (w : Nat) (hw : RowsW w M) : detV M ≠ 0 ↔ clrRank M = M.length := by
  obtain ⟨B, C, hp, h1, h2, h3, h4, h5, sg, hs, hd, _⟩ := clr_struct hw
  unfold detV
  constructor
  · intro h
    by_cases e : clrRank M = M.length
    · exact e
    · rw [if_neg e] at h
      exact absurd rfl h
  · intro e
    rw [if_pos e, hd]
    rcases hs with rfl | rfl
    · rw [Int.one_mul]; exact h4
    · intro z; exact h4 (by omega)
theorem sub_rows (c : Nat → Nat → Int) (L : List Nat) : RowsW L.length (subM c L) := fun row hr => by
  obtain ⟨a, _, rfl⟩ := List.mem_map.mp hr
  rw [List.length_map]
theorem det_pf {c : Nat → Nat → Int} (h : Skew 6 c) {k : Nat} (hk : k = 0 ∨ k = 2 ∨ k = 4 ∨ k = 6) {L : List Nat} (hL : L ∈ chL k) : (detV (subG (sqN 6 c) L) != 0) = (Pf c L != 0) := by
  obtain ⟨hl, h6⟩ := ch_len k (by omega) L hL
  rw [subG_M h6]
  have e1 := detV_nz _ _ (sub_rows c L)
  have e2 := sub_full h.sk (P := L) (by omega)
  rw [show (subM c L).length = L.length by rw [subM, List.length_map]] at e1
  have : detV (subM c L) ≠ 0 ↔ Pf c L ≠ 0 := e1.trans e2
  rw [Bool.eq_iff_iff, bne_iff_ne, bne_iff_ne]
  exact this
theorem find_congr {f g : List Nat → Bool} : ∀ {l : List (List Nat)}, (∀ x ∈ l, f x = g x) → l.find? f = l.find? g
  | [], _ => rfl
  | x :: xs, h => by
    rw [List.find?_cons, List.find?_cons, h x (List.mem_cons_self ..), find_congr fun y hy => h y (List.mem_cons_of_mem _ hy)]
theorem ow4 (c : Nat → Nat → Int) : 2 * ow c = 0 ∨ 2 * ow c = 2 ∨ 2 * ow c = 4 ∨ 2 * ow c = 6 := by
  have := ow_le c
  omega
theorem anchO_eq {ps : List Int} (h : ps.length = 15) : anchO (wmat ps) (2 * ow (gW ps)) = some (anch (gW ps)) := by
  rw [anchO, wmat_gW h, ← anch_some]
  exact find_congr fun L hL => det_pf (gW_skew ps) (ow4 _) hL
theorem rank_gW {ps : List Int} (h : ps.length = 15) : clrRank (wmat ps) = 2 * ow (gW ps) := by
  rw [wmat_gW h]
  exact rank_ow (gW_skew ps)
section
variable {P : Program} {w : World} {K : PySem.W.Frag} {mg : Str → Option Value} {base : Heap}
-- [0=wedge]
def spAnchor (T : Tx K mg) : Sp := fun vs H Q _ => ∃ (p : Addr) (x : W2), vs = [.ref p] ∧ WAt K T.C_Wedge H p x ∧ RkOk x ∧ ∀ t H', Same H H' → SqT K H' t ((anch (gW x.1)).map fun i => V.int (prmAt i)) → Q (.ref t) H'
theorem ok_anchor (T : Tx K mg) : FnOk P w K mg base CX0 6 T.f_anchor_of T.d_anchor_of ["wedge"] (spAnchor T) := by
  have G__first_anchor := ok_first (P := P) (w := w) (base := base) T
  have G_Wedge_rank := ok_rankW (P := P) (w := w) (base := base) T
  refine T.F_anchor_of.ok sc_anchor_of (fun vs H Q E h => ?_) (fun cdv A outer s H vs Q E hr h => ?_)
  · obtain ⟨p, x, rfl, _⟩ := h
    rfl
  obtain ⟨p, x, rfl, hx, hk, q⟩ := h
  have nd := sc_anchor_of.nd
  have h15 : x.1.length = 15 := hx.ok.1
  obtain ⟨dx, t1, t2, e1, e2, e3⟩ := hx.ex
  refine ⟨_, (pss_one (ps_ret (pe_call G__first_anchor hr (by rfl) T.m__first_anchor T.F__first_anchor.kp T.b__first_anchor .nil pass0 (pa_cons (pv 0) (pa_cons (pe_prop (pv 0) T.c_Wedge T.P_Wedge_rank G_Wedge_rank hr T.b_Wedge_rank .nil pass0 rfl) pa_nil))))), ?_⟩
  refine ⟨_, rfl, _, rfl, p, dx, _, rfl, e1, p, x, rfl, hx, hk, fun H1 s1 => ?_⟩
  refine ⟨p, x, 2 * ow (gW x.1), anch (gW x.1), by rw [rank_gW h15]; rfl, hx.same s1, hk, ow4 _, anchO_eq h15, fun t H2 s2 ht => q t H2 (s1.trans s2) ht⟩
end
end TL.W
namespace TL
open PySem PySem.Spec PyProof.Rows L2
/-! ### kinds of values -/
inductive Kn | int | bool | str | non | list | tup | ins
deriving DecidableEq
def Kn.ty (C : Addr) : Kn → Value
  | .int => .type "int"
  | .bool => .type "bool"
  | .str => .type "str"
  | .non => .type "NoneType"
  | .list => .type "list"
  | .tup => .type "tuple"
  | .ins => .ref C
def Kn.isInt : Kn → Bool
  | .int => true
  | .bool => true
  | _ => false
def Kn.isBool : Kn → Bool
  | .bool => true
  | _ => false
def Kn.isStr : Kn → Bool
  | .str => true
  | _ => false
def Kn.isList : Kn → Bool
  | .list => true
  | _ => false
def Kn.isTup : Kn → Bool
  | .tup => true
  | _ => false
def Kn.isNum (k : Kn) : Bool := k.isInt && !k.isBool
/-- an own class that is none of these -/
structure NoCls (K : PySem.W.Frag) (C : Addr) : Prop where
  int : PySem.W.mroIn K C (.type "int") = some false
  bool : PySem.W.mroIn K C (.type "bool") = some false
  str : PySem.W.mroIn K C (.type "str") = some false
  list : PySem.W.mroIn K C (.type "list") = some false
  tup : PySem.W.mroIn K C (.type "tuple") = some false
section
variable {K : PySem.W.Frag} {C : Addr}
theorem kit_ref {T : String} {b : Bool} (h : PySem.W.mroIn K C (.type T) = some b) (hm : PySem.W.kitMeta T = true) : PySem.W.kitOne K (.ref C) (.type T) = some b := by
  unfold PySem.W.kitOne
  have hn : ¬ (Value.ref C == Value.type T) = true := fun e => by cases (beq_iff_eq.mp e)
  rw [if_neg hn]
  show (if PySem.W.kitMeta T = true then PySem.W.subIn K (.ref C) (.type T) else none) = some b
  rw [if_pos hm]
  exact h
theorem kn_int (J : NoCls K C) : ∀ k : Kn, PySem.W.kitOne K (k.ty C) (.type "int") = some k.isInt
  | .int => kt_int_int
  | .bool => kt_bool_int
  | .str => kt_str_int
  | .non => kt_NoneType_int
  | .list => kt_list_int
  | .tup => kt_tuple_int
  | .ins => kit_ref J.int (by decide +kernel)
theorem kn_bool (J : NoCls K C) : ∀ k : Kn, PySem.W.kitOne K (k.ty C) (.type "bool") = some k.isBool
  | .int => kt_int_bool
  | .bool => kt_bool_bool
  | .str => kt_str_bool
  | .non => kt_NoneType_bool
  | .list => kt_list_bool
  | .tup => kt_tuple_bool
  | .ins => kit_ref J.bool (by decide +kernel)
theorem kn_str (J : NoCls K C) : ∀ k : Kn, PySem.W.kitOne K (k.ty C) (.type "str") = some k.isStr
  | .int => kt_int_str
  | .bool => kt_bool_str
  | .str => kt_str_str
  | .non => kt_NoneType_str
  | .list => kt_list_str
  | .tup => kt_tuple_str
  | .ins => kit_ref J.str (by decide +kernel)
theorem kn_list (J : NoCls K C) : ∀ k : Kn, PySem.W.kitOne K (k.ty C) (.type "list") = some k.isList
  | .int => kt_int_list
  | .bool => kt_bool_list
  | .str => kt_str_list
  | .non => kt_NoneType_list
  | .list => kt_list_list
  | .tup => kt_tuple_list
  | .ins => kit_ref J.list (by decide +kernel)
theorem kn_tup (J : NoCls K C) : ∀ k : Kn, PySem.W.kitOne K (k.ty C) (.type "tuple") = some k.isTup
  | .int => kt_int_tuple
  | .bool => kt_bool_tuple
  | .str => kt_str_tuple
  | .non => kt_NoneType_tuple
  | .list => kt_list_tuple
  | .tup => kt_tuple_tuple
  | .ins => kit_ref J.tup (by decide +kernel)
/-- isinstance(x, (a, b)) -/
theorem kit_two {t a b : Value} {x y : Bool} (h1 : PySem.W.kitOne K t a = some x) (h2 : PySem.W.kitOne K t b = some y) : PySem.W.kitAny K t [a, b] = some (x || y) := by
  refine kitAny_cons h1 (fun e => ?_) (fun e => by rw [e]; rfl)
  subst e
  refine kitAny_cons h2 (fun e => ?_) (fun e => by rw [e]; rfl)
  subst e
  rfl
theorem kn_lt (J : NoCls K C) (k : Kn) : PySem.W.kitAny K (k.ty C) [.type "list", .type "tuple"] = some (k.isList || k.isTup) := kit_two (kn_list J k) (kn_tup J k)
end
section
variable {K : PySem.W.Frag} {C : Addr} {H H' : Hp} {v : V}
def KnV (K : PySem.W.Frag) (C : Addr) (H : Hp) (v : V) (k : Kn) : Prop := TyX K H v (k.ty C)
theorem KnV.i {n : Int} : KnV K C H (.int n) .int := .base (.int n)
theorem KnV.b {x : Bool} : KnV K C H (.bl x) .bool := .base (.bl x)
theorem KnV.s {x : Str} : KnV K C H (.str x) .str := .base (.str x)
theorem KnV.n : KnV K C H .non .non := .base .non
theorem KnV.l {a : Addr} {xs : List V} (h : SqL K H a xs) : KnV K C H (.ref a) .list := tyx_L h
theorem KnV.t {a : Addr} {xs : List V} (h : SqT K H a xs) : KnV K C H (.ref a) .tup := tyx_T h
theorem KnV.o {a dx : Addr} {fs : List (Str × V)} (e : H a = some (.ins C dx fs)) (cl : Cls K C) (ha : PySem.W.findIn K (.ref C) "__class__" = some (some (.builtin "object.__class__")))
    (hn : PySem.W.specialIn K (.builtin "object.__class__") "__get__" = some (some (.builtin "getset_descriptor.__get__"))) (htk : PySem.W.takesIn K (.builtin "object.__class__") = some true) (hm : PySem.W.mroIn K C (.type "object") = some true) : KnV K C H (.ref a) .ins := .base (.ins e cl ha hn htk hm)
end
end TL
namespace TL
open PySem L2

/-! ### steps of a reading -/
local macro_rules | `(tactic| walk_at "hp") => `(tactic| first | assumption | exact upd_same | (refine (upd_ne (by first | assumption | (exact Ne.symm (by assumption)))).trans ?_; walk_at "hp"))
local macro_rules | `(tactic| walk_at "ok") => `(tactic| first | (exact Or.inr ⟨by decide, by decide⟩) | (exact ⟨by decide, by decide⟩) | (exact ⟨by decide, by decide, by decide⟩) | (show _ ≠ _; omega) | (show _ ≠ _; decide) | (exact Or.inl ⟨by omega, by omega⟩) | decide)
local macro_rules | `(tactic| walk_at "sq") => `(tactic| first | assumption | exact SqL.of (by walk_at "hp") | exact SqT.of (by walk_at "hp"))
local macro_rules | `(tactic| walk_at "ty") => `(tactic| first | refine ⟨_, _, Value.type "int", Value.type "list", false, rfl, ClsV.ty _, TyX.base (TyOf.int _), kt_int_list, ?_⟩ | refine ⟨_, _, Value.type "bool", Value.type "list", false, rfl, ClsV.ty _, TyX.base (TyOf.bl _), kt_bool_list, ?_⟩ | refine ⟨_, _, Value.type "str", Value.type "list", false, rfl, ClsV.ty _, TyX.base (TyOf.str _), kt_str_list, ?_⟩ | refine ⟨_, _, Value.type "NoneType", Value.type "list", false, rfl, ClsV.ty _, TyX.base TyOf.non, kt_NoneType_list, ?_⟩ | refine ⟨_, _, Value.type "list", Value.type "list", true, rfl, ClsV.ty _, tyx_L (by walk_at "sq"), kt_list_list, ?_⟩ | refine ⟨_, _, Value.type "tuple", Value.type "list", false, rfl, ClsV.ty _, tyx_T (by walk_at "sq"), kt_tuple_list, ?_⟩ | refine ⟨_, _, Value.type "int", Value.type "tuple", false, rfl, ClsV.ty _, TyX.base (TyOf.int _), kt_int_tuple, ?_⟩ | refine ⟨_, _, Value.type "bool", Value.type "tuple", false, rfl, ClsV.ty _, TyX.base (TyOf.bl _), kt_bool_tuple, ?_⟩ | refine ⟨_, _, Value.type "str", Value.type "tuple", false, rfl, ClsV.ty _, TyX.base (TyOf.str _), kt_str_tuple, ?_⟩ | refine ⟨_, _, Value.type "NoneType", Value.type "tuple", false, rfl, ClsV.ty _, TyX.base TyOf.non, kt_NoneType_tuple, ?_⟩ | refine ⟨_, _, Value.type "list", Value.type "tuple", false, rfl, ClsV.ty _, tyx_L (by walk_at "sq"), kt_list_tuple, ?_⟩ | refine ⟨_, _, Value.type "tuple", Value.type "tuple", true, rfl, ClsV.ty _, tyx_T (by walk_at "sq"), kt_tuple_tuple, ?_⟩ | refine ⟨_, _, Value.type "int", Value.type "bool", false, rfl, ClsV.ty _, TyX.base (TyOf.int _), kt_int_bool, ?_⟩ | refine ⟨_, _, Value.type "bool", Value.type "bool", true, rfl, ClsV.ty _, TyX.base (TyOf.bl _), kt_bool_bool, ?_⟩ | refine ⟨_, _, Value.type "str", Value.type "bool", false, rfl, ClsV.ty _, TyX.base (TyOf.str _), kt_str_bool, ?_⟩ | refine ⟨_, _, Value.type "NoneType", Value.type "bool", false, rfl, ClsV.ty _, TyX.base TyOf.non, kt_NoneType_bool, ?_⟩ | refine ⟨_, _, Value.type "list", Value.type "bool", false, rfl, ClsV.ty _, tyx_L (by walk_at "sq"), kt_list_bool, ?_⟩ | refine ⟨_, _, Value.type "tuple", Value.type "bool", false, rfl, ClsV.ty _, tyx_T (by walk_at "sq"), kt_tuple_bool, ?_⟩ | refine ⟨_, _, Value.type "int", Value.type "int", true, rfl, ClsV.ty _, TyX.base (TyOf.int _), kt_int_int, ?_⟩ | refine ⟨_, _, Value.type "bool", Value.type "int", true, rfl, ClsV.ty _, TyX.base (TyOf.bl _), kt_bool_int, ?_⟩ | refine ⟨_, _, Value.type "str", Value.type "int", false, rfl, ClsV.ty _, TyX.base (TyOf.str _), kt_str_int, ?_⟩ | refine ⟨_, _, Value.type "NoneType", Value.type "int", false, rfl, ClsV.ty _, TyX.base TyOf.non, kt_NoneType_int, ?_⟩ | refine ⟨_, _, Value.type "list", Value.type "int", false, rfl, ClsV.ty _, tyx_L (by walk_at "sq"), kt_list_int, ?_⟩ | refine ⟨_, _, Value.type "tuple", Value.type "int", false, rfl, ClsV.ty _, tyx_T (by walk_at "sq"), kt_tuple_int, ?_⟩ | refine ⟨_, _, Value.type "int", Value.type "str", false, rfl, ClsV.ty _, TyX.base (TyOf.int _), kt_int_str, ?_⟩ | refine ⟨_, _, Value.type "bool", Value.type "str", false, rfl, ClsV.ty _, TyX.base (TyOf.bl _), kt_bool_str, ?_⟩ | refine ⟨_, _, Value.type "str", Value.type "str", true, rfl, ClsV.ty _, TyX.base (TyOf.str _), kt_str_str, ?_⟩ | refine ⟨_, _, Value.type "NoneType", Value.type "str", false, rfl, ClsV.ty _, TyX.base TyOf.non, kt_NoneType_str, ?_⟩ | refine ⟨_, _, Value.type "list", Value.type "str", false, rfl, ClsV.ty _, tyx_L (by walk_at "sq"), kt_list_str, ?_⟩ | refine ⟨_, _, Value.type "tuple", Value.type "str", false, rfl, ClsV.ty _, tyx_T (by walk_at "sq"), kt_tuple_str, ?_⟩)
local macro_rules | `(tactic| walk_at "go1") => `(tactic| first
  | (refine ⟨_, rfl, ?_⟩)
  | (refine ⟨_, _, rfl, rfl, ?_⟩)
  | (refine ⟨_, _, _, _, rfl, rfl, SqL.of (by walk_at "hp"), rfl, ?_⟩)
  | (refine Or.inl ⟨_, rfl, ?_⟩)
  | (refine ⟨rfl, ?_⟩)
  | (refine ⟨_, _, rfl, .inl (SqL.of (by walk_at "hp")), ?_⟩)
  | (refine ⟨_, _, rfl, Or.inl (by assumption), ?_⟩)
  | (refine ⟨_, _, rfl, Or.inr (by assumption), ?_⟩)
  | (refine ⟨(by walk_at "ok"), ?_⟩)
  | (refine ⟨_, _, _, _, rfl, rfl, (by walk_at "hp"), rfl, ?_⟩))
local macro_rules | `(tactic| walk_at "go") => `(tactic| repeat (walk_at "go1"))
local macro_rules | `(tactic| walk_at "gt") => `(tactic| repeat (first | walk_at "go1" | walk_at "ty"))

section
variable {P : Program} {w : World} {K : PySem.W.Frag} {mg : Str → Option Value} {base : Heap}
theorem Tx.nc (T : Tx K mg) : NoCls K T.C_Wedge := ⟨T.jInt, T.jBool, T.jStr, T.jList, T.jTuple⟩
def spNumK (K : PySem.W.Frag) (C : Addr) : Sp := fun vs H Q _ => ∃ (v : V) (k : Kn), vs = [v] ∧ KnV K C H v k ∧ Q (.bl k.isNum) H
theorem ok_numK (T : Tx K mg) : FnOk P w K mg base CX0 1 T.f_is_number T.d_is_number ["value"] (spNumK K T.C_Wedge) := by
  refine T.F_is_number.ok sc_is_number (fun vs H Q E h => ?_) (fun cdv A outer s H vs Q E hr h => ?_)
  · obtain ⟨v, k, rfl, _⟩ := h
    rfl
  obtain ⟨v, k, rfl, hk, q⟩ := h
  refine ⟨_, (pss_one (ps_ret (pe_and (pe_callB (show CallR _ _ (rIsi K) from call_isi) (by rfl) T.z_isinstance (by decide +kernel) (pa_cons (pv 0) (pa_cons (pe_bltn (v := .ty "int") (u := .type "int") (by rfl) T.z_int (by decide +kernel) rfl) pa_nil))) (pe_one (pe_not (pe_callB (show CallR _ _ (rIsi K) from call_isi) (by rfl) T.z_isinstance (by decide +kernel) (pa_cons (pv 0) (pa_cons (pe_bltn (v := .ty "bool") (u := .type "bool") (by rfl) T.z_bool (by decide +kernel) rfl) pa_nil)))))))), ?_⟩
  refine ⟨_, rfl, _, _, _, _, _, rfl, ClsV.ty _, hk, kn_int T.nc k, _, rfl, ?_⟩
  cases e : k.isInt
  · have : k.isNum = false := by rw [Kn.isNum, e]; rfl
    rw [this] at q
    exact q
  · refine ⟨_, rfl, _, _, _, _, _, rfl, ClsV.ty _, hk, kn_bool T.nc k, _, rfl, ?_⟩
    have : k.isNum = !k.isBool := by rw [Kn.isNum, e]; rfl
    rw [this] at q
    exact q
def spListK (K : PySem.W.Frag) (C : Addr) : Sp := fun vs H Q _ => ∃ (v : V) (k : Kn), vs = [v] ∧ KnV K C H v k ∧ (∀ H', Same H H' → KnV K C H' v k) ∧ ∀ H', Same H H' → Q (.bl (k.isList || k.isTup)) H'
theorem ok_listK (T : Tx K mg) : FnOk P w K mg base CX0 1 T.f_is_listed T.d_is_listed ["value"] (spListK K T.C_Wedge) := by
  refine T.F_is_listed.ok sc_is_listed (fun vs H Q E h => ?_) (fun cdv A outer s H vs Q E hr h => ?_)
  · obtain ⟨v, k, rfl, _⟩ := h
    rfl
  obtain ⟨v, k, rfl, hk, hs, q⟩ := h
  refine ⟨_, (pss_one (ps_ret (pe_callB (show CallR _ _ (rIsiT K) from call_isiT) (by rfl) T.z_isinstance (by decide +kernel) (pa_cons (pv 0) (pa_cons (pe_tup (pa_cons (pe_bltn (v := .ty "list") (u := .type "list") (by rfl) T.z_list (by decide +kernel) rfl) (pa_cons (pe_bltn (v := .ty "tuple") (u := .type "tuple") (by rfl) T.z_tuple (by decide +kernel) rfl) pa_nil))) pa_nil))))), ?_⟩
  refine ⟨_, rfl, (by show 2 ≤ sizeLine; decide), fun p hp => ?_⟩
  have s1 : Same H (upd H p (.tup [.ty "list", .ty "tuple"])) := Same.new hp
  exact ⟨_, p, _, _, [.type "list", .type "tuple"], _, rfl, upd_same, .cons (.ty _) (.cons (.ty _) .nil), hs _ s1, kn_lt T.nc k, q _ s1⟩
end
end TL
namespace TL
open PySem L2

/-! ### steps of a reading -/
local macro_rules | `(tactic| walk_at "hp") => `(tactic| first | assumption | exact upd_same | (refine (upd_ne (by first | assumption | (exact Ne.symm (by assumption)))).trans ?_; walk_at "hp"))
local macro_rules | `(tactic| walk_at "ok") => `(tactic| first | (exact Or.inr ⟨by decide, by decide⟩) | (exact ⟨by decide, by decide⟩) | (exact ⟨by decide, by decide, by decide⟩) | (show _ ≠ _; omega) | (show _ ≠ _; decide) | (exact Or.inl ⟨by omega, by omega⟩) | decide)
local macro_rules | `(tactic| walk_at "sq") => `(tactic| first | assumption | exact SqL.of (by walk_at "hp") | exact SqT.of (by walk_at "hp"))
local macro_rules | `(tactic| walk_at "ty") => `(tactic| first | refine ⟨_, _, Value.type "int", Value.type "list", false, rfl, ClsV.ty _, TyX.base (TyOf.int _), kt_int_list, ?_⟩ | refine ⟨_, _, Value.type "bool", Value.type "list", false, rfl, ClsV.ty _, TyX.base (TyOf.bl _), kt_bool_list, ?_⟩ | refine ⟨_, _, Value.type "str", Value.type "list", false, rfl, ClsV.ty _, TyX.base (TyOf.str _), kt_str_list, ?_⟩ | refine ⟨_, _, Value.type "NoneType", Value.type "list", false, rfl, ClsV.ty _, TyX.base TyOf.non, kt_NoneType_list, ?_⟩ | refine ⟨_, _, Value.type "list", Value.type "list", true, rfl, ClsV.ty _, tyx_L (by walk_at "sq"), kt_list_list, ?_⟩ | refine ⟨_, _, Value.type "tuple", Value.type "list", false, rfl, ClsV.ty _, tyx_T (by walk_at "sq"), kt_tuple_list, ?_⟩ | refine ⟨_, _, Value.type "int", Value.type "tuple", false, rfl, ClsV.ty _, TyX.base (TyOf.int _), kt_int_tuple, ?_⟩ | refine ⟨_, _, Value.type "bool", Value.type "tuple", false, rfl, ClsV.ty _, TyX.base (TyOf.bl _), kt_bool_tuple, ?_⟩ | refine ⟨_, _, Value.type "str", Value.type "tuple", false, rfl, ClsV.ty _, TyX.base (TyOf.str _), kt_str_tuple, ?_⟩ | refine ⟨_, _, Value.type "NoneType", Value.type "tuple", false, rfl, ClsV.ty _, TyX.base TyOf.non, kt_NoneType_tuple, ?_⟩ | refine ⟨_, _, Value.type "list", Value.type "tuple", false, rfl, ClsV.ty _, tyx_L (by walk_at "sq"), kt_list_tuple, ?_⟩ | refine ⟨_, _, Value.type "tuple", Value.type "tuple", true, rfl, ClsV.ty _, tyx_T (by walk_at "sq"), kt_tuple_tuple, ?_⟩ | refine ⟨_, _, Value.type "int", Value.type "bool", false, rfl, ClsV.ty _, TyX.base (TyOf.int _), kt_int_bool, ?_⟩ | refine ⟨_, _, Value.type "bool", Value.type "bool", true, rfl, ClsV.ty _, TyX.base (TyOf.bl _), kt_bool_bool, ?_⟩ | refine ⟨_, _, Value.type "str", Value.type "bool", false, rfl, ClsV.ty _, TyX.base (TyOf.str _), kt_str_bool, ?_⟩ | refine ⟨_, _, Value.type "NoneType", Value.type "bool", false, rfl, ClsV.ty _, TyX.base TyOf.non, kt_NoneType_bool, ?_⟩ | refine ⟨_, _, Value.type "list", Value.type "bool", false, rfl, ClsV.ty _, tyx_L (by walk_at "sq"), kt_list_bool, ?_⟩ | refine ⟨_, _, Value.type "tuple", Value.type "bool", false, rfl, ClsV.ty _, tyx_T (by walk_at "sq"), kt_tuple_bool, ?_⟩ | refine ⟨_, _, Value.type "int", Value.type "int", true, rfl, ClsV.ty _, TyX.base (TyOf.int _), kt_int_int, ?_⟩ | refine ⟨_, _, Value.type "bool", Value.type "int", true, rfl, ClsV.ty _, TyX.base (TyOf.bl _), kt_bool_int, ?_⟩ | refine ⟨_, _, Value.type "str", Value.type "int", false, rfl, ClsV.ty _, TyX.base (TyOf.str _), kt_str_int, ?_⟩ | refine ⟨_, _, Value.type "NoneType", Value.type "int", false, rfl, ClsV.ty _, TyX.base TyOf.non, kt_NoneType_int, ?_⟩ | refine ⟨_, _, Value.type "list", Value.type "int", false, rfl, ClsV.ty _, tyx_L (by walk_at "sq"), kt_list_int, ?_⟩ | refine ⟨_, _, Value.type "tuple", Value.type "int", false, rfl, ClsV.ty _, tyx_T (by walk_at "sq"), kt_tuple_int, ?_⟩ | refine ⟨_, _, Value.type "int", Value.type "str", false, rfl, ClsV.ty _, TyX.base (TyOf.int _), kt_int_str, ?_⟩ | refine ⟨_, _, Value.type "bool", Value.type "str", false, rfl, ClsV.ty _, TyX.base (TyOf.bl _), kt_bool_str, ?_⟩ | refine ⟨_, _, Value.type "str", Value.type "str", true, rfl, ClsV.ty _, TyX.base (TyOf.str _), kt_str_str, ?_⟩ | refine ⟨_, _, Value.type "NoneType", Value.type "str", false, rfl, ClsV.ty _, TyX.base TyOf.non, kt_NoneType_str, ?_⟩ | refine ⟨_, _, Value.type "list", Value.type "str", false, rfl, ClsV.ty _, tyx_L (by walk_at "sq"), kt_list_str, ?_⟩ | refine ⟨_, _, Value.type "tuple", Value.type "str", false, rfl, ClsV.ty _, tyx_T (by walk_at "sq"), kt_tuple_str, ?_⟩)
local macro_rules | `(tactic| walk_at "go1") => `(tactic| first
  | (refine ⟨_, rfl, ?_⟩)
  | (refine ⟨_, _, rfl, rfl, ?_⟩)
  | (refine ⟨_, _, _, _, rfl, rfl, SqL.of (by walk_at "hp"), rfl, ?_⟩)
  | (refine Or.inl ⟨_, rfl, ?_⟩)
  | (refine ⟨rfl, ?_⟩)
  | (refine ⟨_, _, rfl, .inl (SqL.of (by walk_at "hp")), ?_⟩)
  | (refine ⟨_, _, rfl, Or.inl (by assumption), ?_⟩)
  | (refine ⟨_, _, rfl, Or.inr (by assumption), ?_⟩)
  | (refine ⟨(by walk_at "ok"), ?_⟩)
  | (refine ⟨_, _, _, _, rfl, rfl, (by walk_at "hp"), rfl, ?_⟩))
local macro_rules | `(tactic| walk_at "go") => `(tactic| repeat (walk_at "go1"))
local macro_rules | `(tactic| walk_at "gt") => `(tactic| repeat (first | walk_at "go1" | walk_at "ty"))

section
variable {P : Program} {w : World} {K : PySem.W.Frag} {mg : Str → Option Value} {base : Heap}
/-! ### _law_like of equal data -/
def spLike (K : PySem.W.Frag) (m : Nat) : Sp := fun vs H Q _ => ∃ (n : Nat) (x y : V), vs = [x, y] ∧ n < m ∧ DEq K H n x y ∧ ∀ H', Same H H' → Q (.bl true) H'
theorem ok_like_step (T : Tx K mg) {m : Nat} (G_l_like : FnOk P w K mg base CX0 m T.f_l_like T.d_l_like ["_law_found", "_law_due"] (spLike K m)) : FnOk P w K mg base CX0 (m + 1) T.f_l_like T.d_l_like ["_law_found", "_law_due"] (spLike K (m + 1)) := by
  refine T.F_l_like.ok sc_l_like (fun vs H Q E h => ?_) (fun cdv A outer s H vs Q E hr h => ?_)
  · obtain ⟨n, x, y, rfl, _⟩ := h
    rfl
  obtain ⟨n, x, y, rfl, hm, hd, q⟩ := h
  have nd := sc_l_like.nd
  have J := T.nc
  have flat : ∀ (x : V) (k : Kn), (∀ H', KnV K T.C_Wedge H' x k) → k.isList = false → k.isTup = false → x ≠ .non → scal x x = true → (∀ H', Same H H' → Q (.bl (decide (x = x))) H') → ∃ t, PSs (cxOf CX0 P w K mg base N_l_like (Str.ofString "_law_like") (defScope s_l_like) T.f_l_like cdv A outer s H E).nox (defBody s_l_like) t ∧ t { nx := fun _ H' => Q .non H', rt := Q } (L2.start N_l_like [x, x]) H := fun x k hk h1 h2 h3 h4 q => by
    have h12 : (k.isList || k.isTup) = false := by rw [h1, h2]; rfl
    refine ⟨_, (pss_cons (ps_if (pt_val (pe_callB (show CallR _ _ (rIsiT K) from call_isiT) (by rfl) T.z_isinstance (by decide +kernel) (pa_cons (pv 1) (pa_cons (pe_tup (pa_cons (pe_bltn (v := .ty "list") (u := .type "list") (by rfl) T.z_list (by decide +kernel) rfl) (pa_cons (pe_bltn (v := .ty "tuple") (u := .type "tuple") (by rfl) T.z_tuple (by decide +kernel) rfl) pa_nil))) pa_nil)))) (pss_cons (ps_if (PW.pt (pw_or (pt_cmpR op_ne (pe_callB (show CallR _ _ (rIsi K) from call_isi) (by rfl) T.z_isinstance (by decide +kernel) (pa_cons (pv 0) (pa_cons (pe_bltn (v := .ty "list") (u := .type "list") (by rfl) T.z_list (by decide +kernel) rfl) pa_nil))) (pe_callB (show CallR _ _ (rIsi K) from call_isi) (by rfl) T.z_isinstance (by decide +kernel) (pa_cons (pv 1) (pa_cons (pe_bltn (v := .ty "list") (u := .type "list") (by rfl) T.z_list (by decide +kernel) rfl) pa_nil))) (nomark _)) (pw_or1 (pt_cmpR op_ne (pe_callB (show CallR _ _ (rIsi K) from call_isi) (by rfl) T.z_isinstance (by decide +kernel) (pa_cons (pv 0) (pa_cons (pe_bltn (v := .ty "tuple") (u := .type "tuple") (by rfl) T.z_tuple (by decide +kernel) rfl) pa_nil))) (pe_callB (show CallR _ _ (rIsi K) from call_isi) (by rfl) T.z_isinstance (by decide +kernel) (pa_cons (pv 1) (pa_cons (pe_bltn (v := .ty "tuple") (u := .type "tuple") (by rfl) T.z_tuple (by decide +kernel) rfl) pa_nil))) (nomark _))))) (pss_one (ps_ret pe_bl)) pss_nil)
    (pss_one (ps_ret (pe_and (pe_cmpR op_eq (pe_callB (show CallR _ _ (rLenSq K) from call_len_seq) (by rfl) T.z_len (by decide +kernel) (pa_cons (pv 0) pa_nil)) (pe_callB (show CallR _ _ (rLenSq K) from call_len_seq) (by rfl) T.z_len (by decide +kernel) (pa_cons (pv 1) pa_nil)) (nomark _)) (pe_one (pe_callB (show CallR _ _ (rAll K) from cr_all rfl) (by rfl) T.z_all (by decide +kernel) (pa_cons (pe_lc (own := [("_law_a", 2), ("_law_b", 3)]) (g := (gTup K 2 (gCons (gName 2) (gCons (gName 3) gNil)))) rfl nd (show PI _ _ _ (RZ.iZipA K _) from RZ.pi_zipA (by rfl) T.z_zip (pa_cons (pv 0) (pa_cons (pv 1) pa_nil))) (blkOk_by (own := [("_law_a", 2), ("_law_b", 3)]) (N := N_l_like) (sc := defScope s_l_like) (by decide +kernel)) (fun _ _ _ _ _ => by exact (pg_tup rfl (pgs_cons (pg_name (i := 2) nd rfl (Or.inl rfl)) (pgs_cons (pg_name (i := 3) nd rfl (Or.inl rfl)) pgs_nil)))) (fun _ _ _ _ _ => by exact pts_nil) (fun _ _ _ _ _ => by exact (pe_call G_l_like hr (by rfl) T.m_l_like T.F_l_like.kp T.b_l_like .nil pass0 (pa_cons (pv 2) (pa_cons (pv 3) pa_nil))))) pa_nil))))))) pss_nil)
    (pss_cons (ps_if (PW.pt (pw_or (pt_cmpR op_isN (pv 1) pe_non (nomark _)) (pw_or1 (pt_cmpR op_isN (pv 0) pe_non (nomark _))))) (pss_one (ps_ret (pe_and (pe_cmpR op_isN (pv 1) pe_non (nomark _)) (pe_one (pe_cmpR op_isN (pv 0) pe_non (nomark _)))))) pss_nil)
    (pss_cons (ps_if (PW.pt (pw_or (pt_val (pe_callB (show CallR _ _ (rIsiT K) from call_isiT) (by rfl) T.z_isinstance (by decide +kernel) (pa_cons (pv 0) (pa_cons (pe_tup (pa_cons (pe_bltn (v := .ty "list") (u := .type "list") (by rfl) T.z_list (by decide +kernel) rfl) (pa_cons (pe_bltn (v := .ty "tuple") (u := .type "tuple") (by rfl) T.z_tuple (by decide +kernel) rfl) pa_nil))) pa_nil)))) (pw_or1 (pt_cmpR op_ne (pe_callB (show CallR _ _ (rIsi K) from call_isi) (by rfl) T.z_isinstance (by decide +kernel) (pa_cons (pv 0) (pa_cons (pe_bltn (v := .ty "bool") (u := .type "bool") (by rfl) T.z_bool (by decide +kernel) rfl) pa_nil))) (pe_callB (show CallR _ _ (rIsi K) from call_isi) (by rfl) T.z_isinstance (by decide +kernel) (pa_cons (pv 1) (pa_cons (pe_bltn (v := .ty "bool") (u := .type "bool") (by rfl) T.z_bool (by decide +kernel) rfl) pa_nil))) (nomark _))))) (pss_one (ps_ret pe_bl)) pss_nil)
    (pss_cons (ps_if (pt_cmpR op_ne (pe_callB (show CallR _ _ (rIsi K) from call_isi) (by rfl) T.z_isinstance (by decide +kernel) (pa_cons (pv 0) (pa_cons (pe_bltn (v := .ty "int") (u := .type "int") (by rfl) T.z_int (by decide +kernel) rfl) pa_nil))) (pe_callB (show CallR _ _ (rIsi K) from call_isi) (by rfl) T.z_isinstance (by decide +kernel) (pa_cons (pv 1) (pa_cons (pe_bltn (v := .ty "int") (u := .type "int") (by rfl) T.z_int (by decide +kernel) rfl) pa_nil))) (nomark _)) (pss_one (ps_ret pe_bl)) pss_nil)
    (pss_one (ps_ret (pe_and (pe_cmpR op_eq (pe_callB (show CallR _ _ (rIsi K) from call_isi) (by rfl) T.z_isinstance (by decide +kernel) (pa_cons (pv 0) (pa_cons (pe_bltn (v := .ty "str") (u := .type "str") (by rfl) T.z_str (by decide +kernel) rfl) pa_nil))) (pe_callB (show CallR _ _ (rIsi K) from call_isi) (by rfl) T.z_isinstance (by decide +kernel) (pa_cons (pv 1) (pa_cons (pe_bltn (v := .ty "str") (u := .type "str") (by rfl) T.z_str (by decide +kernel) rfl) pa_nil))) (nomark _)) (pe_one (pe_cmpR op_eq (pv 0) (pv 1) (nomark _)))))))))), ?_⟩
    refine ⟨_, rfl, (by show 2 ≤ sizeLine; decide), fun p hp => ⟨x, p, _, _, [.type "list", .type "tuple"], _, rfl, upd_same, .cons (.ty _) (.cons (.ty _) .nil), hk _, kn_lt J k, _, rfl, ?_⟩⟩
    refine iteF' h12 ?_
    have d3 : decide (x = V.non) = false := decide_eq_false h3
    refine ⟨_, rfl, rfl, _, rfl, ?_⟩
    rw [d3]
    refine iteF' rfl ?_
    refine ⟨_, rfl, rfl, _, rfl, ?_⟩
    rw [d3]
    refine iteF' rfl ?_
    refine ⟨_, rfl, (by show 2 ≤ sizeLine; decide), fun p2 hp2 => ⟨x, p2, _, _, [.type "list", .type "tuple"], _, rfl, upd_same, .cons (.ty _) (.cons (.ty _) .nil), hk _, kn_lt J k, _, rfl, ?_⟩⟩
    refine iteF' h12 ?_
    refine ⟨_, rfl, _, _, _, _, _, rfl, ClsV.ty _, hk _, kn_bool J k, _, rfl, _, _, _, _, _, rfl, ClsV.ty _, hk _, kn_bool J k, rfl, _, rfl, ?_⟩
    refine iteF' (by rw [decide_eq_true rfl]; rfl) ?_
    refine ⟨_, rfl, _, _, _, _, _, rfl, ClsV.ty _, hk _, kn_int J k, _, rfl, _, _, _, _, _, rfl, ClsV.ty _, hk _, kn_int J k, rfl, _, rfl, ?_⟩
    refine iteF' (by rw [decide_eq_true rfl]; rfl) ?_
    refine ⟨_, rfl, _, _, _, _, _, rfl, ClsV.ty _, hk _, kn_str J k, _, rfl, _, _, _, _, _, rfl, ClsV.ty _, hk _, kn_str J k, rfl, _, rfl, ?_⟩
    rw [decide_eq_true (rfl : V.bl k.isStr = V.bl k.isStr)]
    refine ⟨_, rfl, _, rfl, h4, ?_⟩
    exact q _ ((Same.new hp).trans (Same.new hp2))
  cases hd with
  | int i =>
    refine flat (.int i) .int (fun _ => .i) rfl rfl (fun z => by cases z) rfl fun H' s => ?_
    rw [decide_eq_true rfl]
    exact q H' s
  | bl b =>
    refine flat (.bl b) .bool (fun _ => .b) rfl rfl (fun z => by cases z) rfl fun H' s => ?_
    rw [decide_eq_true rfl]
    exact q H' s
  | str x =>
    refine flat (.str x) .str (fun _ => .s) rfl rfl (fun z => by cases z) rfl fun H' s => ?_
    rw [decide_eq_true rfl]
    exact q H' s
  | non =>
    refine ⟨_, (pss_cons (ps_if (pt_val (pe_callB (show CallR _ _ (rIsiT K) from call_isiT) (by rfl) T.z_isinstance (by decide +kernel) (pa_cons (pv 1) (pa_cons (pe_tup (pa_cons (pe_bltn (v := .ty "list") (u := .type "list") (by rfl) T.z_list (by decide +kernel) rfl) (pa_cons (pe_bltn (v := .ty "tuple") (u := .type "tuple") (by rfl) T.z_tuple (by decide +kernel) rfl) pa_nil))) pa_nil)))) (pss_cons (ps_if (PW.pt (pw_or (pt_cmpR op_ne (pe_callB (show CallR _ _ (rIsi K) from call_isi) (by rfl) T.z_isinstance (by decide +kernel) (pa_cons (pv 0) (pa_cons (pe_bltn (v := .ty "list") (u := .type "list") (by rfl) T.z_list (by decide +kernel) rfl) pa_nil))) (pe_callB (show CallR _ _ (rIsi K) from call_isi) (by rfl) T.z_isinstance (by decide +kernel) (pa_cons (pv 1) (pa_cons (pe_bltn (v := .ty "list") (u := .type "list") (by rfl) T.z_list (by decide +kernel) rfl) pa_nil))) (nomark _)) (pw_or1 (pt_cmpR op_ne (pe_callB (show CallR _ _ (rIsi K) from call_isi) (by rfl) T.z_isinstance (by decide +kernel) (pa_cons (pv 0) (pa_cons (pe_bltn (v := .ty "tuple") (u := .type "tuple") (by rfl) T.z_tuple (by decide +kernel) rfl) pa_nil))) (pe_callB (show CallR _ _ (rIsi K) from call_isi) (by rfl) T.z_isinstance (by decide +kernel) (pa_cons (pv 1) (pa_cons (pe_bltn (v := .ty "tuple") (u := .type "tuple") (by rfl) T.z_tuple (by decide +kernel) rfl) pa_nil))) (nomark _))))) (pss_one (ps_ret pe_bl)) pss_nil)
    (pss_one (ps_ret (pe_and (pe_cmpR op_eq (pe_callB (show CallR _ _ (rLenSq K) from call_len_seq) (by rfl) T.z_len (by decide +kernel) (pa_cons (pv 0) pa_nil)) (pe_callB (show CallR _ _ (rLenSq K) from call_len_seq) (by rfl) T.z_len (by decide +kernel) (pa_cons (pv 1) pa_nil)) (nomark _)) (pe_one (pe_callB (show CallR _ _ (rAll K) from cr_all rfl) (by rfl) T.z_all (by decide +kernel) (pa_cons (pe_lc (own := [("_law_a", 2), ("_law_b", 3)]) (g := (gTup K 2 (gCons (gName 2) (gCons (gName 3) gNil)))) rfl nd (show PI _ _ _ (RZ.iZipA K _) from RZ.pi_zipA (by rfl) T.z_zip (pa_cons (pv 0) (pa_cons (pv 1) pa_nil))) (blkOk_by (own := [("_law_a", 2), ("_law_b", 3)]) (N := N_l_like) (sc := defScope s_l_like) (by decide +kernel)) (fun _ _ _ _ _ => by exact (pg_tup rfl (pgs_cons (pg_name (i := 2) nd rfl (Or.inl rfl)) (pgs_cons (pg_name (i := 3) nd rfl (Or.inl rfl)) pgs_nil)))) (fun _ _ _ _ _ => by exact pts_nil) (fun _ _ _ _ _ => by exact (pe_call G_l_like hr (by rfl) T.m_l_like T.F_l_like.kp T.b_l_like .nil pass0 (pa_cons (pv 2) (pa_cons (pv 3) pa_nil))))) pa_nil))))))) pss_nil)
    (pss_cons (ps_if (PW.pt (pw_or (pt_cmpR op_isN (pv 1) pe_non (nomark _)) (pw_or1 (pt_cmpR op_isN (pv 0) pe_non (nomark _))))) (pss_one (ps_ret (pe_and (pe_cmpR op_isN (pv 1) pe_non (nomark _)) (pe_one (pe_cmpR op_isN (pv 0) pe_non (nomark _)))))) pss_nil)
    (pss_cons (ps_if (PW.pt (pw_or (pt_val (pe_callB (show CallR _ _ (rIsiT K) from call_isiT) (by rfl) T.z_isinstance (by decide +kernel) (pa_cons (pv 0) (pa_cons (pe_tup (pa_cons (pe_bltn (v := .ty "list") (u := .type "list") (by rfl) T.z_list (by decide +kernel) rfl) (pa_cons (pe_bltn (v := .ty "tuple") (u := .type "tuple") (by rfl) T.z_tuple (by decide +kernel) rfl) pa_nil))) pa_nil)))) (pw_or1 (pt_cmpR op_ne (pe_callB (show CallR _ _ (rIsi K) from call_isi) (by rfl) T.z_isinstance (by decide +kernel) (pa_cons (pv 0) (pa_cons (pe_bltn (v := .ty "bool") (u := .type "bool") (by rfl) T.z_bool (by decide +kernel) rfl) pa_nil))) (pe_callB (show CallR _ _ (rIsi K) from call_isi) (by rfl) T.z_isinstance (by decide +kernel) (pa_cons (pv 1) (pa_cons (pe_bltn (v := .ty "bool") (u := .type "bool") (by rfl) T.z_bool (by decide +kernel) rfl) pa_nil))) (nomark _))))) (pss_one (ps_ret pe_bl)) pss_nil)
    (pss_cons (ps_if (pt_cmpR op_ne (pe_callB (show CallR _ _ (rIsi K) from call_isi) (by rfl) T.z_isinstance (by decide +kernel) (pa_cons (pv 0) (pa_cons (pe_bltn (v := .ty "int") (u := .type "int") (by rfl) T.z_int (by decide +kernel) rfl) pa_nil))) (pe_callB (show CallR _ _ (rIsi K) from call_isi) (by rfl) T.z_isinstance (by decide +kernel) (pa_cons (pv 1) (pa_cons (pe_bltn (v := .ty "int") (u := .type "int") (by rfl) T.z_int (by decide +kernel) rfl) pa_nil))) (nomark _)) (pss_one (ps_ret pe_bl)) pss_nil)
    (pss_one (ps_ret (pe_and (pe_cmpR op_eq (pe_callB (show CallR _ _ (rIsi K) from call_isi) (by rfl) T.z_isinstance (by decide +kernel) (pa_cons (pv 0) (pa_cons (pe_bltn (v := .ty "str") (u := .type "str") (by rfl) T.z_str (by decide +kernel) rfl) pa_nil))) (pe_callB (show CallR _ _ (rIsi K) from call_isi) (by rfl) T.z_isinstance (by decide +kernel) (pa_cons (pv 1) (pa_cons (pe_bltn (v := .ty "str") (u := .type "str") (by rfl) T.z_str (by decide +kernel) rfl) pa_nil))) (nomark _)) (pe_one (pe_cmpR op_eq (pv 0) (pv 1) (nomark _)))))))))), ?_⟩
    refine ⟨_, rfl, (by show 2 ≤ sizeLine; decide), fun p hp => ⟨.non, p, _, _, [.type "list", .type "tuple"], _, rfl, upd_same, .cons (.ty _) (.cons (.ty _) .nil), KnV.n (C := T.C_Wedge), kn_lt J .non, _, rfl, ?_⟩⟩
    refine iteF' rfl ?_
    refine ⟨_, rfl, rfl, _, rfl, ?_⟩
    refine iteT' rfl ?_
    refine ⟨_, rfl, rfl, true, rfl, _, rfl, rfl, ?_⟩
    exact q _ (Same.new hp)
  | @lst n a b xs ys h1 h2 hlen hl he =>
    refine ⟨_, (pss_cons (ps_if (pt_val (pe_callB (show CallR _ _ (rIsiT K) from call_isiT) (by rfl) T.z_isinstance (by decide +kernel) (pa_cons (pv 1) (pa_cons (pe_tup (pa_cons (pe_bltn (v := .ty "list") (u := .type "list") (by rfl) T.z_list (by decide +kernel) rfl) (pa_cons (pe_bltn (v := .ty "tuple") (u := .type "tuple") (by rfl) T.z_tuple (by decide +kernel) rfl) pa_nil))) pa_nil)))) (pss_cons (ps_if (PW.pt (pw_or (pt_cmpR op_ne (pe_callB (show CallR _ _ (rIsi K) from call_isi) (by rfl) T.z_isinstance (by decide +kernel) (pa_cons (pv 0) (pa_cons (pe_bltn (v := .ty "list") (u := .type "list") (by rfl) T.z_list (by decide +kernel) rfl) pa_nil))) (pe_callB (show CallR _ _ (rIsi K) from call_isi) (by rfl) T.z_isinstance (by decide +kernel) (pa_cons (pv 1) (pa_cons (pe_bltn (v := .ty "list") (u := .type "list") (by rfl) T.z_list (by decide +kernel) rfl) pa_nil))) (nomark _)) (pw_or1 (pt_cmpR op_ne (pe_callB (show CallR _ _ (rIsi K) from call_isi) (by rfl) T.z_isinstance (by decide +kernel) (pa_cons (pv 0) (pa_cons (pe_bltn (v := .ty "tuple") (u := .type "tuple") (by rfl) T.z_tuple (by decide +kernel) rfl) pa_nil))) (pe_callB (show CallR _ _ (rIsi K) from call_isi) (by rfl) T.z_isinstance (by decide +kernel) (pa_cons (pv 1) (pa_cons (pe_bltn (v := .ty "tuple") (u := .type "tuple") (by rfl) T.z_tuple (by decide +kernel) rfl) pa_nil))) (nomark _))))) (pss_one (ps_ret pe_bl)) pss_nil)
    (pss_one (ps_ret (pe_and (pe_cmpR op_eq (pe_callB (show CallR _ _ (rLenSq K) from call_len_seq) (by rfl) T.z_len (by decide +kernel) (pa_cons (pv 0) pa_nil)) (pe_callB (show CallR _ _ (rLenSq K) from call_len_seq) (by rfl) T.z_len (by decide +kernel) (pa_cons (pv 1) pa_nil)) (nomark _)) (pe_one (pe_callB (show CallR _ _ (rAll K) from cr_all rfl) (by rfl) T.z_all (by decide +kernel) (pa_cons (pe_lc (own := [("_law_a", 2), ("_law_b", 3)]) (g := (gTup K 2 (gCons (gName 2) (gCons (gName 3) gNil)))) rfl nd (show PI _ _ _ (RZ.iZipA K _) from RZ.pi_zipA (by rfl) T.z_zip (pa_cons (pv 0) (pa_cons (pv 1) pa_nil))) (blkOk_by (own := [("_law_a", 2), ("_law_b", 3)]) (N := N_l_like) (sc := defScope s_l_like) (by decide +kernel)) (fun _ _ _ _ _ => by exact (pg_tup rfl (pgs_cons (pg_name (i := 2) nd rfl (Or.inl rfl)) (pgs_cons (pg_name (i := 3) nd rfl (Or.inl rfl)) pgs_nil)))) (fun _ _ _ _ _ => by exact pts_nil) (fun _ _ _ _ _ => by exact (pe_call G_l_like hr (by rfl) T.m_l_like T.F_l_like.kp T.b_l_like .nil pass0 (pa_cons (pv 2) (pa_cons (pv 3) pa_nil))))) pa_nil))))))) pss_nil)
    (pss_cons (ps_if (PW.pt (pw_or (pt_cmpR op_isN (pv 1) pe_non (nomark _)) (pw_or1 (pt_cmpR op_isN (pv 0) pe_non (nomark _))))) (pss_one (ps_ret (pe_and (pe_cmpR op_isN (pv 1) pe_non (nomark _)) (pe_one (pe_cmpR op_isN (pv 0) pe_non (nomark _)))))) pss_nil)
    (pss_cons (ps_if (PW.pt (pw_or (pt_val (pe_callB (show CallR _ _ (rIsiT K) from call_isiT) (by rfl) T.z_isinstance (by decide +kernel) (pa_cons (pv 0) (pa_cons (pe_tup (pa_cons (pe_bltn (v := .ty "list") (u := .type "list") (by rfl) T.z_list (by decide +kernel) rfl) (pa_cons (pe_bltn (v := .ty "tuple") (u := .type "tuple") (by rfl) T.z_tuple (by decide +kernel) rfl) pa_nil))) pa_nil)))) (pw_or1 (pt_cmpR op_ne (pe_callB (show CallR _ _ (rIsi K) from call_isi) (by rfl) T.z_isinstance (by decide +kernel) (pa_cons (pv 0) (pa_cons (pe_bltn (v := .ty "bool") (u := .type "bool") (by rfl) T.z_bool (by decide +kernel) rfl) pa_nil))) (pe_callB (show CallR _ _ (rIsi K) from call_isi) (by rfl) T.z_isinstance (by decide +kernel) (pa_cons (pv 1) (pa_cons (pe_bltn (v := .ty "bool") (u := .type "bool") (by rfl) T.z_bool (by decide +kernel) rfl) pa_nil))) (nomark _))))) (pss_one (ps_ret pe_bl)) pss_nil)
    (pss_cons (ps_if (pt_cmpR op_ne (pe_callB (show CallR _ _ (rIsi K) from call_isi) (by rfl) T.z_isinstance (by decide +kernel) (pa_cons (pv 0) (pa_cons (pe_bltn (v := .ty "int") (u := .type "int") (by rfl) T.z_int (by decide +kernel) rfl) pa_nil))) (pe_callB (show CallR _ _ (rIsi K) from call_isi) (by rfl) T.z_isinstance (by decide +kernel) (pa_cons (pv 1) (pa_cons (pe_bltn (v := .ty "int") (u := .type "int") (by rfl) T.z_int (by decide +kernel) rfl) pa_nil))) (nomark _)) (pss_one (ps_ret pe_bl)) pss_nil)
    (pss_one (ps_ret (pe_and (pe_cmpR op_eq (pe_callB (show CallR _ _ (rIsi K) from call_isi) (by rfl) T.z_isinstance (by decide +kernel) (pa_cons (pv 0) (pa_cons (pe_bltn (v := .ty "str") (u := .type "str") (by rfl) T.z_str (by decide +kernel) rfl) pa_nil))) (pe_callB (show CallR _ _ (rIsi K) from call_isi) (by rfl) T.z_isinstance (by decide +kernel) (pa_cons (pv 1) (pa_cons (pe_bltn (v := .ty "str") (u := .type "str") (by rfl) T.z_str (by decide +kernel) rfl) pa_nil))) (nomark _)) (pe_one (pe_cmpR op_eq (pv 0) (pv 1) (nomark _)))))))))), ?_⟩
    refine ⟨_, rfl, (by show 2 ≤ sizeLine; decide), fun p hp => ?_⟩
    have s1 := Same.new (o := .tup [.ty "list", .ty "tuple"]) hp
    have g1 := s1.seq h1
    have g2 := s1.seq h2
    refine ⟨_, p, _, _, [.type "list", .type "tuple"], _, rfl, upd_same, .cons (.ty _) (.cons (.ty _) .nil), KnV.l (C := T.C_Wedge) g2, kn_lt J .list, _, rfl, ?_⟩
    refine iteT' rfl ?_
    refine ⟨_, rfl, _, _, _, _, _, rfl, ClsV.ty _, KnV.l (C := T.C_Wedge) g1, kn_list J .list, _, rfl, _, _, _, _, _, rfl, ClsV.ty _, KnV.l (C := T.C_Wedge) g2, kn_list J .list, rfl, _, rfl, ?_⟩
    refine iteF' (by rw [decide_eq_true rfl]; rfl) ?_
    refine ⟨_, rfl, _, _, _, _, _, rfl, ClsV.ty _, KnV.l (C := T.C_Wedge) g1, kn_tup J .list, _, rfl, _, _, _, _, _, rfl, ClsV.ty _, KnV.l (C := T.C_Wedge) g2, kn_tup J .list, rfl, _, rfl, ?_⟩
    refine iteF' (by rw [decide_eq_true rfl]; rfl) ?_
    refine ⟨_, rfl, a, xs, rfl, .inl g1, _, rfl, b, ys, rfl, .inl g2, rfl, true, congrArg V.bl (decide_eq_true (by rw [hl])), ?_⟩
    refine ⟨_, rfl, _, rfl, a, b, xs, ys, rfl, .inl ⟨g1, g2, fun D hD => ?_⟩⟩
    refine lcm (walk_zip (n := xs.length) (by omega)) (List.replicate xs.length (V.bl true)) (by simp) hlen hD (fun H' s => ⟨s.seq g1, s.seq g2⟩) ?_ ?_
    · rintro i y x H1 H2 hi hy s3 ⟨Tp, u, z, rfl, hT, rfl, hu, hz⟩ k hk
      obtain rfl := rep_get hy
      have s2 : Same H1 (upd H1 Tp (.tup [u, z])) := Same.new hT
      refine ⟨Tp, [u, z], rfl, SqT.of upd_same, rfl, u, [z], rfl, z, [], rfl, rfl, rfl, ?_⟩
      exact ⟨_, rfl, _, rfl, n, u, z, rfl, by omega, (he i u z hu hz).same ((s1.trans s3).trans s2), fun H4 s4 => hk H4 (s2.trans s4)⟩
    · intro H' s3 hD'
      refine ⟨D, List.replicate xs.length true, rfl, SqL.of (by rw [hD', List.map_replicate]), ?_⟩
      rw [all_rep]
      exact q H' (s1.trans s3)
  | @tup n a b xs ys h1 h2 hlen hl he =>
    refine ⟨_, (pss_cons (ps_if (pt_val (pe_callB (show CallR _ _ (rIsiT K) from call_isiT) (by rfl) T.z_isinstance (by decide +kernel) (pa_cons (pv 1) (pa_cons (pe_tup (pa_cons (pe_bltn (v := .ty "list") (u := .type "list") (by rfl) T.z_list (by decide +kernel) rfl) (pa_cons (pe_bltn (v := .ty "tuple") (u := .type "tuple") (by rfl) T.z_tuple (by decide +kernel) rfl) pa_nil))) pa_nil)))) (pss_cons (ps_if (PW.pt (pw_or (pt_cmpR op_ne (pe_callB (show CallR _ _ (rIsi K) from call_isi) (by rfl) T.z_isinstance (by decide +kernel) (pa_cons (pv 0) (pa_cons (pe_bltn (v := .ty "list") (u := .type "list") (by rfl) T.z_list (by decide +kernel) rfl) pa_nil))) (pe_callB (show CallR _ _ (rIsi K) from call_isi) (by rfl) T.z_isinstance (by decide +kernel) (pa_cons (pv 1) (pa_cons (pe_bltn (v := .ty "list") (u := .type "list") (by rfl) T.z_list (by decide +kernel) rfl) pa_nil))) (nomark _)) (pw_or1 (pt_cmpR op_ne (pe_callB (show CallR _ _ (rIsi K) from call_isi) (by rfl) T.z_isinstance (by decide +kernel) (pa_cons (pv 0) (pa_cons (pe_bltn (v := .ty "tuple") (u := .type "tuple") (by rfl) T.z_tuple (by decide +kernel) rfl) pa_nil))) (pe_callB (show CallR _ _ (rIsi K) from call_isi) (by rfl) T.z_isinstance (by decide +kernel) (pa_cons (pv 1) (pa_cons (pe_bltn (v := .ty "tuple") (u := .type "tuple") (by rfl) T.z_tuple (by decide +kernel) rfl) pa_nil))) (nomark _))))) (pss_one (ps_ret pe_bl)) pss_nil)
    (pss_one (ps_ret (pe_and (pe_cmpR op_eq (pe_callB (show CallR _ _ (rLenSq K) from call_len_seq) (by rfl) T.z_len (by decide +kernel) (pa_cons (pv 0) pa_nil)) (pe_callB (show CallR _ _ (rLenSq K) from call_len_seq) (by rfl) T.z_len (by decide +kernel) (pa_cons (pv 1) pa_nil)) (nomark _)) (pe_one (pe_callB (show CallR _ _ (rAll K) from cr_all rfl) (by rfl) T.z_all (by decide +kernel) (pa_cons (pe_lc (own := [("_law_a", 2), ("_law_b", 3)]) (g := (gTup K 2 (gCons (gName 2) (gCons (gName 3) gNil)))) rfl nd (show PI _ _ _ (RZ.iZipA K _) from RZ.pi_zipA (by rfl) T.z_zip (pa_cons (pv 0) (pa_cons (pv 1) pa_nil))) (blkOk_by (own := [("_law_a", 2), ("_law_b", 3)]) (N := N_l_like) (sc := defScope s_l_like) (by decide +kernel)) (fun _ _ _ _ _ => by exact (pg_tup rfl (pgs_cons (pg_name (i := 2) nd rfl (Or.inl rfl)) (pgs_cons (pg_name (i := 3) nd rfl (Or.inl rfl)) pgs_nil)))) (fun _ _ _ _ _ => by exact pts_nil) (fun _ _ _ _ _ => by exact (pe_call G_l_like hr (by rfl) T.m_l_like T.F_l_like.kp T.b_l_like .nil pass0 (pa_cons (pv 2) (pa_cons (pv 3) pa_nil))))) pa_nil))))))) pss_nil)
    (pss_cons (ps_if (PW.pt (pw_or (pt_cmpR op_isN (pv 1) pe_non (nomark _)) (pw_or1 (pt_cmpR op_isN (pv 0) pe_non (nomark _))))) (pss_one (ps_ret (pe_and (pe_cmpR op_isN (pv 1) pe_non (nomark _)) (pe_one (pe_cmpR op_isN (pv 0) pe_non (nomark _)))))) pss_nil)
    (pss_cons (ps_if (PW.pt (pw_or (pt_val (pe_callB (show CallR _ _ (rIsiT K) from call_isiT) (by rfl) T.z_isinstance (by decide +kernel) (pa_cons (pv 0) (pa_cons (pe_tup (pa_cons (pe_bltn (v := .ty "list") (u := .type "list") (by rfl) T.z_list (by decide +kernel) rfl) (pa_cons (pe_bltn (v := .ty "tuple") (u := .type "tuple") (by rfl) T.z_tuple (by decide +kernel) rfl) pa_nil))) pa_nil)))) (pw_or1 (pt_cmpR op_ne (pe_callB (show CallR _ _ (rIsi K) from call_isi) (by rfl) T.z_isinstance (by decide +kernel) (pa_cons (pv 0) (pa_cons (pe_bltn (v := .ty "bool") (u := .type "bool") (by rfl) T.z_bool (by decide +kernel) rfl) pa_nil))) (pe_callB (show CallR _ _ (rIsi K) from call_isi) (by rfl) T.z_isinstance (by decide +kernel) (pa_cons (pv 1) (pa_cons (pe_bltn (v := .ty "bool") (u := .type "bool") (by rfl) T.z_bool (by decide +kernel) rfl) pa_nil))) (nomark _))))) (pss_one (ps_ret pe_bl)) pss_nil)
    (pss_cons (ps_if (pt_cmpR op_ne (pe_callB (show CallR _ _ (rIsi K) from call_isi) (by rfl) T.z_isinstance (by decide +kernel) (pa_cons (pv 0) (pa_cons (pe_bltn (v := .ty "int") (u := .type "int") (by rfl) T.z_int (by decide +kernel) rfl) pa_nil))) (pe_callB (show CallR _ _ (rIsi K) from call_isi) (by rfl) T.z_isinstance (by decide +kernel) (pa_cons (pv 1) (pa_cons (pe_bltn (v := .ty "int") (u := .type "int") (by rfl) T.z_int (by decide +kernel) rfl) pa_nil))) (nomark _)) (pss_one (ps_ret pe_bl)) pss_nil)
    (pss_one (ps_ret (pe_and (pe_cmpR op_eq (pe_callB (show CallR _ _ (rIsi K) from call_isi) (by rfl) T.z_isinstance (by decide +kernel) (pa_cons (pv 0) (pa_cons (pe_bltn (v := .ty "str") (u := .type "str") (by rfl) T.z_str (by decide +kernel) rfl) pa_nil))) (pe_callB (show CallR _ _ (rIsi K) from call_isi) (by rfl) T.z_isinstance (by decide +kernel) (pa_cons (pv 1) (pa_cons (pe_bltn (v := .ty "str") (u := .type "str") (by rfl) T.z_str (by decide +kernel) rfl) pa_nil))) (nomark _)) (pe_one (pe_cmpR op_eq (pv 0) (pv 1) (nomark _)))))))))), ?_⟩
    refine ⟨_, rfl, (by show 2 ≤ sizeLine; decide), fun p hp => ?_⟩
    have s1 := Same.new (o := .tup [.ty "list", .ty "tuple"]) hp
    have g1 := seqT s1 h1
    have g2 := seqT s1 h2
    refine ⟨_, p, _, _, [.type "list", .type "tuple"], _, rfl, upd_same, .cons (.ty _) (.cons (.ty _) .nil), KnV.t (C := T.C_Wedge) g2, kn_lt J .tup, _, rfl, ?_⟩
    refine iteT' rfl ?_
    refine ⟨_, rfl, _, _, _, _, _, rfl, ClsV.ty _, KnV.t (C := T.C_Wedge) g1, kn_list J .tup, _, rfl, _, _, _, _, _, rfl, ClsV.ty _, KnV.t (C := T.C_Wedge) g2, kn_list J .tup, rfl, _, rfl, ?_⟩
    refine iteF' (by rw [decide_eq_true rfl]; rfl) ?_
    refine ⟨_, rfl, _, _, _, _, _, rfl, ClsV.ty _, KnV.t (C := T.C_Wedge) g1, kn_tup J .tup, _, rfl, _, _, _, _, _, rfl, ClsV.ty _, KnV.t (C := T.C_Wedge) g2, kn_tup J .tup, rfl, _, rfl, ?_⟩
    refine iteF' (by rw [decide_eq_true rfl]; rfl) ?_
    refine ⟨_, rfl, a, xs, rfl, .inr g1, _, rfl, b, ys, rfl, .inr g2, rfl, true, congrArg V.bl (decide_eq_true (by rw [hl])), ?_⟩
    refine ⟨_, rfl, _, rfl, a, b, xs, ys, rfl, .inr ⟨g1, g2, fun D hD => ?_⟩⟩
    refine lcm (walk_zipT (n := xs.length) (by omega)) (List.replicate xs.length (V.bl true)) (by simp) hlen hD (fun H' s => ⟨seqT s g1, seqT s g2⟩) ?_ ?_
    · rintro i y x H1 H2 hi hy s3 ⟨Tp, u, z, rfl, hT, rfl, hu, hz⟩ k hk
      obtain rfl := rep_get hy
      have s2 : Same H1 (upd H1 Tp (.tup [u, z])) := Same.new hT
      refine ⟨Tp, [u, z], rfl, SqT.of upd_same, rfl, u, [z], rfl, z, [], rfl, rfl, rfl, ?_⟩
      exact ⟨_, rfl, _, rfl, n, u, z, rfl, by omega, (he i u z hu hz).same ((s1.trans s3).trans s2), fun H4 s4 => hk H4 (s2.trans s4)⟩
    · intro H' s3 hD'
      refine ⟨D, List.replicate xs.length true, rfl, SqL.of (by rw [hD', List.map_replicate]), ?_⟩
      rw [all_rep]
      exact q H' (s1.trans s3)
theorem ok_like (T : Tx K mg) : ∀ m : Nat, FnOk P w K mg base CX0 m T.f_l_like T.d_l_like ["_law_found", "_law_due"] (spLike K m)
  | 0 => by
    have no : ∀ vs H Q E, ¬ spLike K 0 vs H Q E := fun vs H Q E h => by
      obtain ⟨n, x, y, _, h1, _⟩ := h
      omega
    exact ⟨fun vs H Q E h => absurd h (no vs H Q E), fun A outer s H args us vs Q E _ _ _ _ h => absurd h (no vs H Q E)⟩
  | m + 1 => ok_like_step T (ok_like T m)
end
end TL
namespace TL
open PySem L2
/-! ### what evaluates to what -/
def Ev (te : TE) (σ : L2.St) (H : Hp) (R : Hp → V → Prop) : Prop := ∀ H1, Same H H1 → ∀ Q : VK, (∀ v H2, Same H1 H2 → R H2 v → Q v H2) → te σ H1 Q
def Mono (R : Hp → V → Prop) : Prop := ∀ H H' v, Same H H' → R H v → R H' v
def EvH (ta : TA) (σ : L2.St) (H : Hp) (n : Nat) (R : Hp → V → Prop) : Prop := ∀ H1, Same H H1 → ∀ Q : List V → Hp → Prop, (∀ vs H2, Same H1 H2 → vs.length = n → (∀ v ∈ vs, R H2 v) → Q vs H2) → ta σ H1 Q
def AllR (H : Hp) : List (Hp → V → Prop) → List V → Prop
  | [], [] => True
  | R :: Rs, v :: vs => R H v ∧ AllR H Rs vs
  | _, _ => False
def Monos : List (Hp → V → Prop) → Prop
  | [] => True
  | R :: Rs => Mono R ∧ Monos Rs
theorem AllR.same {H H' : Hp} (s : Same H H') : ∀ {Rs : List (Hp → V → Prop)} {vs : List V}, Monos Rs → AllR H Rs vs → AllR H' Rs vs
  | [], [], _, _ => trivial
  | _ :: _, _ :: _, m, h => ⟨m.1 _ _ _ s h.1, AllR.same s m.2 h.2⟩
  | [], _ :: _, _, h => h.elim
  | _ :: _, [], _, h => h.elim
theorem AllR.len {H : Hp} : ∀ {Rs : List (Hp → V → Prop)} {vs : List V}, AllR H Rs vs → vs.length = Rs.length
  | [], [], _ => rfl
  | _ :: _, _ :: _, h => congrArg Nat.succ (AllR.len h.2)
  | [], _ :: _, h => h.elim
  | _ :: _, [], h => h.elim
theorem AllR.get {H : Hp} : ∀ {Rs : List (Hp → V → Prop)} {vs : List V}, AllR H Rs vs → ∀ (i : Nat) v, vs[i]? = some v → ∃ R, Rs[i]? = some R ∧ R H v
  | R :: _, _ :: _, h, 0, v, e => by cases e; exact ⟨R, rfl, h.1⟩
  | _ :: _, _ :: _, h, i + 1, v, e => AllR.get h.2 i v e
  | [], [], _, i, v, e => by cases e
  | [], _ :: _, h, _, _, _ => h.elim
  | _ :: _, [], h, _, _, _ => h.elim
def Evs (ta : TA) (σ : L2.St) (H : Hp) (Rs : List (Hp → V → Prop)) : Prop := ∀ H1, Same H H1 → ∀ Q : List V → Hp → Prop, (∀ vs H2, Same H1 H2 → AllR H2 Rs vs → Q vs H2) → ta σ H1 Q
def LstR (Rs : List (Hp → V → Prop)) : Hp → V → Prop := fun H v => ∃ p vs, v = .ref p ∧ H p = some (.lst vs) ∧ AllR H Rs vs
def TupR (Rs : List (Hp → V → Prop)) : Hp → V → Prop := fun H v => ∃ p vs, v = .ref p ∧ H p = some (.tup vs) ∧ AllR H Rs vs
def IsV (u : V) : Hp → V → Prop := fun _ v => v = u
theorem mIsV {u : V} : Mono (IsV u) := fun _ _ _ _ h => h
theorem LstR.mono {Rs : List (Hp → V → Prop)} (m : Monos Rs) : Mono (LstR Rs) := fun H H' v s ⟨p, vs, e1, e2, e3⟩ => ⟨p, vs, e1, s _ _ e2, e3.same s m⟩
theorem TupR.mono {Rs : List (Hp → V → Prop)} (m : Monos Rs) : Mono (TupR Rs) := fun H H' v s ⟨p, vs, e1, e2, e3⟩ => ⟨p, vs, e1, s _ _ e2, e3.same s m⟩
section
variable {σ : L2.St} {H : Hp} {te ta tb : TE} {tr : TA} {R A B : Hp → V → Prop} {Rs Ss : List (Hp → V → Prop)} {C : Addr} {E : XK} {n : Nat}
theorem evs_nil : Evs tNil σ H [] := fun H1 _ Q q => q [] H1 (Same.refl _) trivial
theorem evs_cons (h : Ev te σ H R) (m : Mono R) (hr : Evs tr σ H Rs) : Evs (tCons te tr) σ H (R :: Rs) := fun H1 s1 Q q =>
  h H1 s1 _ fun v H2 s2 hv => hr H2 (s1.trans s2) _ fun vs H3 s3 hvs => q (v :: vs) H3 (s2.trans s3) ⟨m _ _ _ s3 hv, hvs⟩
theorem ev_lst (h : Evs tr σ H Rs) (m : Monos Rs) (hz : Rs.length ≤ 1000) : Ev (tLst tr) σ H (LstR Rs) := fun H1 s1 Q q =>
  h H1 s1 _ fun vs H2 s2 hvs => ⟨by rw [hvs.len]; exact Nat.le_of_lt (Nat.lt_of_le_of_lt hz (by decide)), fun p hp =>
    have s3 := Same.new (o := .lst vs) hp
    q _ _ (s2.trans s3) ⟨p, vs, rfl, upd_same, hvs.same s3 m⟩⟩
theorem ev_tup (h : Evs tr σ H Rs) (m : Monos Rs) (hz : Rs.length ≤ 1000) : Ev (tTup tr) σ H (TupR Rs) := fun H1 s1 Q q =>
  h H1 s1 _ fun vs H2 s2 hvs => ⟨by rw [hvs.len]; exact Nat.le_of_lt (Nat.lt_of_le_of_lt hz (by decide)), fun p hp =>
    have s3 := Same.new (o := .tup vs) hp
    q _ _ (s2.trans s3) ⟨p, vs, rfl, upd_same, hvs.same s3 m⟩⟩
theorem ev_var {i : Nat} {v : V} (h : σ[i]? = some (some v)) (hv : ∀ H', Same H H' → R H' v) : Ev (tVar i) σ H R := fun H1 s1 Q q => ⟨_, h, q v H1 (Same.refl _) (hv H1 s1)⟩
theorem ev_c {v : V} (hv : ∀ H', Same H H' → R H' v) : Ev (tC v) σ H R := fun H1 s1 Q q => q v H1 (Same.refl _) (hv H1 s1)
theorem ev_neg {i : Int} (hv : ∀ H', R H' (.int (-i))) : Ev (tUn (rU fun i => V.int (-i)) (tC (.int i))) σ H R := fun H1 _ Q q => ⟨_, rfl, q _ H1 (Same.refl _) (hv H1)⟩
theorem ev_pow {i j : Int} (c : CPow i j) (hv : ∀ H', R H' (.int (i ^ j.toNat))) : Ev (tOp (rI CPow fun i j => .int (i ^ j.toNat)) (tC (.int i)) (tC (.int j))) σ H R := fun H1 _ Q q => ⟨i, j, rfl, rfl, c, q _ H1 (Same.refl _) (hv H1)⟩
theorem evh_nil : EvH tNil σ H 0 R := fun H1 _ Q q => q [] H1 (Same.refl _) rfl (fun v h => by cases h)
theorem evh_cons (m : Mono R) (h : Ev te σ H R) (hr : EvH tr σ H n R) : EvH (tCons te tr) σ H (n + 1) R := fun H1 s1 Q q =>
  h H1 s1 _ fun v H2 s2 hv => hr H2 (s1.trans s2) _ fun vs H3 s3 hl hvs => q (v :: vs) H3 (s2.trans s3) (congrArg Nat.succ hl) fun u hu => by
    rcases List.mem_cons.mp hu with rfl | hu
    · exact m _ _ _ s3 hv
    · exact hvs u hu
theorem AllR.app {H : Hp} : ∀ {Rs Ss : List (Hp → V → Prop)} {vs us : List V}, AllR H Rs vs → AllR H Ss us → AllR H (Rs ++ Ss) (vs ++ us)
  | [], _, [], _, _, k => k
  | _ :: _, _, _ :: _, _, h, k => ⟨h.1, AllR.app h.2 k⟩
  | [], _, _ :: _, _, h, _ => h.elim
  | _ :: _, _, [], _, h, _ => h.elim
theorem Monos.app : ∀ {Rs Ss : List (Hp → V → Prop)}, Monos Rs → Monos Ss → Monos (Rs ++ Ss)
  | [], _, _, k => k
  | _ :: _, _, h, k => ⟨h.1, Monos.app h.2 k⟩
theorem ev_cat (h1 : Ev ta σ H (LstR Rs)) (m1 : Monos Rs) (h2 : Ev tb σ H (LstR Ss)) (m2 : Monos Ss) (hz : Rs.length + Ss.length ≤ 1000) : Ev (tOp rCat ta tb) σ H (LstR (Rs ++ Ss)) := fun H1 s1 Q q =>
  h1 H1 s1 _ fun v H2 s2 hv => h2 H2 (s1.trans s2) _ fun u H3 s3 hu => by
    obtain ⟨p, vs, rfl, e2, e3⟩ := LstR.mono m1 _ _ _ s3 hv
    obtain ⟨r, us, rfl, g2, g3⟩ := hu
    refine ⟨p, r, vs, us, rfl, rfl, e2, g2, by rw [e3.len, g3.len]; exact Nat.le_of_lt (Nat.lt_of_le_of_lt hz (by decide)), fun t ht => ?_⟩
    have s4 := Same.new (o := .lst (vs ++ us)) ht
    exact q _ _ ((s2.trans s3).trans s4) ⟨t, vs ++ us, rfl, upd_same, (e3.same s4 m1).app (g3.same s4 m2)⟩
theorem asg_ev {rest : TS} {D : Ends} {i : Nat} (h : Ev te σ H R) (k : ∀ v H', Same H H' → R H' v → rest D (σ.set i (some v)) H') : tSeq (tAsg te (gName i)) rest D σ H :=
  h H (Same.refl _) _ fun v H1 s1 hv => k v H1 s1 hv
end
end TL
namespace TL.W
open TL
open PySem L2

/-! ### steps of a reading -/
local macro_rules | `(tactic| walk_at "hp") => `(tactic| first | assumption | exact upd_same | (refine (upd_ne (by first | assumption | (exact Ne.symm (by assumption)))).trans ?_; walk_at "hp"))
local macro_rules | `(tactic| walk_at "ok") => `(tactic| first | (exact Or.inr ⟨by decide, by decide⟩) | (exact ⟨by decide, by decide⟩) | (exact ⟨by decide, by decide, by decide⟩) | (show _ ≠ _; omega) | (show _ ≠ _; decide) | (exact Or.inl ⟨by omega, by omega⟩) | decide)
local macro_rules | `(tactic| walk_at "sq") => `(tactic| first | assumption | exact SqL.of (by walk_at "hp") | exact SqT.of (by walk_at "hp"))
local macro_rules | `(tactic| walk_at "ty") => `(tactic| first | refine ⟨_, _, Value.type "int", Value.type "list", false, rfl, ClsV.ty _, TyX.base (TyOf.int _), kt_int_list, ?_⟩ | refine ⟨_, _, Value.type "bool", Value.type "list", false, rfl, ClsV.ty _, TyX.base (TyOf.bl _), kt_bool_list, ?_⟩ | refine ⟨_, _, Value.type "str", Value.type "list", false, rfl, ClsV.ty _, TyX.base (TyOf.str _), kt_str_list, ?_⟩ | refine ⟨_, _, Value.type "NoneType", Value.type "list", false, rfl, ClsV.ty _, TyX.base TyOf.non, kt_NoneType_list, ?_⟩ | refine ⟨_, _, Value.type "list", Value.type "list", true, rfl, ClsV.ty _, tyx_L (by walk_at "sq"), kt_list_list, ?_⟩ | refine ⟨_, _, Value.type "tuple", Value.type "list", false, rfl, ClsV.ty _, tyx_T (by walk_at "sq"), kt_tuple_list, ?_⟩ | refine ⟨_, _, Value.type "int", Value.type "tuple", false, rfl, ClsV.ty _, TyX.base (TyOf.int _), kt_int_tuple, ?_⟩ | refine ⟨_, _, Value.type "bool", Value.type "tuple", false, rfl, ClsV.ty _, TyX.base (TyOf.bl _), kt_bool_tuple, ?_⟩ | refine ⟨_, _, Value.type "str", Value.type "tuple", false, rfl, ClsV.ty _, TyX.base (TyOf.str _), kt_str_tuple, ?_⟩ | refine ⟨_, _, Value.type "NoneType", Value.type "tuple", false, rfl, ClsV.ty _, TyX.base TyOf.non, kt_NoneType_tuple, ?_⟩ | refine ⟨_, _, Value.type "list", Value.type "tuple", false, rfl, ClsV.ty _, tyx_L (by walk_at "sq"), kt_list_tuple, ?_⟩ | refine ⟨_, _, Value.type "tuple", Value.type "tuple", true, rfl, ClsV.ty _, tyx_T (by walk_at "sq"), kt_tuple_tuple, ?_⟩ | refine ⟨_, _, Value.type "int", Value.type "bool", false, rfl, ClsV.ty _, TyX.base (TyOf.int _), kt_int_bool, ?_⟩ | refine ⟨_, _, Value.type "bool", Value.type "bool", true, rfl, ClsV.ty _, TyX.base (TyOf.bl _), kt_bool_bool, ?_⟩ | refine ⟨_, _, Value.type "str", Value.type "bool", false, rfl, ClsV.ty _, TyX.base (TyOf.str _), kt_str_bool, ?_⟩ | refine ⟨_, _, Value.type "NoneType", Value.type "bool", false, rfl, ClsV.ty _, TyX.base TyOf.non, kt_NoneType_bool, ?_⟩ | refine ⟨_, _, Value.type "list", Value.type "bool", false, rfl, ClsV.ty _, tyx_L (by walk_at "sq"), kt_list_bool, ?_⟩ | refine ⟨_, _, Value.type "tuple", Value.type "bool", false, rfl, ClsV.ty _, tyx_T (by walk_at "sq"), kt_tuple_bool, ?_⟩ | refine ⟨_, _, Value.type "int", Value.type "int", true, rfl, ClsV.ty _, TyX.base (TyOf.int _), kt_int_int, ?_⟩ | refine ⟨_, _, Value.type "bool", Value.type "int", true, rfl, ClsV.ty _, TyX.base (TyOf.bl _), kt_bool_int, ?_⟩ | refine ⟨_, _, Value.type "str", Value.type "int", false, rfl, ClsV.ty _, TyX.base (TyOf.str _), kt_str_int, ?_⟩ | refine ⟨_, _, Value.type "NoneType", Value.type "int", false, rfl, ClsV.ty _, TyX.base TyOf.non, kt_NoneType_int, ?_⟩ | refine ⟨_, _, Value.type "list", Value.type "int", false, rfl, ClsV.ty _, tyx_L (by walk_at "sq"), kt_list_int, ?_⟩ | refine ⟨_, _, Value.type "tuple", Value.type "int", false, rfl, ClsV.ty _, tyx_T (by walk_at "sq"), kt_tuple_int, ?_⟩ | refine ⟨_, _, Value.type "int", Value.type "str", false, rfl, ClsV.ty _, TyX.base (TyOf.int _), kt_int_str, ?_⟩ | refine ⟨_, _, Value.type "bool", Value.type "str", false, rfl, ClsV.ty _, TyX.base (TyOf.bl _), kt_bool_str, ?_⟩ | refine ⟨_, _, Value.type "str", Value.type "str", true, rfl, ClsV.ty _, TyX.base (TyOf.str _), kt_str_str, ?_⟩ | refine ⟨_, _, Value.type "NoneType", Value.type "str", false, rfl, ClsV.ty _, TyX.base TyOf.non, kt_NoneType_str, ?_⟩ | refine ⟨_, _, Value.type "list", Value.type "str", false, rfl, ClsV.ty _, tyx_L (by walk_at "sq"), kt_list_str, ?_⟩ | refine ⟨_, _, Value.type "tuple", Value.type "str", false, rfl, ClsV.ty _, tyx_T (by walk_at "sq"), kt_tuple_str, ?_⟩)
local macro_rules | `(tactic| walk_at "go1") => `(tactic| first
  | (refine ⟨_, rfl, ?_⟩)
  | (refine ⟨_, _, rfl, rfl, ?_⟩)
  | (refine ⟨_, _, _, _, rfl, rfl, SqL.of (by walk_at "hp"), rfl, ?_⟩)
  | (refine Or.inl ⟨_, rfl, ?_⟩)
  | (refine ⟨rfl, ?_⟩)
  | (refine ⟨_, _, rfl, .inl (SqL.of (by walk_at "hp")), ?_⟩)
  | (refine ⟨_, _, rfl, Or.inl (by assumption), ?_⟩)
  | (refine ⟨_, _, rfl, Or.inr (by assumption), ?_⟩)
  | (refine ⟨(by walk_at "ok"), ?_⟩)
  | (refine ⟨_, _, _, _, rfl, rfl, (by walk_at "hp"), rfl, ?_⟩))
local macro_rules | `(tactic| walk_at "go") => `(tactic| repeat (walk_at "go1"))
local macro_rules | `(tactic| walk_at "gt") => `(tactic| repeat (first | walk_at "go1" | walk_at "ty"))

section
variable {P : Program} {w : World} {K : PySem.W.Frag} {mg : Str → Option Value} {base : Heap}
-- [] [0=_law_size, 1=_law_found, 2=_law_k, 3=_law_more, 4=_law_one*, 5=_law_first, 6=_law_j]
def TupsL (K : PySem.W.Frag) (H : Hp) (rs : List V) (xss : List (List Nat)) : Prop := rs.length = xss.length ∧ ∀ (i : Nat) r, rs[i]? = some r → ∃ t L, r = .ref t ∧ xss[i]? = some L ∧ SqT K H t (natsV L)
structure LTups (K : PySem.W.Frag) (H : Hp) (a : Addr) (xss : List (List Nat)) : Prop where
  ex : ∃ rs, SqL K H a rs ∧ TupsL K H rs xss
theorem TupsL.same {H H' : Hp} {rs : List V} {xss : List (List Nat)} (h : TupsL K H rs xss) (s : Same H H') : TupsL K H' rs xss := ⟨h.1, fun i r hr => by
  obtain ⟨t, L, e1, e2, e3⟩ := h.2 i r hr
  exact ⟨t, L, e1, e2, seqT s e3⟩⟩
theorem LTups.same {H H' : Hp} {a : Addr} {xss : List (List Nat)} (h : LTups K H a xss) (s : Same H H') : LTups K H' a xss := by
  obtain ⟨rs, h1, h2⟩ := h.ex
  exact ⟨rs, s.seq h1, h2.same s⟩
theorem allR_isv {H : Hp} : ∀ {xs vs : List V}, AllR H (xs.map IsV) vs → vs = xs
  | [], [], _ => rfl
  | x :: xs, v :: vs, h => by rw [show v = x from h.1, allR_isv h.2]
  | [], _ :: _, h => h.elim
  | _ :: _, [], h => h.elim
theorem tups_of {H : Hp} {rs : List V} {xss : List (List Nat)} (h : AllR H (xss.map fun L => TupR ((natsV L).map IsV)) rs) : TupsL K H rs xss := ⟨by rw [h.len, List.length_map], fun i r hr => by
  obtain ⟨R, e1, e2⟩ := h.get i r hr
  rw [List.getElem?_map] at e1
  obtain ⟨L, e3, rfl⟩ := Option.map_eq_some_iff.mp e1
  obtain ⟨t, vs, rfl, e4, e5⟩ := e2
  rw [allR_isv e5] at e4
  exact ⟨t, L, rfl, e3, SqT.of e4⟩⟩
section
variable {σ : L2.St} {H : Hp}
theorem mij {i j : Nat} : Mono (TupR ((natsV [i, j]).map IsV)) := TupR.mono ⟨mIsV, mIsV, trivial⟩
theorem ev_ij (i j : Nat) : Ev (tTup (tCons (tC (V.int (i : Int))) (tCons (tC (V.int (j : Int))) tNil))) σ H (TupR ((natsV [i, j]).map IsV)) :=
  ev_tup (evs_cons (ev_c fun _ _ => rfl) mIsV (evs_cons (ev_c fun _ _ => rfl) mIsV evs_nil)) ⟨mIsV, mIsV, trivial⟩ (by show 2 ≤ 1000; decide)
end
def prL : List (List Nat) := PR.map fun p => [p.1, p.2]
theorem ev_places {σ : L2.St} {H : Hp} : Ev (tLst (tCons (tTup (tCons (tC (V.int 0)) (tCons (tC (V.int 1)) tNil))) (tCons (tTup (tCons (tC (V.int 0)) (tCons (tC (V.int 2)) tNil))) (tCons (tTup (tCons (tC (V.int 0)) (tCons (tC (V.int 3)) tNil))) (tCons (tTup (tCons (tC (V.int 0)) (tCons (tC (V.int 4)) tNil))) (tCons (tTup (tCons (tC (V.int 0)) (tCons (tC (V.int 5)) tNil))) (tCons (tTup (tCons (tC (V.int 1)) (tCons (tC (V.int 2)) tNil))) (tCons (tTup (tCons (tC (V.int 1)) (tCons (tC (V.int 3)) tNil))) (tCons (tTup (tCons (tC (V.int 1)) (tCons (tC (V.int 4)) tNil))) (tCons (tTup (tCons (tC (V.int 1)) (tCons (tC (V.int 5)) tNil))) (tCons (tTup (tCons (tC (V.int 2)) (tCons (tC (V.int 3)) tNil))) (tCons (tTup (tCons (tC (V.int 2)) (tCons (tC (V.int 4)) tNil))) (tCons (tTup (tCons (tC (V.int 2)) (tCons (tC (V.int 5)) tNil))) (tCons (tTup (tCons (tC (V.int 3)) (tCons (tC (V.int 4)) tNil))) (tCons (tTup (tCons (tC (V.int 3)) (tCons (tC (V.int 5)) tNil))) (tCons (tTup (tCons (tC (V.int 4)) (tCons (tC (V.int 5)) tNil))) tNil)))))))))))))))) σ H (LstR (prL.map fun L => TupR ((natsV L).map IsV))) :=
  ev_lst (evs_cons (ev_ij 0 1) mij
    (evs_cons (ev_ij 0 2) mij
    (evs_cons (ev_ij 0 3) mij
    (evs_cons (ev_ij 0 4) mij
    (evs_cons (ev_ij 0 5) mij
    (evs_cons (ev_ij 1 2) mij
    (evs_cons (ev_ij 1 3) mij
    (evs_cons (ev_ij 1 4) mij
    (evs_cons (ev_ij 1 5) mij
    (evs_cons (ev_ij 2 3) mij
    (evs_cons (ev_ij 2 4) mij
    (evs_cons (ev_ij 2 5) mij
    (evs_cons (ev_ij 3 4) mij
    (evs_cons (ev_ij 3 5) mij
    (evs_cons (ev_ij 4 5) mij
    evs_nil)))))))))))))))
    ⟨mij, ⟨mij, ⟨mij, ⟨mij, ⟨mij, ⟨mij, ⟨mij, ⟨mij, ⟨mij, ⟨mij, ⟨mij, ⟨mij, ⟨mij, ⟨mij, ⟨mij, trivial⟩⟩⟩⟩⟩⟩⟩⟩⟩⟩⟩⟩⟩⟩⟩ (by decide)
theorem ok_places (T : Tx K mg) : FnOk P w K mg base CX0 1 T.f_l_places T.d_l_places [] (fun vs H Q _ => vs = [] ∧ ∀ t H', Same H H' → LTups K H' t prL → Q (.ref t) H') := by
  refine T.F_l_places.ok sc_l_places (fun vs H Q E h => ?_) (fun cdv A outer s H vs Q E hr h => ?_)
  · obtain ⟨rfl, _⟩ := h
    rfl
  obtain ⟨rfl, q⟩ := h
  have nd := sc_l_places.nd
  refine ⟨_, (pss_one (ps_ret (pe_lst (pa_cons (pe_tup (pa_cons pe_int (pa_cons pe_int pa_nil))) (pa_cons (pe_tup (pa_cons pe_int (pa_cons pe_int pa_nil))) (pa_cons (pe_tup (pa_cons pe_int (pa_cons pe_int pa_nil))) (pa_cons (pe_tup (pa_cons pe_int (pa_cons pe_int pa_nil))) (pa_cons (pe_tup (pa_cons pe_int (pa_cons pe_int pa_nil))) (pa_cons (pe_tup (pa_cons pe_int (pa_cons pe_int pa_nil))) (pa_cons (pe_tup (pa_cons pe_int (pa_cons pe_int pa_nil))) (pa_cons (pe_tup (pa_cons pe_int (pa_cons pe_int pa_nil))) (pa_cons (pe_tup (pa_cons pe_int (pa_cons pe_int pa_nil))) (pa_cons (pe_tup (pa_cons pe_int (pa_cons pe_int pa_nil))) (pa_cons (pe_tup (pa_cons pe_int (pa_cons pe_int pa_nil))) (pa_cons (pe_tup (pa_cons pe_int (pa_cons pe_int pa_nil))) (pa_cons (pe_tup (pa_cons pe_int (pa_cons pe_int pa_nil))) (pa_cons (pe_tup (pa_cons pe_int (pa_cons pe_int pa_nil))) (pa_cons (pe_tup (pa_cons pe_int (pa_cons pe_int pa_nil))) pa_nil)))))))))))))))))), ?_⟩
  refine ev_places H (Same.refl _) _ fun v H1 s1 hv => ?_
  obtain ⟨p, vs, rfl, hp, ha⟩ := hv
  exact q p H1 s1 ⟨vs, SqL.of hp, tups_of ha⟩
/-- a place further -/
def ext6 (one : List Nat) : List (List Nat) := let f := match one.getLast? with
      | none => 0
      | some x => x + 1
    (List.range' f (6 - f)).map fun j => one ++ [j]
theorem chL_succ (k : Nat) : chL (k + 1) = (chL k).flatMap ext6 := rfl
theorem TupsL.app {H : Hp} {rs ss : List V} {xs ys : List (List Nat)} (h : TupsL K H rs xs) (k : TupsL K H ss ys) : TupsL K H (rs ++ ss) (xs ++ ys) := ⟨by rw [List.length_append, List.length_append, h.1, k.1], fun i r hr => by
  rcases Nat.lt_or_ge i rs.length with z | z
  · rw [List.getElem?_append_left z] at hr
    obtain ⟨t, L, e1, e2, e3⟩ := h.2 i r hr
    exact ⟨t, L, e1, by rw [List.getElem?_append_left (by rw [← h.1]; exact z)]; exact e2, e3⟩
  · rw [List.getElem?_append_right z] at hr
    obtain ⟨t, L, e1, e2, e3⟩ := k.2 _ r hr
    exact ⟨t, L, e1, by rw [List.getElem?_append_right (by rw [← h.1]; exact z), ← h.1]; exact e2, e3⟩⟩
theorem ch_small : ∀ i, i < 7 → (chL i).length ≤ 20 ∧ ((chL i).flatMap ext6).length ≤ 20 := by decide +kernel
def ff (L : List Nat) : Nat := match L.getLast? with
      | none => 0
      | some x => x + 1
theorem ext6_eq (L : List Nat) : ext6 L = (List.range' (ff L) (6 - ff L)).map fun j => L ++ [j] := rfl
theorem ext6_len (L : List Nat) : (ext6 L).length ≤ 6 := by
  rw [ext6_eq, List.length_map, List.length_range']
  omega
theorem ext_len : ∀ l : List (List Nat), (l.flatMap ext6).length ≤ 6 * l.length
  | [] => Nat.le_refl _
  | L :: l => by
    rw [List.flatMap_cons, List.length_append, List.length_cons]
    have := ext6_len L
    have := ext_len l
    omega
theorem natsV_ints (L : List Nat) : natsV L = (L.map fun n : Nat => (n : Int)).map V.int := by
  unfold natsV
  rw [List.map_map]
  rfl
section
variable {σ : L2.St} {H : Hp} {t : Addr} {L : List Nat}
theorem ev_first (hσ : σ[4]? = some (some (.ref t))) (hS : SqT K H t (natsV L)) : Ev (tIf (tTest (tOp (rNeD K) (tVar 4) (tTup tNil)))
                    (tOp (rI0 fun i j => V.int (i + j))
                      (tOp (rIxT K) (tVar 4) (tUn (rU fun i => V.int (-i)) (tC (V.int 1)))) (tC (V.int 1)))
                    (tC (V.int 0))) σ H (IsV (.int (ff L : Int))) := fun H1 s1 Q q => by
  refine ⟨_, hσ, by show 0 ≤ sizeLine; decide, fun p hp => ?_⟩
  have s2 := Same.new (o := .tup []) hp
  have d1 : Dp K (upd H1 p (.tup [])) (.ref t) (.tuple ((L.map fun n : Nat => (n : Int)).map PyData.int)) := .tup (seqT (s1.trans s2) (natsV_ints L ▸ hS)) (dpAll_ints _)
  have d2 : Dp K (upd H1 p (.tup [])) (.ref p) (.tuple ((([] : List Int)).map PyData.int)) := .tup (.inl (.inl upd_same)) (dpAll_ints [])
  refine ⟨_, _, d1, d2, shaped_tupI _, shaped_tupI [], _, rfl, ?_⟩
  rw [eqv_tupI]
  cases h : L.getLast? with
  | none =>
    obtain rfl := List.getLast?_eq_none_iff.mp h
    refine iteF' (by simp) ?_
    exact q _ _ s2 rfl
  | some x =>
    have hne : L ≠ [] := fun z => by rw [z] at h; cases h
    refine iteT' (by simp [hne]) ?_
    obtain ⟨ys, rfl⟩ := List.getLast?_eq_some_iff.mp h
    have e2 : atI (natsV (ys ++ [x])) (-1) = some (.int (x : Int)) := by
      rw [natsV, List.map_append]
      exact atI_last _ _
    refine ⟨_, hσ, _, rfl, t, natsV (ys ++ [x]), -1, .int (x : Int), rfl, rfl, seqT (s1.trans s2) hS, e2, (x : Int), 1, rfl, rfl, q _ _ s2 ?_⟩
    show V.int _ = V.int _
    rw [ff, h]
    rfl
theorem ev_ext {a0 a1 a2 a3 b6 : Option V} (hS : SqT K H t (natsV L)) (h6 : ∀ p ∈ L, p < 6) (hlen : L.length ≤ 100) : Ev (tLc (iRng2 (tCons (tVar 5) (tCons (tC (V.int 6)) tNil))) (gName 6) tYes
                      (tOp (rCatA K) (tVar 4) (tTup (tCons (tVar 6) tNil)))
                      (List.map (fun x : Str × Nat => x.snd) [(Str.ofString "_law_j", 6)])) [a0, a1, a2, a3, some (.ref t), some (.int (ff L : Int)), b6] H (fun H v => ∃ D rs, v = .ref D ∧ H D = some (.lst rs) ∧ TupsL K H rs (ext6 L)) := fun H1 s1 Q q => by
  have hf : ff L ≤ 6 := by
    unfold ff
    cases h : L.getLast? with
    | none => exact Nat.zero_le _
    | some x => exact h6 x (List.mem_of_getLast? h)
  refine ⟨_, rfl, (ff L : Int), 6, rfl, ⟨by omega, by omega, by decide, by decide⟩, fun D hD => ?_⟩
  have en : ((6 : Int) - (ff L : Int)).toNat = 6 - ff L := by omega
  rw [en]
  refine lcsD walk_range (fun n y H' => ∃ p, y = V.ref p ∧ p ≠ D ∧ SqT K H' p (natsV (L ++ [ff L + n]))) (fun n y Ha Hb s ⟨p, a1, a0, a2⟩ => ⟨p, a1, a0, seqT s a2⟩)
    (fun n y Ha zs zs' hz' ⟨p, a1, a0, a2⟩ => ⟨p, a1, a0, seqT_lst hz' a2⟩) (by omega) hD (fun _ _ => trivial) ?_ fun ys H2 hl hys s2 hD2 => ?_
  · rintro n x Ha Hb hn sa ⟨zs, hzs⟩ ⟨rfl, rfl⟩ kk hkk
    refine ⟨rfl, _, rfl, _, rfl, by show 1 ≤ sizeLine; decide, fun p hp => ?_⟩
    have sp := Same.new (o := .tup [.int (((ff L + n : Nat)) : Int)]) hp
    have hpD : p ≠ D := (ne_of_none hzs hp).symm
    have hy : SqT K (upd Hb p (.tup [.int (((ff L + n : Nat)) : Int)])) p (natsV [ff L + n]) := .inl (.inl upd_same)
    have hx : SqT K (upd Hb p (.tup [.int (((ff L + n : Nat)) : Int)])) t (natsV L) := seqT ((s1.trans sa).trans sp) hS
    refine ⟨t, p, natsV L, natsV [ff L + n], rfl, rfl, hx, hy, ?_, fun e => ?_, fun _ e => absurd e (by simp [natsV]), fun e _ p2 hp2 => ?_⟩
    · rw [natsV_len, natsV_len]
      exact Nat.le_of_lt (Nat.lt_of_le_of_lt (by show L.length + 1 ≤ 1000; omega) (by decide))
    · have : L = [] := by simpa [natsV] using e
      subst this
      exact hkk _ _ sp ⟨p, rfl, hpD, hy⟩
    · have sp2 := Same.new (o := .tup (natsV L ++ natsV [ff L + n])) hp2
      refine hkk _ _ (sp.trans sp2) ⟨p2, rfl, (ne_of_none (sp _ _ hzs) hp2).symm, ?_⟩
      rw [show natsV (L ++ [ff L + n]) = natsV L ++ natsV [ff L + n] by rw [natsV, List.map_append]; rfl]
      exact .inl (.inl upd_same)
  · refine q _ H2 s2 ⟨D, ys, rfl, hD2, by rw [hl, ext6_eq, List.length_map, List.length_range'], fun n r hr => ?_⟩
    obtain ⟨p, rfl, _, hp⟩ := hys n r hr
    have hn : n < 6 - ff L := by rw [← hl]; exact (List.getElem?_eq_some_iff.mp hr).1
    refine ⟨p, _, rfl, ?_, hp⟩
    rw [ext6_eq, List.getElem?_map, List.getElem?_range' hn]
    simp
end
theorem ok_choices (T : Tx K mg) : FnOk P w K mg base CX0 1 T.f_l_choices T.d_l_choices ["_law_size"] (fun vs H Q _ => ∃ k : Nat, vs = [.int (k : Int)] ∧ k < 7 ∧ ∀ t H', Same H H' → LTups K H' t (chL k) → Q (.ref t) H') := by
  refine T.F_l_choices.ok sc_l_choices (fun vs H Q E h => ?_) (fun cdv A outer s H vs Q E hr h => ?_)
  · obtain ⟨k, rfl, _⟩ := h
    rfl
  obtain ⟨k, rfl, hk, q⟩ := h
  have nd := sc_l_choices.nd
  refine ⟨_, (pss_cons (ps_set (i := 1) nd rfl (Or.inl rfl) (pe_lst (pa_cons (pe_tup pa_nil) pa_nil)))
    (pss_cons (ps_for PassesOwn.never rfl (pi_range1 (by rfl) T.z_range (pa_cons (pv 0) pa_nil)) (pg_name (i := 2) nd rfl (Or.inl rfl)) (pss_cons (ps_set (i := 3) nd rfl (Or.inl rfl) (pe_lst pa_nil))
    (pss_cons (ps_for PassesOwn.never rfl (show PI _ _ _ (iList K _) from pi_list (pv 1)) (pg_name (i := 4) nd rfl (Or.inr rfl)) (pss_cons (ps_set (i := 5) nd rfl (Or.inl rfl) (pe_ifExp (pt_cmpR (show OpR _ _ (rNeD K) from op_neD hr.units) (pv 4) (pe_tup pa_nil) (nomark _)) (pe_op op_add (pe_ix (show IxR _ (rIxT K) from ix_tup) (pv 4) (pe_un un_neg pe_int) (fun _ _ => rfl)) pe_int) pe_int))
    (pss_one (ps_set (i := 3) nd rfl (Or.inl rfl) (pe_op op_cat (pv 3) (pe_lc (own := [("_law_j", 6)]) (g := (gName 6)) rfl nd (pi_range2 (by rfl) T.z_range (pa_cons (pv 5) (pa_cons pe_int pa_nil))) (blkOk_by (own := [("_law_j", 6)]) (N := N_l_choices) (sc := defScope s_l_choices) (by decide +kernel)) (fun _ _ _ _ _ => by exact (pg_name (i := 6) nd rfl (Or.inl rfl))) (fun _ _ _ _ _ => by exact pts_nil) (fun _ _ _ _ _ => by exact (pe_op (show OpR _ (binaryOp .Add) (rCatA K) from op_catA) (pv 4) (pe_tup (pa_cons (pv 6) pa_nil))))))))))
    (pss_one (ps_set (i := 1) nd rfl (Or.inl rfl) (pv 3))))))
    (pss_one (ps_ret (pv 1))))), ?_⟩
  refine asg_ev (ev_lst (evs_cons (ev_tup evs_nil trivial (by decide)) (TupR.mono trivial) evs_nil) ⟨TupR.mono trivial, trivial⟩ (by show 1 ≤ 1000; decide)) fun v H1 s1 hv => ?_
  obtain ⟨F, fs, rfl, hF, hfs⟩ := hv
  have hF0 : LTups K H1 F (chL 0) := ⟨fs, SqL.of hF, tups_of (xss := [[]]) hfs⟩
  refine ⟨_, rfl, (k : Int), rfl, by omega, by omega, for_range (lo := 0) (n := (k : Int).toNat) (fun i σ' H' => (∃ F b2 b3 b4 b5 b6, σ' = [some (.int (k : Int)), some (.ref F), b2, b3, b4, b5, b6] ∧ LTups K H' F (chL i)) ∧ Same H H') ⟨⟨F, _, _, _, _, _, rfl, hF0⟩, s1⟩ ?_ ?_⟩
  · rintro i σ' H2 hi ⟨⟨F, b2, b3, b4, b5, b6, rfl, hF⟩, s2⟩
    refine asg_ev (ev_lst evs_nil trivial (by decide)) fun v H3 s3 hv => ?_
    obtain ⟨M0, ms, rfl, hM0, hms⟩ := hv
    obtain ⟨rs, hrs, ht⟩ := hF.ex
    refine ⟨_, rfl, F, rfl, ⟨_, s3.seq hrs⟩, for_it (walk_list (K := K) (a := F) (xs := rs)) (fun j σ' H' => (∃ M ms b4 b5 b6, σ' = [some (.int (k : Int)), some (.ref F), some (.int (i : Int)), some (.ref M), b4, b5, b6] ∧ H' M = some (.lst ms) ∧ TupsL K H' ms (((chL i).take j).flatMap ext6)) ∧ Same H3 H') ⟨⟨M0, ms, _, _, _, by rw [Int.zero_add]; rfl, hM0, tups_of (xss := []) hms⟩, Same.refl _⟩ (fun _ _ _ _ h => (s3.trans h.2).seq hrs) ?_ ?_⟩
    · rintro j x σ' H4 H5 hj ⟨⟨M, ms, b4, b5, b6, rfl, hM, hm⟩, s4⟩ ⟨rfl, hx⟩
      have hj' : j < (chL i).length := by rw [← ht.1]; exact hj
      obtain ⟨t, L, rfl, hL, hS⟩ := ht.2 j x hx
      have hi7 : i < 7 := by omega
      have hb := ch_small i hi7
      have hmem : L ∈ chL i := List.mem_of_getElem? hL
      have hL6 := (ch_len i hi7 L hmem)
      have hS5 : SqT K H5 t (natsV L) := seqT s4 (seqT s3 hS)
      have et : ((chL i).take (j + 1)).flatMap ext6 = ((chL i).take j).flatMap ext6 ++ ext6 L := by
        rw [List.take_succ, hL, List.flatMap_append]
        show _ ++ [L].flatMap ext6 = _
        rw [List.flatMap_singleton]
      have hz : (((chL i).take j).flatMap ext6).length + (ext6 L).length ≤ 1000 := by
        have h1 := ext_len ((chL i).take j)
        have h2 := ext6_len L
        have h3 : ((chL i).take j).length ≤ 20 := Nat.le_trans (List.length_take_le' ..) hb.1
        omega
      show tSeq _ _ _ _ _
      refine asg_ev (ev_first (L := L) (t := t) rfl hS5) fun v H6 s6 hv => ?_
      cases hv
      refine ⟨_, rfl, ev_ext (K := K) (L := L) (seqT s6 hS5) hL6.2 (by omega) _ (Same.refl _) _ fun v H7 s7 hv => ?_⟩
      obtain ⟨E2, es, rfl, hE, hes⟩ := hv
      have hM7 := s7 _ _ (s6 _ _ hM)
      have hm7 := (hm.same s6).same s7
      have hsz : ms.length + es.length ≤ sizeLine := by
        rw [hm.1, hes.1]
        exact Nat.le_of_lt (Nat.lt_of_le_of_lt hz (by decide))
      refine ⟨M, E2, ms, es, rfl, rfl, hM7, hE, hsz, fun p hp => ?_⟩
      have s8 := Same.new (o := .lst (ms ++ es)) hp
      refine ⟨⟨p, ms ++ es, _, _, _, rfl, upd_same, ?_⟩, ((s4.trans s6).trans s7).trans s8⟩
      rw [et]
      exact (hm7.same s8).app (hes.same s8)
    · rintro σ' H4 ⟨⟨M, ms, b4, b5, b6, rfl, hM, hm⟩, s4⟩
      rw [ht.1, List.take_length, ← chL_succ] at hm
      exact ⟨_, rfl, ⟨M, _, _, _, _, _, rfl, ms, SqL.of hM, hm⟩, (s2.trans s3).trans s4⟩
  · rintro σ' H' ⟨⟨F, b2, b3, b4, b5, b6, rfl, hF⟩, s2⟩
    exact ⟨_, rfl, q F H' s2 hF⟩
end
end TL.W
namespace TL.W
open TL
open PySem L2

/-! ### steps of a reading -/
local macro_rules | `(tactic| walk_at "hp") => `(tactic| first | assumption | exact upd_same | (refine (upd_ne (by first | assumption | (exact Ne.symm (by assumption)))).trans ?_; walk_at "hp"))
local macro_rules | `(tactic| walk_at "ok") => `(tactic| first | (exact Or.inr ⟨by decide, by decide⟩) | (exact ⟨by decide, by decide⟩) | (exact ⟨by decide, by decide, by decide⟩) | (show _ ≠ _; omega) | (show _ ≠ _; decide) | (exact Or.inl ⟨by omega, by omega⟩) | decide)
local macro_rules | `(tactic| walk_at "sq") => `(tactic| first | assumption | exact SqL.of (by walk_at "hp") | exact SqT.of (by walk_at "hp"))
local macro_rules | `(tactic| walk_at "ty") => `(tactic| first | refine ⟨_, _, Value.type "int", Value.type "list", false, rfl, ClsV.ty _, TyX.base (TyOf.int _), kt_int_list, ?_⟩ | refine ⟨_, _, Value.type "bool", Value.type "list", false, rfl, ClsV.ty _, TyX.base (TyOf.bl _), kt_bool_list, ?_⟩ | refine ⟨_, _, Value.type "str", Value.type "list", false, rfl, ClsV.ty _, TyX.base (TyOf.str _), kt_str_list, ?_⟩ | refine ⟨_, _, Value.type "NoneType", Value.type "list", false, rfl, ClsV.ty _, TyX.base TyOf.non, kt_NoneType_list, ?_⟩ | refine ⟨_, _, Value.type "list", Value.type "list", true, rfl, ClsV.ty _, tyx_L (by walk_at "sq"), kt_list_list, ?_⟩ | refine ⟨_, _, Value.type "tuple", Value.type "list", false, rfl, ClsV.ty _, tyx_T (by walk_at "sq"), kt_tuple_list, ?_⟩ | refine ⟨_, _, Value.type "int", Value.type "tuple", false, rfl, ClsV.ty _, TyX.base (TyOf.int _), kt_int_tuple, ?_⟩ | refine ⟨_, _, Value.type "bool", Value.type "tuple", false, rfl, ClsV.ty _, TyX.base (TyOf.bl _), kt_bool_tuple, ?_⟩ | refine ⟨_, _, Value.type "str", Value.type "tuple", false, rfl, ClsV.ty _, TyX.base (TyOf.str _), kt_str_tuple, ?_⟩ | refine ⟨_, _, Value.type "NoneType", Value.type "tuple", false, rfl, ClsV.ty _, TyX.base TyOf.non, kt_NoneType_tuple, ?_⟩ | refine ⟨_, _, Value.type "list", Value.type "tuple", false, rfl, ClsV.ty _, tyx_L (by walk_at "sq"), kt_list_tuple, ?_⟩ | refine ⟨_, _, Value.type "tuple", Value.type "tuple", true, rfl, ClsV.ty _, tyx_T (by walk_at "sq"), kt_tuple_tuple, ?_⟩ | refine ⟨_, _, Value.type "int", Value.type "bool", false, rfl, ClsV.ty _, TyX.base (TyOf.int _), kt_int_bool, ?_⟩ | refine ⟨_, _, Value.type "bool", Value.type "bool", true, rfl, ClsV.ty _, TyX.base (TyOf.bl _), kt_bool_bool, ?_⟩ | refine ⟨_, _, Value.type "str", Value.type "bool", false, rfl, ClsV.ty _, TyX.base (TyOf.str _), kt_str_bool, ?_⟩ | refine ⟨_, _, Value.type "NoneType", Value.type "bool", false, rfl, ClsV.ty _, TyX.base TyOf.non, kt_NoneType_bool, ?_⟩ | refine ⟨_, _, Value.type "list", Value.type "bool", false, rfl, ClsV.ty _, tyx_L (by walk_at "sq"), kt_list_bool, ?_⟩ | refine ⟨_, _, Value.type "tuple", Value.type "bool", false, rfl, ClsV.ty _, tyx_T (by walk_at "sq"), kt_tuple_bool, ?_⟩ | refine ⟨_, _, Value.type "int", Value.type "int", true, rfl, ClsV.ty _, TyX.base (TyOf.int _), kt_int_int, ?_⟩ | refine ⟨_, _, Value.type "bool", Value.type "int", true, rfl, ClsV.ty _, TyX.base (TyOf.bl _), kt_bool_int, ?_⟩ | refine ⟨_, _, Value.type "str", Value.type "int", false, rfl, ClsV.ty _, TyX.base (TyOf.str _), kt_str_int, ?_⟩ | refine ⟨_, _, Value.type "NoneType", Value.type "int", false, rfl, ClsV.ty _, TyX.base TyOf.non, kt_NoneType_int, ?_⟩ | refine ⟨_, _, Value.type "list", Value.type "int", false, rfl, ClsV.ty _, tyx_L (by walk_at "sq"), kt_list_int, ?_⟩ | refine ⟨_, _, Value.type "tuple", Value.type "int", false, rfl, ClsV.ty _, tyx_T (by walk_at "sq"), kt_tuple_int, ?_⟩ | refine ⟨_, _, Value.type "int", Value.type "str", false, rfl, ClsV.ty _, TyX.base (TyOf.int _), kt_int_str, ?_⟩ | refine ⟨_, _, Value.type "bool", Value.type "str", false, rfl, ClsV.ty _, TyX.base (TyOf.bl _), kt_bool_str, ?_⟩ | refine ⟨_, _, Value.type "str", Value.type "str", true, rfl, ClsV.ty _, TyX.base (TyOf.str _), kt_str_str, ?_⟩ | refine ⟨_, _, Value.type "NoneType", Value.type "str", false, rfl, ClsV.ty _, TyX.base TyOf.non, kt_NoneType_str, ?_⟩ | refine ⟨_, _, Value.type "list", Value.type "str", false, rfl, ClsV.ty _, tyx_L (by walk_at "sq"), kt_list_str, ?_⟩ | refine ⟨_, _, Value.type "tuple", Value.type "str", false, rfl, ClsV.ty _, tyx_T (by walk_at "sq"), kt_tuple_str, ?_⟩)
local macro_rules | `(tactic| walk_at "go1") => `(tactic| first
  | (refine ⟨_, rfl, ?_⟩)
  | (refine ⟨_, _, rfl, rfl, ?_⟩)
  | (refine ⟨_, _, _, _, rfl, rfl, SqL.of (by walk_at "hp"), rfl, ?_⟩)
  | (refine Or.inl ⟨_, rfl, ?_⟩)
  | (refine ⟨rfl, ?_⟩)
  | (refine ⟨_, _, rfl, .inl (SqL.of (by walk_at "hp")), ?_⟩)
  | (refine ⟨_, _, rfl, Or.inl (by assumption), ?_⟩)
  | (refine ⟨_, _, rfl, Or.inr (by assumption), ?_⟩)
  | (refine ⟨(by walk_at "ok"), ?_⟩)
  | (refine ⟨_, _, _, _, rfl, rfl, (by walk_at "hp"), rfl, ?_⟩))
local macro_rules | `(tactic| walk_at "go") => `(tactic| repeat (walk_at "go1"))
local macro_rules | `(tactic| walk_at "gt") => `(tactic| repeat (first | walk_at "go1" | walk_at "ty"))

section
variable {P : Program} {w : World} {K : PySem.W.Frag} {mg : Str → Option Value} {base : Heap}
-- [0=_law_table, 1=_law_found, 2=_law_number, 3=_law_p, 4=_law_q] [0=_law_matrix, 1=_law_places_here, 2=_law_total, 3=_law_sign, 4=_law_k]
theorem seqL_lst {K : PySem.W.Frag} {H : Hp} {a p : Addr} {zs xs : List V} {o : HO} (hp : H p = some (.lst zs)) (hl : zs.length ≠ xs.length) (h : SqL K H a xs) : SqL K (upd H p o) a xs := by
  rcases h with (h | ⟨u, h⟩) | h
  · exact .inl (.inl (by rw [upd_ne (ne_of h hp (by intro z; cases z; exact hl rfl))]; exact h))
  · exact .inl (.inr ⟨u, by rw [upd_ne (ne_of h hp (by intro z; cases z))]; exact h⟩)
  · exact .inr h
theorem TupsL.put {H : Hp} {rs zs : List V} {xss : List (List Nat)} {p : Addr} {o : HO} (hp : H p = some (.lst zs)) (h : TupsL K H rs xss) : TupsL K (upd H p o) rs xss := ⟨h.1, fun i r hr => by
  obtain ⟨t, L, e1, e2, e3⟩ := h.2 i r hr
  exact ⟨t, L, e1, e2, seqT_lst hp e3⟩⟩
def spSquare (K : PySem.W.Frag) : Sp := fun vs H Q _ => ∃ (a : Addr) (ps : List Int), vs = [.ref a] ∧ SqL K H a (ps.map V.int) ∧ ps.length = 15 ∧ ∀ t H', Same H H' → Mat H' t (wmat ps) → Q (.ref t) H'
theorem ok_lsquare (T : Tx K mg) : FnOk P w K mg base CX0 2 T.f_l_square T.d_l_square ["_law_table"] (spSquare K) := by
  have G_l_places := ok_places (P := P) (w := w) (base := base) T
  refine T.F_l_square.ok sc_l_square (fun vs H Q E h => ?_) (fun cdv A outer s H vs Q E hr h => ?_)
  · obtain ⟨a, ps, rfl, _⟩ := h
    rfl
  obtain ⟨a, ps, rfl, ha, hl, q⟩ := h
  have nd := sc_l_square.nd
  refine ⟨_, (pss_cons (ps_setLc (i := 1) (own := [("_law_p", 3)]) (g := (gName 3)) rfl nd rfl rfl (sw_true rfl rfl rfl (by decide +kernel)) (pi_range1 (by rfl) T.z_range (pa_cons pe_int pa_nil)) (blkOk_by (own := [("_law_p", 3)]) (N := N_l_square) (sc := defScope s_l_square) (by decide +kernel)) (fun _ _ _ _ _ => by exact (pg_name (i := 3) nd rfl (Or.inl rfl))) (fun _ _ _ _ _ => by exact pts_nil) (fun _ _ _ _ _ => by exact (pe_lc (own := [("_law_q", 4)]) (g := (gName 4)) rfl nd (pi_range1 (by rfl) T.z_range (pa_cons pe_int pa_nil)) (show BlkOk N_l_square { kind := .function, names := [(".0", .local), ("_law_p", .local), ("range", .globalImplicit)], isGenerator := false, isCoroutine := false } { kind := .function, names := [(".0", .local), ("_law_q", .local)], isGenerator := false, isCoroutine := false } [("_law_q", 4)] from blkOk_by (by decide +kernel)) (fun _ _ _ _ _ => by exact (pg_name (i := 4) nd rfl (Or.inl rfl))) (fun _ _ _ _ _ => by exact pts_nil) (fun _ _ _ _ _ => by exact pe_int))))
    (pss_cons (ps_for PassesOwn.never rfl (show PI _ _ _ (RZ.iZipA K _) from RZ.pi_zipA (by rfl) T.z_zip (pa_cons (pv 0) (pa_cons (pe_call0 G_l_places (hr.mono (by decide)) (by rfl) T.m_l_places T.F_l_places.kp T.b_l_places .nil pass0) pa_nil))) (pg_tup rfl (pgs_cons (pg_name (i := 2) nd rfl (Or.inl rfl)) (pgs_cons (pg_tup rfl (pgs_cons (pg_name (i := 3) nd rfl (Or.inl rfl)) (pgs_cons (pg_name (i := 4) nd rfl (Or.inl rfl)) pgs_nil))) pgs_nil))) (pss_cons (ps_asg (pv 2) (pg_sub (pe_ix (show IxR _ (rIxL K) from ix_list) (pv 1) (pv 3) (fun _ _ => rfl)) (pv 4) set_list))
    (pss_one (ps_asg (pe_op op_sub pe_int (pv 2)) (pg_sub (pe_ix (show IxR _ (rIxL K) from ix_list) (pv 1) (pv 4) (fun _ _ => rfl)) (pv 3) set_list)))))
    (pss_one (ps_ret (pv 1))))), ?_⟩
  refine ⟨6, rfl, by decide, by decide, fun D hD => ?_⟩
  refine lcsN (walk_range (n := 6)) (fun i y H' => ∃ t, y = V.ref t ∧ t ≠ D ∧ H t = none ∧ H' t = some (.lst ((List.replicate 6 (0 : Int)).map V.int))) (fun i y H1 H2 s1 ⟨t, a1, a0, af, a3⟩ => ⟨t, a1, a0, af, s1 _ _ a3⟩)
    (fun i y H1 zs zs' hz' ⟨t, a1, a0, af, a3⟩ => ⟨t, a1, a0, af, by rw [upd_ne a0]; exact a3⟩) (fun i y H1 ⟨t, a1, a0, af, a3⟩ => ⟨t, _, a1, a3⟩) (by decide) hD (fun _ _ => trivial) ?_ fun ys H1 hyl hnd hys s1 hD1 => ?_
  · rintro i x H1 H2 hi s1 ⟨zs, hz⟩ ⟨rfl, rfl⟩ k hk
    refine ⟨rfl, 6, rfl, by decide, by decide, fun p2 hp2 => ?_⟩
    refine lcm (walk_range (n := 6)) ((List.replicate 6 (0 : Int)).map V.int) (by decide) (by decide) hp2 (fun _ _ => trivial) ?_ fun H3 s3 h3 => hk _ _ s3 ⟨p2, rfl, (ne_of_none hz hp2).symm, s1.free hp2, h3⟩ ⟨p2, rfl, hp2⟩
    rintro t y x H3 H4 hi3 hy s3 ⟨rfl, rfl⟩ k3 hk3
    obtain rfl : y = V.int 0 := by
      rw [List.getElem?_map, List.getElem?_replicate, if_pos hi3] at hy
      exact (Option.some.inj hy).symm
    exact ⟨rfl, hk3 _ (Same.refl _)⟩
  have m0 : MatL H1 ys (wmatN ps 0) := ⟨hyl, fun i r hr => by
    obtain ⟨t, a1, a0, af, a3⟩ := hys i r hr
    have hi : i < 6 := by
      have := (List.getElem?_eq_some_iff.mp hr).1
      rw [hyl] at this
      exact this
    exact ⟨t, _, a1, by show (List.replicate 6 (List.replicate 6 (0 : Int)))[i]? = some (List.replicate 6 (0 : Int)); rw [List.getElem?_replicate, if_pos hi], a3⟩⟩
  have hfr : ∀ (i : Nat) t, ys[i]? = some (V.ref t) → H t = none ∧ t ≠ D := fun i r hr => by
    obtain ⟨t, a1, a0, af, a3⟩ := hys i _ hr
    cases a1
    exact ⟨af, a0⟩
  clear hys
  refine ⟨_, rfl, rfl, fun PL H2 s2 hPL => ?_⟩
  have s12 := s1.trans s2
  obtain ⟨prs, hprs, hprt⟩ := hPL.ex
  have hprl : prs.length = 15 := by rw [hprt.1]; rfl
  refine ⟨a, PL, _, _, rfl, .inl ⟨s12.seq ha, hprs, for_it (walk_zip (n := 15) (by rw [List.length_map, hl, hprl]; rfl)) (fun i σ H' => Same H H' ∧ (∃ a2 a3 a4, σ = [some (.ref a), some (.ref D), a2, a3, a4]) ∧ H' D = some (.lst ys) ∧ MatL H' ys (wmatN ps i) ∧ SqL K H' PL prs ∧ TupsL K H' prs prL) ⟨s12, ⟨_, _, _, rfl⟩, s2 _ _ hD1, m0.same s2, hprs, hprt⟩ (fun i σ H' _ h => ⟨h.1.seq ha, h.2.2.2.2.1⟩) ?_ ?_⟩⟩
  · rintro i v σ H2 H3 hi ⟨s2, ⟨a2, a3, a4, rfl⟩, hD2, m2, hp2, ht2⟩ ⟨tt, z, u, rfl, htt, rfl, hz, hu⟩
    replace hu : prs[i]? = some u := hu
    replace hz : (ps.map V.int)[i]? = some z := hz
    rw [List.getElem?_map] at hz
    obtain ⟨n, hn, rfl⟩ := Option.map_eq_some_iff.mp hz
    obtain ⟨pt, L, rfl, hL, hsq⟩ := ht2.2 i u hu
    unfold prL at hL
    rw [List.getElem?_map] at hL
    obtain ⟨⟨pi, qi⟩, hpr, rfl⟩ := Option.map_eq_some_iff.mp hL
    have b6 := pr_lt hpr
    have st := Same.new (o := .tup [V.int n, V.ref pt]) htt
    have hD3 := st _ _ hD2
    have m3 := m2.same st
    have s3 := s2.trans st
    have hp3 := st.seq hp2
    have ht3 := ht2.same st
    have hsq3 := seqT st hsq
    refine ⟨tt, _, rfl, SqT.of upd_same, rfl, _, _, rfl, _, _, rfl, ⟨pt, _, rfl, hsq3, rfl, _, _, rfl, _, _, rfl, rfl, rfl, ?_⟩⟩
    generalize upd H2 tt (.tup [.int n, .ref pt]) = H4 at *
    have len6 : ∀ k, (wmatN ps k).length = 6 := wmatN_len ps
    obtain ⟨tp, gp, gp2⟩ := m3.at (i := pi) (by rw [len6]; exact b6.1)
    have wl := wmatN_row ps i
    have rowp := wl _ (getD_mem (i := pi) (by rw [len6]; exact b6.1))
    refine ⟨_, rfl, _, rfl, _, rfl, _, _, _, _, rfl, rfl, SqL.of hD3, at_of (j := pi) rfl gp, _, rfl, tp, _, _, qi, rfl, rfl, gp2, ixN_at (by rw [List.length_map, rowp]; exact b6.2), ?_⟩
    have em : ∀ (r : List Int) (k : Nat) (v : Int), (r.map V.int).set k (V.int v) = (r.set k v).map V.int := fun r k v => (List.map_set ..).symm
    rw [em]
    have nD := (hfr pi tp gp).2
    have m4 := m3.put hnd (row := ((wmatN ps i).getD pi []).set qi n) gp
    have s4 := s3.upd_new (o := .lst ((((wmatN ps i).getD pi []).set qi n).map V.int)) (hfr pi tp gp).1
    have hD4 : upd H4 tp (.lst ((((wmatN ps i).getD pi []).set qi n).map V.int)) D = some (.lst ys) := by rw [upd_ne nD.symm]; exact hD3
    have hp4 : SqL K (upd H4 tp (.lst ((((wmatN ps i).getD pi []).set qi n).map V.int))) PL prs := seqL_lst gp2 (by rw [List.length_map, rowp, hprl]; decide) hp3
    have ht4 : TupsL K (upd H4 tp (.lst ((((wmatN ps i).getD pi []).set qi n).map V.int))) prs prL := ht3.put gp2
    have e4 : (wmatN ps i).set pi (((wmatN ps i).getD pi []).set qi n) = set2 (wmatN ps i) pi qi n := rfl
    rw [e4] at m4
    have wl4 := set2_row pi qi n wl
    have ln4 : (set2 (wmatN ps i) pi qi n).length = 6 := by rw [set2_len, len6]
    generalize upd H4 tp (.lst ((((wmatN ps i).getD pi []).set qi n).map V.int)) = H5 at *
    have efin : wmatN ps (i + 1) = set2 (set2 (wmatN ps i) pi qi n) qi pi (-n) := by
      rw [wmatN, List.getD_eq_getElem?_getD, hpr, List.getD_eq_getElem?_getD, hn]
      rfl
    rw [efin]
    generalize set2 (wmatN ps i) pi qi n = M4 at *
    obtain ⟨tq, gq, gq2⟩ := m4.at (i := qi) (by rw [ln4]; exact b6.2)
    have rowq := wl4 _ (getD_mem (i := qi) (by rw [ln4]; exact b6.2))
    refine ⟨_, rfl, 0, n, rfl, rfl, _, rfl, _, rfl, _, _, _, _, rfl, rfl, SqL.of hD4, at_of (j := qi) rfl gq, _, rfl, tq, _, _, pi, rfl, rfl, gq2, ixN_at (by rw [List.length_map, rowq]; exact b6.1), ?_⟩
    rw [em, Int.zero_sub]
    refine ⟨s4.upd_new (hfr qi tq gq).1, ⟨_, _, _, rfl⟩, by rw [upd_ne (hfr qi tq gq).2.symm]; exact hD4, m4.put hnd gq, seqL_lst gq2 (by rw [List.length_map, rowq, hprl]; decide) hp4, ht4.put gq2⟩
  · rintro σ H2 ⟨s2, ⟨a2, a3, a4, rfl⟩, hD2, m2, _⟩
    exact ⟨_, rfl, q D H2 s2 ⟨ys, hD2, m2⟩⟩
end
end TL.W
namespace TL.W
open TL
open PySem L2

/-! ### steps of a reading -/
local macro_rules | `(tactic| walk_at "hp") => `(tactic| first | assumption | exact upd_same | (refine (upd_ne (by first | assumption | (exact Ne.symm (by assumption)))).trans ?_; walk_at "hp"))
local macro_rules | `(tactic| walk_at "ok") => `(tactic| first | (exact Or.inr ⟨by decide, by decide⟩) | (exact ⟨by decide, by decide⟩) | (exact ⟨by decide, by decide, by decide⟩) | (show _ ≠ _; omega) | (show _ ≠ _; decide) | (exact Or.inl ⟨by omega, by omega⟩) | decide)
local macro_rules | `(tactic| walk_at "sq") => `(tactic| first | assumption | exact SqL.of (by walk_at "hp") | exact SqT.of (by walk_at "hp"))
local macro_rules | `(tactic| walk_at "ty") => `(tactic| first | refine ⟨_, _, Value.type "int", Value.type "list", false, rfl, ClsV.ty _, TyX.base (TyOf.int _), kt_int_list, ?_⟩ | refine ⟨_, _, Value.type "bool", Value.type "list", false, rfl, ClsV.ty _, TyX.base (TyOf.bl _), kt_bool_list, ?_⟩ | refine ⟨_, _, Value.type "str", Value.type "list", false, rfl, ClsV.ty _, TyX.base (TyOf.str _), kt_str_list, ?_⟩ | refine ⟨_, _, Value.type "NoneType", Value.type "list", false, rfl, ClsV.ty _, TyX.base TyOf.non, kt_NoneType_list, ?_⟩ | refine ⟨_, _, Value.type "list", Value.type "list", true, rfl, ClsV.ty _, tyx_L (by walk_at "sq"), kt_list_list, ?_⟩ | refine ⟨_, _, Value.type "tuple", Value.type "list", false, rfl, ClsV.ty _, tyx_T (by walk_at "sq"), kt_tuple_list, ?_⟩ | refine ⟨_, _, Value.type "int", Value.type "tuple", false, rfl, ClsV.ty _, TyX.base (TyOf.int _), kt_int_tuple, ?_⟩ | refine ⟨_, _, Value.type "bool", Value.type "tuple", false, rfl, ClsV.ty _, TyX.base (TyOf.bl _), kt_bool_tuple, ?_⟩ | refine ⟨_, _, Value.type "str", Value.type "tuple", false, rfl, ClsV.ty _, TyX.base (TyOf.str _), kt_str_tuple, ?_⟩ | refine ⟨_, _, Value.type "NoneType", Value.type "tuple", false, rfl, ClsV.ty _, TyX.base TyOf.non, kt_NoneType_tuple, ?_⟩ | refine ⟨_, _, Value.type "list", Value.type "tuple", false, rfl, ClsV.ty _, tyx_L (by walk_at "sq"), kt_list_tuple, ?_⟩ | refine ⟨_, _, Value.type "tuple", Value.type "tuple", true, rfl, ClsV.ty _, tyx_T (by walk_at "sq"), kt_tuple_tuple, ?_⟩ | refine ⟨_, _, Value.type "int", Value.type "bool", false, rfl, ClsV.ty _, TyX.base (TyOf.int _), kt_int_bool, ?_⟩ | refine ⟨_, _, Value.type "bool", Value.type "bool", true, rfl, ClsV.ty _, TyX.base (TyOf.bl _), kt_bool_bool, ?_⟩ | refine ⟨_, _, Value.type "str", Value.type "bool", false, rfl, ClsV.ty _, TyX.base (TyOf.str _), kt_str_bool, ?_⟩ | refine ⟨_, _, Value.type "NoneType", Value.type "bool", false, rfl, ClsV.ty _, TyX.base TyOf.non, kt_NoneType_bool, ?_⟩ | refine ⟨_, _, Value.type "list", Value.type "bool", false, rfl, ClsV.ty _, tyx_L (by walk_at "sq"), kt_list_bool, ?_⟩ | refine ⟨_, _, Value.type "tuple", Value.type "bool", false, rfl, ClsV.ty _, tyx_T (by walk_at "sq"), kt_tuple_bool, ?_⟩ | refine ⟨_, _, Value.type "int", Value.type "int", true, rfl, ClsV.ty _, TyX.base (TyOf.int _), kt_int_int, ?_⟩ | refine ⟨_, _, Value.type "bool", Value.type "int", true, rfl, ClsV.ty _, TyX.base (TyOf.bl _), kt_bool_int, ?_⟩ | refine ⟨_, _, Value.type "str", Value.type "int", false, rfl, ClsV.ty _, TyX.base (TyOf.str _), kt_str_int, ?_⟩ | refine ⟨_, _, Value.type "NoneType", Value.type "int", false, rfl, ClsV.ty _, TyX.base TyOf.non, kt_NoneType_int, ?_⟩ | refine ⟨_, _, Value.type "list", Value.type "int", false, rfl, ClsV.ty _, tyx_L (by walk_at "sq"), kt_list_int, ?_⟩ | refine ⟨_, _, Value.type "tuple", Value.type "int", false, rfl, ClsV.ty _, tyx_T (by walk_at "sq"), kt_tuple_int, ?_⟩ | refine ⟨_, _, Value.type "int", Value.type "str", false, rfl, ClsV.ty _, TyX.base (TyOf.int _), kt_int_str, ?_⟩ | refine ⟨_, _, Value.type "bool", Value.type "str", false, rfl, ClsV.ty _, TyX.base (TyOf.bl _), kt_bool_str, ?_⟩ | refine ⟨_, _, Value.type "str", Value.type "str", true, rfl, ClsV.ty _, TyX.base (TyOf.str _), kt_str_str, ?_⟩ | refine ⟨_, _, Value.type "NoneType", Value.type "str", false, rfl, ClsV.ty _, TyX.base TyOf.non, kt_NoneType_str, ?_⟩ | refine ⟨_, _, Value.type "list", Value.type "str", false, rfl, ClsV.ty _, tyx_L (by walk_at "sq"), kt_list_str, ?_⟩ | refine ⟨_, _, Value.type "tuple", Value.type "str", false, rfl, ClsV.ty _, tyx_T (by walk_at "sq"), kt_tuple_str, ?_⟩)
local macro_rules | `(tactic| walk_at "go1") => `(tactic| first
  | (refine ⟨_, rfl, ?_⟩)
  | (refine ⟨_, _, rfl, rfl, ?_⟩)
  | (refine ⟨_, _, _, _, rfl, rfl, SqL.of (by walk_at "hp"), rfl, ?_⟩)
  | (refine Or.inl ⟨_, rfl, ?_⟩)
  | (refine ⟨rfl, ?_⟩)
  | (refine ⟨_, _, rfl, .inl (SqL.of (by walk_at "hp")), ?_⟩)
  | (refine ⟨_, _, rfl, Or.inl (by assumption), ?_⟩)
  | (refine ⟨_, _, rfl, Or.inr (by assumption), ?_⟩)
  | (refine ⟨(by walk_at "ok"), ?_⟩)
  | (refine ⟨_, _, _, _, rfl, rfl, (by walk_at "hp"), rfl, ?_⟩))
local macro_rules | `(tactic| walk_at "go") => `(tactic| repeat (walk_at "go1"))
local macro_rules | `(tactic| walk_at "gt") => `(tactic| repeat (first | walk_at "go1" | walk_at "ty"))

section
variable {P : Program} {w : World} {K : PySem.W.Frag} {mg : Str → Option Value} {base : Heap}
-- [0=_law_matrix, 1=_law_places_here, 2=_law_total, 3=_law_sign, 4=_law_k]
/-- the recursion of the Pfaffian, by its first row -/
def pfR (c : Nat → Nat → Int) : Nat → List Nat → Int
  | _, [] => 1
  | 0, _ => 1
  | m + 1, p :: r => sumN r.length fun k => (if k % 2 = 0 then 1 else -1) * c p (r.getD k 0) * pfR c m (r.eraseIdx k)
theorem pfR_cons (c : Nat → Nat → Int) (m p : Nat) (r : List Nat) : pfR c (m + 1) (p :: r) = sumN r.length fun k => (if k % 2 = 0 then 1 else -1) * c p (r.getD k 0) * pfR c m (r.eraseIdx k) := rfl
theorem pfR_nil (c : Nat → Nat → Int) (m : Nat) : pfR c m [] = 1 := by cases m <;> rfl
theorem pfR2 (c : Nat → Nat → Int) (p q : Nat) : pfR c 1 [p, q] = c p q := by
  simp [pfR_cons, sumN, pfR_nil]
theorem pfR4 (c : Nat → Nat → Int) (p q r s : Nat) : pfR c 2 [p, q, r, s] = pf4 c p q r s := by
  simp [pfR_cons, sumN, pfR2, pf4, List.eraseIdx, pfR_nil]
  grind
theorem pfR6 (c : Nat → Nat → Int) (p q r s t u : Nat) : pfR c 3 [p, q, r, s, t, u] = pf6 c p q r s t u := by
  simp [pfR_cons, sumN, pfR2, pf4, pf6, List.eraseIdx, pfR_nil]
  grind
theorem pfR_Pf (c : Nat → Nat → Int) {j : Nat} (hj : j < 4) {L : List Nat} (hl : L.length = 2 * j) : pfR c j L = Pf c L := by
  match j, hj, L, hl with
  | 0, _, [], _ => rfl
  | 1, _, [p, q], _ => exact pfR2 c p q
  | 2, _, [p, q, r, s], _ => exact pfR4 c p q r s
  | 3, _, [p, q, r, s, t, u], _ => exact pfR6 c p q r s t u
theorem gW_bd {ps : List Int} (h : ∀ u ∈ ps, u.natAbs < 2 ^ 100) (i j : Nat) : (gW ps i j).natAbs < 2 ^ 100 := by
  have g : ∀ k, (ps.getD k 0).natAbs < 2 ^ 100 := fun k => getD_lt h
  unfold gW
  split
  · exact g _
  · split
    · rw [Int.natAbs_neg]
      exact g _
    · exact Nat.pow_pos (by decide)
theorem sumN_bd {B : Nat} {f : Nat → Int} : ∀ {n : Nat}, (∀ t, t < n → (f t).natAbs ≤ B) → (sumN n f).natAbs ≤ n * B
  | 0, _ => by simp [sumN]
  | n + 1, h => by
    have h1 := sumN_bd (n := n) fun t ht => h t (by omega)
    have h2 := h n (by omega)
    show (sumN n f + f n).natAbs ≤ _
    rw [Nat.succ_mul]
    exact Nat.le_trans (Int.natAbs_add_le ..) (Nat.add_le_add h1 h2)
theorem pfR_bd {c : Nat → Nat → Int} (hc : ∀ i j, (c i j).natAbs < 2 ^ 100) : ∀ (j : Nat) (L : List Nat), L.length ≤ 6 → (pfR c j L).natAbs < 2 ^ (104 * j + 1)
  | 0, L, _ => by
    cases L <;> exact (by decide : (1 : Int).natAbs < 2 ^ (104 * 0 + 1))
  | j + 1, [], _ => by
    rw [pfR_nil]
    exact Nat.lt_of_lt_of_le (by decide : (1 : Int).natAbs < 2 ^ 1) (Nat.pow_le_pow_right (by decide) (by omega))
  | j + 1, p :: r, hl => by
    rw [pfR_cons]
    have hr : r.length ≤ 5 := by simpa using hl
    have h1 : ∀ t, t < r.length → ((if t % 2 = 0 then (1 : Int) else -1) * c p (r.getD t 0) * pfR c j (r.eraseIdx t)).natAbs ≤ 2 ^ 100 * 2 ^ (104 * j + 1) := fun t ht => by
      rw [Int.natAbs_mul, Int.natAbs_mul]
      have e1 : (if t % 2 = 0 then (1 : Int) else -1).natAbs = 1 := by split <;> rfl
      rw [e1, Nat.one_mul]
      have := List.length_eraseIdx_le r t
      exact Nat.mul_le_mul (Nat.le_of_lt (hc _ _)) (Nat.le_of_lt (pfR_bd hc j _ (by omega)))
    have h2 := sumN_bd h1
    rw [← Nat.pow_add] at h2
    have h3 : r.length * 2 ^ (100 + (104 * j + 1)) ≤ 5 * 2 ^ (100 + (104 * j + 1)) := Nat.mul_le_mul_right _ hr
    have e : 2 ^ (104 * (j + 1) + 1) = 16 * 2 ^ (100 + (104 * j + 1)) := by
      rw [show 104 * (j + 1) + 1 = 4 + (100 + (104 * j + 1)) by omega, Nat.pow_add]
    rw [e]
    have h4 : 0 < 2 ^ (100 + (104 * j + 1)) := Nat.pow_pos (by decide)
    generalize 2 ^ (100 + (104 * j + 1)) = Z at *
    omega
def spPf (K : PySem.W.Frag) (m : Nat) : Sp := fun vs H Q _ => ∃ (a t : Addr) (ps : List Int) (j : Nat) (L : List Nat), vs = [.ref a, .ref t] ∧ Mat H a (wmat ps) ∧ ps.length = 15 ∧ (∀ u ∈ ps, u.natAbs < 2 ^ 100) ∧ SqT K H t (natsV L) ∧ (∀ p ∈ L, p < 6) ∧ j < m ∧ j < 4 ∧ L.length = 2 * j ∧ ∀ H', Same H H' → Q (.int (pfR (gW ps) j L)) H'
theorem nats_at {L : List Nat} {i p : Nat} (h : L[i]? = some p) : (natsV L)[i]? = some (.int (p : Int)) := by
  unfold natsV
  rw [List.getElem?_map, h]
  rfl
theorem pf_cell {σ : L2.St} {H H' : Hp} {a t : Addr} {ps : List Int} {p0 i : Nat} {r : List Nat} {Q : VK} (hM : Mat H a (wmat ps)) (hps : ps.length = 15) (hS : SqT K H t (natsV (p0 :: r))) (h6 : ∀ p ∈ p0 :: r, p < 6) (hi : i < r.length) (h0 : σ[0]? = some (some (.ref a))) (h1 : σ[1]? = some (some (.ref t))) (h4 : σ[4]? = some (some (.int (1 + (i : Int))))) (s : Same H H')
    (q : Q (.int (gW ps p0 (r.getD i 0))) H') : (tOp (rIxL K) (tOp (rIxL K) (tVar 0) (tOp (rIxT K) (tVar 1) (tC (V.int 0)))) (tOp (rIxT K) (tVar 1) (tVar 4))) σ H' Q := by
  obtain ⟨rs, g1, g2⟩ := (hM.same s).ex
  have hS' := seqT s hS
  have hp0 := h6 p0 (List.mem_cons_self ..)
  have hg : (p0 :: r)[i + 1]? = some (r.getD i 0) := by
    rw [List.getElem?_cons_succ, List.getD_eq_getElem?_getD, List.getElem?_eq_getElem hi]
    rfl
  have hp1 := h6 _ (List.mem_of_getElem? hg)
  have hl6 : (wmat ps).length = 6 := by rw [wmat, wmatN_len]
  obtain ⟨tr, gr, gr2⟩ := g2.at (i := p0) (by omega)
  have hrow : ((wmat ps).getD p0 []).length = 6 := wmatN_row _ _ _ (getD_mem (by rw [wmatN_len]; exact hp0))
  have ec : ((wmat ps).getD p0 []).getD (r.getD i 0) 0 = gW ps p0 (r.getD i 0) := by
    rw [wmat_gW hps]
    exact cell_sq hp0 hp1
  refine ⟨_, h0, _, h1, t, _, _, _, rfl, rfl, hS', at_of (j := 0) rfl rfl, a, _, _, _, rfl, rfl, SqL.of g1, at_of (j := p0) rfl gr, _, h1, _, h4, t, _, _, _, rfl, rfl, hS', at_of (j := i + 1) (by omega) (nats_at hg), _, _, _, _, rfl, rfl, SqL.of gr2, at_of (j := r.getD i 0) rfl (getD_map (by omega)), ?_⟩
  rw [ec]
  exact q
theorem nats_app (A B : List Nat) : natsV (A ++ B) = natsV A ++ natsV B := List.map_append
theorem cutA {p0 i : Nat} {r : List Nat} (hi : i < r.length) : cutV (natsV (p0 :: r)) (some 1) (some (1 + (i : Int))) = natsV (r.take i) := by
  have e1 : HT.sIx (natsV (p0 :: r)).length 0 (some 1) = 1 := by
    have := HT.sIx_nat (natsV (p0 :: r)).length 0 1
    rw [show ((1 : Nat) : Int) = 1 from rfl] at this
    rw [this, natsV_len, List.length_cons]
    omega
  have e2 : HT.sIx (natsV (p0 :: r)).length (natsV (p0 :: r)).length (some (1 + (i : Int))) = i + 1 := by
    have := HT.sIx_nat (natsV (p0 :: r)).length (natsV (p0 :: r)).length (i + 1)
    rw [show (((i + 1 : Nat)) : Int) = 1 + (i : Int) by omega] at this
    rw [this, natsV_len, List.length_cons]
    omega
  unfold cutV
  rw [e1, e2, natsV, List.map_cons, List.drop_succ_cons, List.drop_zero, Nat.add_sub_cancel, natsV, List.map_take]
theorem cutB {p0 i : Nat} {r : List Nat} (hi : i < r.length) : cutV (natsV (p0 :: r)) (some (1 + (i : Int) + 1)) none = natsV (r.drop (i + 1)) := by
  have e2 : HT.sIx (natsV (p0 :: r)).length 0 (some (1 + (i : Int) + 1)) = i + 2 := by
    have := HT.sIx_nat (natsV (p0 :: r)).length 0 (i + 2)
    rw [show (((i + 2 : Nat)) : Int) = 1 + (i : Int) + 1 by omega] at this
    rw [this, natsV_len, List.length_cons]
    omega
  unfold cutV
  rw [e2, HT.sIx_none, natsV, List.map_cons, List.drop_succ_cons, natsV, ← List.map_drop]
  refine List.take_of_length_le ?_
  simp
theorem pf_sub {σ : L2.St} {H H' : Hp} {t : Addr} {p0 i : Nat} {r : List Nat} {Q : VK} (hS : SqT K H t (natsV (p0 :: r))) (hi : i < r.length) (hr : r.length ≤ 5) (h1 : σ[1]? = some (some (.ref t))) (h4 : σ[4]? = some (some (.int (1 + (i : Int))))) (s : Same H H')
    (q : ∀ t' H'', Same H' H'' → SqT K H'' t' (natsV (r.eraseIdx i)) → Q (.ref t') H'') : (tOp (rCatA K) (tSl (rSlT K) (tVar 1) (tPart (tC (V.int 1))) (tPart (tVar 4)))
                      (tSl (rSlT K) (tVar 1) (tPart (tOp (rI0 fun i j => V.int (i + j)) (tVar 4) (tC (V.int 1)))) tNoPart)) σ H' Q := by
  have n1 : HT.sIx (natsV (p0 :: r)).length 0 (some 1) ≠ 0 := by
    have := HT.sIx_nat (natsV (p0 :: r)).length 0 1
    rw [show ((1 : Nat) : Int) = 1 from rfl] at this
    rw [this, natsV_len, List.length_cons]
    omega
  have n2 : HT.sIx (natsV (p0 :: r)).length 0 (some (1 + (i : Int) + 1)) ≠ 0 := by
    have := HT.sIx_nat (natsV (p0 :: r)).length 0 (i + 2)
    rw [show (((i + 2 : Nat)) : Int) = 1 + (i : Int) + 1 by omega] at this
    rw [this, natsV_len, List.length_cons]
    omega
  have ee : natsV (r.eraseIdx i) = natsV (r.take i) ++ natsV (r.drop (i + 1)) := by
    rw [List.eraseIdx_eq_take_drop_succ, nats_app]
  refine ⟨_, h1, _, rfl, _, h4, _, rfl, t, _, rfl, seqT s hS, fun z => n1 z.1, fun ta hta => ?_⟩
  rw [cutA hi]
  have sa := Same.new (o := .tup (natsV (r.take i))) hta
  refine ⟨_, h1, _, h4, _, _, rfl, rfl, _, rfl, t, _, rfl, seqT (s.trans sa) hS, fun z => n2 z.1, fun tb htb => ?_⟩
  rw [cutB hi]
  have sb := Same.new (o := .tup (natsV (r.drop (i + 1)))) htb
  have ha : SqT K (upd (upd H' ta (.tup (natsV (r.take i)))) tb (.tup (natsV (r.drop (i + 1))))) ta (natsV (r.take i)) := seqT sb (.inl (.inl upd_same))
  have hb : SqT K (upd (upd H' ta (.tup (natsV (r.take i)))) tb (.tup (natsV (r.drop (i + 1))))) tb (natsV (r.drop (i + 1))) := .inl (.inl upd_same)
  refine ⟨ta, tb, _, _, rfl, rfl, ha, hb, ?_, fun e => ?_, fun _ e => ?_, fun _ _ p hp => ?_⟩
  · rw [natsV_len, natsV_len, List.length_take, List.length_drop]
    exact Nat.le_of_lt (Nat.lt_of_le_of_lt (by omega : _ ≤ 1000) (by decide))
  · refine q tb _ (sa.trans sb) ?_
    rw [show natsV (r.eraseIdx i) = natsV (r.drop (i + 1)) by rw [ee, e]; rfl]
    exact hb
  · refine q ta _ (sa.trans sb) ?_
    rw [show natsV (r.eraseIdx i) = natsV (r.take i) by rw [ee, e, List.append_nil]]
    exact ha
  · refine q p _ ((sa.trans sb).trans (Same.new hp)) ?_
    rw [ee]
    exact .inl (.inl upd_same)
theorem ok_pf_step (T : Tx K mg) {m : Nat} (G_l_pfaffian : FnOk P w K mg base CX0 m T.f_l_pfaffian T.d_l_pfaffian ["_law_matrix", "_law_places_here"] (spPf K m)) : FnOk P w K mg base CX0 (m + 1) T.f_l_pfaffian T.d_l_pfaffian ["_law_matrix", "_law_places_here"] (spPf K (m + 1)) := by
  refine T.F_l_pfaffian.ok sc_l_pfaffian (fun vs H Q E h => ?_) (fun cdv A outer s H vs Q E hr h => ?_)
  · obtain ⟨a, t, ps, j, L, rfl, _⟩ := h
    rfl
  obtain ⟨a, t, ps, j, L, rfl, hM, hps, hb, hS, h6, hj, hj4, hl, q⟩ := h
  have nd := sc_l_pfaffian.nd
  refine ⟨_, (pss_cons (ps_if (pt_cmpR op_eq (pe_callB (show CallR _ _ (rLenSq K) from call_len_seq) (by rfl) T.z_len (by decide +kernel) (pa_cons (pv 1) pa_nil)) pe_int (nomark _)) (pss_one (ps_ret pe_int)) pss_nil)
    (pss_cons (ps_asg (pe_tup (pa_cons pe_int (pa_cons pe_int pa_nil))) (pg_tup rfl (pgs_cons (pg_name (i := 2) nd rfl (Or.inl rfl)) (pgs_cons (pg_name (i := 3) nd rfl (Or.inl rfl)) pgs_nil))))
    (pss_cons (ps_for PassesOwn.never rfl (pi_range2 (by rfl) T.z_range (pa_cons pe_int (pa_cons (pe_callB (show CallR _ _ (rLenSq K) from call_len_seq) (by rfl) T.z_len (by decide +kernel) (pa_cons (pv 1) pa_nil)) pa_nil))) (pg_name (i := 4) nd rfl (Or.inl rfl)) (pss_cons (ps_if (pt_cmpR op_ne (pe_ix (show IxR _ (rIxL K) from ix_list) (pe_ix (show IxR _ (rIxL K) from ix_list) (pv 0) (pe_ix (show IxR _ (rIxT K) from ix_tup) (pv 1) pe_int (fun _ _ => rfl)) (fun _ _ => rfl)) (pe_ix (show IxR _ (rIxT K) from ix_tup) (pv 1) (pv 4) (fun _ _ => rfl)) (fun _ _ => rfl)) pe_int (nomark _)) (pss_one (ps_set (i := 2) nd rfl (Or.inl rfl) (pe_op op_add (pv 2) (pe_op op_mulW (pe_op op_mulW (pv 3) (pe_ix (show IxR _ (rIxL K) from ix_list) (pe_ix (show IxR _ (rIxL K) from ix_list) (pv 0) (pe_ix (show IxR _ (rIxT K) from ix_tup) (pv 1) pe_int (fun _ _ => rfl)) (fun _ _ => rfl)) (pe_ix (show IxR _ (rIxT K) from ix_tup) (pv 1) (pv 4) (fun _ _ => rfl)) (fun _ _ => rfl))) (pe_call G_l_pfaffian hr (by rfl) T.m_l_pfaffian T.F_l_pfaffian.kp T.b_l_pfaffian .nil pass0 (pa_cons (pv 0) (pa_cons (pe_op (show OpR _ (binaryOp .Add) (rCatA K) from op_catA) (pe_slice (show SlR _ (rSlT K) from sl_tup) (pv 1) (po_some pe_int) (po_some (pv 4))) (pe_slice (show SlR _ (rSlT K) from sl_tup) (pv 1) (po_some (pe_op op_add (pv 4) pe_int)) po_none)) pa_nil))))))) pss_nil)
    (pss_one (ps_set (i := 3) nd rfl (Or.inl rfl) (pe_op op_sub pe_int (pv 3))))))
    (pss_one (ps_ret (pv 2)))))), ?_⟩
  refine ⟨_, rfl, t, _, rfl, .inr hS, rfl, _, rfl, ?_⟩
  match j, L, hl, hj, hj4 with
  | 0, [], _, _, _ => exact iteT' rfl (q H (Same.refl _))
  | j + 1, p0 :: r, hl, hj, hj4 =>
  have hr : r.length = 2 * j + 1 := by
    rw [List.length_cons] at hl
    omega
  refine iteF' (by rw [natsV_len]; exact decide_eq_false fun z => by rw [V.int.injEq] at z; rw [List.length_cons] at z; omega) ?_
  refine ⟨by show 2 ≤ sizeLine; decide, fun tt htt => ?_⟩
  have st := Same.new (o := .tup [.int 0, .int 1]) htt
  refine ⟨tt, _, rfl, SqT.of upd_same, rfl, _, _, rfl, _, _, rfl, rfl, ?_⟩
  generalize upd H tt (.tup [.int 0, .int 1]) = H1 at st
  have hc : ∀ i j, (gW ps i j).natAbs < 2 ^ 100 := gW_bd hb
  refine ⟨_, rfl, t, _, rfl, .inr (seqT st hS), 1, ((natsV (p0 :: r)).length : Int), rfl, ⟨by decide, by decide, by omega, by rw [natsV_len, List.length_cons]; omega⟩, for_range (lo := 1) (n := (((natsV (p0 :: r)).length : Int) - 1).toNat) (fun i σ H' => (∃ b, σ = [some (.ref a), some (.ref t), some (.int (sumN i fun k => (if k % 2 = 0 then 1 else -1) * gW ps p0 (r.getD k 0) * pfR (gW ps) j (r.eraseIdx k))), some (.int (if i % 2 = 0 then 1 else -1)), b]) ∧ Same H H') ⟨⟨_, rfl⟩, st⟩ ?_ ?_⟩
  · rintro i σ H2 hi ⟨⟨b, rfl⟩, s2⟩
    have hi5 : i < r.length := by
      rw [natsV_len, List.length_cons] at hi
      omega
    have hr5 : r.length ≤ 5 := by omega
    generalize hσ : [some (.ref a), some (.ref t), some (.int (sumN i fun k => (if k % 2 = 0 then 1 else -1) * gW ps p0 (r.getD k 0) * pfR (gW ps) j (r.eraseIdx k))), some (.int (if i % 2 = 0 then 1 else -1)), b] = σ0
    have h0 : (σ0.set 4 (some (.int (1 + (i : Int)))))[0]? = some (some (.ref a)) := by rw [← hσ]; rfl
    have h1 : (σ0.set 4 (some (.int (1 + (i : Int)))))[1]? = some (some (.ref t)) := by rw [← hσ]; rfl
    have h4 : (σ0.set 4 (some (.int (1 + (i : Int)))))[4]? = some (some (.int (1 + (i : Int)))) := by rw [← hσ]; rfl
    have ev : ∀ H' (Q' : VK), Same H H' → Q' (.int (gW ps p0 (r.getD i 0))) H' → (tOp (rIxL K) (tOp (rIxL K) (tVar 0) (tOp (rIxT K) (tVar 1) (tC (V.int 0)))) (tOp (rIxT K) (tVar 1) (tVar 4))) (σ0.set 4 (some (.int (1 + (i : Int))))) H' Q' := fun H' Q' s' q' => pf_cell hM hps hS h6 hi5 h0 h1 h4 s' q'
    have s3 := s2
    show tSeq _ _ _ (σ0.set 4 (some (.int (1 + (i : Int))))) H2
    refine ev H2 _ s2 ⟨rfl, _, rfl, ?_⟩
    refine ite2 (fun c1 => ?_) (fun c1 => ?_)
    · refine ⟨_, by rw [← hσ]; rfl, _, by rw [← hσ]; rfl, ev H2 _ s2 ⟨_, _, rfl, rfl, ?_, ?_⟩⟩
      · refine wide_mul (a := 1) (b := 100) ?_ (hc _ _) (by decide) (by decide) (by decide)
        split <;> decide
      · refine ⟨_, h0, pf_sub hS hi5 hr5 h1 h4 s2 fun t' H3 s3 hS3 => ?_⟩
        have hbs := pfR_bd hc j (r.eraseIdx i) (by have := List.length_eraseIdx_le r i; omega)
        have hle : (r.eraseIdx i).length = 2 * j := by rw [List.length_eraseIdx_of_lt hi5]; omega
        have hme : ∀ p ∈ r.eraseIdx i, p < 6 := fun p hp => h6 p (List.mem_cons_of_mem _ (List.mem_of_mem_eraseIdx hp))
        refine ⟨a, t', ps, j, r.eraseIdx i, rfl, (hM.same s2).same s3, hps, hb, hS3, hme, by omega, by omega, hle, fun H4 s4 => ?_⟩
        refine ⟨_, _, rfl, rfl, ?_, _, _, rfl, rfl, ?_⟩
        · refine wide_mul (a := 1 + 100) (b := 104 * j + 1) (wide_lt ?_ (hc _ _)) hbs (by decide) (by omega) (by omega)
          split <;> decide
        · subst hσ
          refine ⟨_, rfl, 0, _, rfl, rfl, ⟨some (.int (1 + (i : Int))), ?_⟩, (s2.trans s3).trans s4⟩
          have e1 : (0 : Int) - (if i % 2 = 0 then 1 else -1) = if (i + 1) % 2 = 0 then 1 else -1 := by
            rcases Nat.mod_two_eq_zero_or_one i with z | z
            · rw [if_pos z, if_neg (by omega)]; rfl
            · rw [if_neg (by omega), if_pos (by omega)]; rfl
          show [_, _, _, _, _] = _
          rw [← e1]
          rfl
    · have c2 : gW ps p0 (r.getD i 0) = 0 := Decidable.not_not.mp (eq_zero c1)
      subst hσ
      refine ⟨_, rfl, 0, _, rfl, rfl, ⟨some (.int (1 + (i : Int))), ?_⟩, s2⟩
      have e1 : (0 : Int) - (if i % 2 = 0 then 1 else -1) = if (i + 1) % 2 = 0 then 1 else -1 := by
        rcases Nat.mod_two_eq_zero_or_one i with z | z
        · rw [if_pos z, if_neg (by omega)]; rfl
        · rw [if_neg (by omega), if_pos (by omega)]; rfl
      show [_, _, _, _, _] = _
      rw [← e1, sumN]
      rw [c2, Int.mul_zero, Int.zero_mul, Int.add_zero]
  · rintro σ H2 ⟨⟨b, rfl⟩, s2⟩
    have e : (((natsV (p0 :: r)).length : Int) - 1).toNat = r.length := by rw [natsV_len, List.length_cons]; omega
    rw [e]
    exact ⟨_, rfl, q H2 s2⟩
theorem ok_pf (T : Tx K mg) : ∀ m : Nat, FnOk P w K mg base CX0 m T.f_l_pfaffian T.d_l_pfaffian ["_law_matrix", "_law_places_here"] (spPf K m)
  | 0 => by
    have no : ∀ vs H Q E, ¬ spPf K 0 vs H Q E := fun vs H Q E h => by
      obtain ⟨a, t, ps, j, L, _, _, _, _, _, _, h1, _⟩ := h
      omega
    exact ⟨fun vs H Q E h => absurd h (no vs H Q E), fun A outer s H args us vs Q E _ _ _ _ h => absurd h (no vs H Q E)⟩
  | m + 1 => ok_pf_step T (ok_pf T m)
end
end TL.W
namespace TL
open PySem PySem.Spec PyProof.Rows L2
section
variable {prog : Program} {w : World} {A : Around} {E : Value → Shared → Prop} {s : Shared}
theorem sliceApplied_rev {sl : Addr} {vs : Value} {n : Nat} {Q : Int × Int × Nat → Shared → Prop} (hs : s.heap.IsSliceOf sl .none .none vs) (ps : IsPart vs (some (-1)))
    (h : Q ((n : Int) - 1, -1, n) s) : wpAny (model prog w) A (Builtin.Slice.sliceApplied (.ref sl) (pure (n : Int))) Q E s := by
  obtain ⟨os, hos, hcs, hds⟩ := id hs
  unfold Builtin.Slice.sliceApplied Builtin.Slice.sliceFields
  refine wpAny_bind (wpAny_bind (wpAny_field hos hds (x := .none) rfl (wpAny_bind (wpAny_field hos hds (x := .none) rfl (wpAny_bind (wpAny_field hos hds (x := vs) rfl (wpAny_pure ?_)))))))
  refine wpAny_bind (HT.slicePart_ ps ?_)
  show wpAny _ _ (if ((-1 : Int) == 0) = true then _ else _) _ _ s
  rw [if_neg (by decide)]
  refine wpAny_bind (slicePart_none (wpAny_bind (slicePart_none (wpAny_bind (wpAny_pure ?_)))))
  have e : Builtin.Slice.slicePlaces ((n : Int) - 1) (-1) (-1) = n := by
    unfold Builtin.Slice.slicePlaces
    rw [if_neg (by decide)]
    by_cases hn : (n : Int) - 1 > -1
    · rw [if_pos hn, show (- -1 : Int) = 1 by decide, Int.ediv_one]
      omega
    · rw [if_neg hn]
      omega
  show wpAny _ _ (pure ((n : Int) - 1, (-1 : Int), Builtin.Slice.slicePlaces ((n : Int) - 1) (-1) (-1))) _ _ s
  rw [e]
  exact wpAny_pure h
theorem fm_congr {α β : Type} {f g : α → Option β} : ∀ l : List α, (∀ x ∈ l, f x = g x) → l.filterMap f = l.filterMap g
  | [], _ => rfl
  | x :: l, h => by
    rw [List.filterMap_cons, List.filterMap_cons, h x (List.mem_cons_self ..), fm_congr l fun y hy => h y (List.mem_cons_of_mem _ hy)]
theorem pick_rev (xs : Array Value) : ((List.range xs.size).filterMap fun (m : Nat) => xs[(((xs.size : Int) - 1) + (m : Int) * (-1)).toNat]?).toArray = xs.toList.reverse.toArray := by
  have e : (List.range xs.size).filterMap (fun (m : Nat) => xs[(((xs.size : Int) - 1) + (m : Int) * (-1)).toNat]?) = ((List.range xs.size).map fun k => xs.size - 1 - k).filterMap (xs[·]?) := by
    rw [List.filterMap_map]
    refine fm_congr _ fun m hm => ?_
    have := List.mem_range.mp hm
    show xs[(((xs.size : Int) - 1) + (m : Int) * (-1)).toNat]? = xs[xs.size - 1 - m]?
    have e2 : (((xs.size : Int) - 1) + (m : Int) * (-1)).toNat = xs.size - 1 - m := by omega
    rw [e2]
  rw [e, PySem.W.krv_range, List.filterMap_reverse, PySem.W.krv_all]
theorem getItem_tuple_rev {t sl : Addr} {items : Array Value} {vs : Value} {Q : Value → Shared → Prop} (ht : IsTup s.heap t items) (hs : s.heap.IsSliceOf sl .none .none vs) (ps : IsPart vs (some (-1)))
    (h : Q (.ref s.heap.objs.size) { s with heap := s.heap.push { cls := .type "tuple", data := .seq items.toList.reverse.toArray } })
    (hsz : items.size ≤ sizeLine) : wpAny (model prog w) A (getItem (.ref t) (.ref sl)) Q E s := by
  have htake : sizeOk (.seq items.toList.reverse.toArray) := by
    show (items.toList.reverse).toArray.size ≤ sizeLine
    rw [List.size_toArray, List.length_reverse, Array.length_toList]
    omega
  obtain ⟨os, hos, hcs, hds⟩ := id hs
  have hTs : s.TypeIs (.ref sl) "slice" := ⟨os, hos, hcs⟩
  unfold getItem
  try with_reducible refine wpAny_holding ?_
  first | refine wpAny_bind (wpAny_pure ?_) | skip
  refine wpAny_bind (wpAny_sequenceKey ht.typeIs (by decide) ?_)
  refine wpAny_bind (wpAny_callSpecial?_slot (name := Str.ofString "__getitem__") ht.typeIs PyProof.Rows.slot_tuple_getitem
    (wpAny_call_entry PyProof.Rows.slot_tuple_getitem ht.typeIs entry_tuple_getitem ?_ (args_tuple_getitem _ _)))
  show wpAny _ _ (Builtin.Tuple.tupleItemsOf (.ref t) >>= _) _ _ s
  refine wpAny_bind (tupleItemsOf_ ht ?_)
  refine wpAny_bind (wpAny_typeOf hTs ?_)
  rw [if_pos (by decide)]
  refine wpAny_bind (sliceApplied_rev hs ps ?_)
  have hno : ¬ ((((items.size : Int) - 1) == 0 && (-1 : Int) == 1 && items.size == items.size) = true) := by
    rw [show ((-1 : Int) == 1) = false from by decide, Bool.and_false, Bool.false_and]
    exact Bool.false_ne_true
  show wpAny _ _ (if (((items.size : Int) - 1) == 0 && (-1 : Int) == 1 && items.size == items.size) = true then _ else _) _ _ s
  rw [if_neg hno, pick_rev]
  first
    | exact wpAny_bind (m := Builtin.Tuple.tupleExact _) (wpAny_newObj_type (wpAny_pure ⟨_, rfl, wpAny_pure h⟩) htake)
    | exact wpAny_bind (m := Builtin.Tuple.tupleExact _) (wpAny_newObj_type (wpAny_bind (wpAny_pure (wpAny_pure ⟨_, rfl, wpAny_pure h⟩))) htake)
    | exact wpAny_bind (wpAny_bind (m := Builtin.Tuple.tupleExact _) (wpAny_newObj_type (wpAny_pure (wpAny_pure ⟨_, rfl, wpAny_pure h⟩)) htake))
    | exact wpAny_bind (wpAny_bind (m := Builtin.Tuple.tupleExact _) (wpAny_newObj_type (wpAny_pure ⟨_, rfl, wpAny_pure h⟩) htake))
end
section
variable {X : Cx}
/-! ### t[::-1] of a tuple -/
def tRevT (K : PySem.W.Frag) (te : TE) : TE := fun σ H Q => te σ H fun x H1 => ∃ a xs, x = .ref a ∧ SqT K H1 a xs ∧ ∀ p, H1 p = none → Q (.ref p) (upd H1 p (.tup xs.reverse))
theorem pe_revT {e : Expr} {te : TE} {k : Nat} {p1 p2 p3 pos : Pos} (he : PE X e te) : PE X (.Subscript e (.Slice none none (some (.UnaryOp .USub (.Constant (.int 1) k p1) p2)) p3) pos) (tRevT X.K te) := by
  refine ⟨fun pins s σ H Q I h => ?_⟩
  refine Subscript_ (thn (he.run pins s σ H _ I h) fun v s1 ⟨x, H1, I1, r1, q1⟩ => ?_)
  obtain ⟨a, xs, ex, hx, q⟩ := q1
  subst ex
  cases r1
  have hst : PO X (some (.UnaryOp .USub (.Constant (.int 1) k p1) p2)) (tPart (tUn (rU fun i => .int (-i)) (tC (.int 1)))) := po_some (pe_un un_neg pe_int)
  refine wpAny_Slice (thn (po_none.run pins s1 σ H1 (fun o H2 => o = none ∧ H2 = H1) I1 ⟨rfl, rfl⟩) fun vl s2 ⟨l, H2, I2, pl, el, e2⟩ => ?_)
  subst el e2
  refine thn (po_none.run pins s2 σ H2 (fun o H3 => o = none ∧ H3 = H2) I2 ⟨rfl, rfl⟩) fun vu s3 ⟨u, H3, I3, pu, eu, e3⟩ => ?_
  subst eu e3
  refine thn (hst.run pins s3 σ H3 (fun o H4 => o = some (-1) ∧ H4 = H3) I3 ⟨1, rfl, -1, rfl, rfl, rfl⟩) fun vs s4 ⟨o, H4, I4, ps, eo, e4⟩ => ?_
  subst eo e4
  have I5 : Inv X pins σ H4 { s4 with heap := s4.heap.push { cls := .type "slice", data := .fields #[vl, vu, vs] } } := I4.kept (t' := s4.toks) fun b ob q => Heap.get?_push_of_some _ q
  obtain ⟨its, r, ht, hz⟩ := I5.tuple hx
  have hlen := r.length
  cases pl
  cases pu
  show wpAny (model X.prog X.w) X.A (subscriptTail e (.Slice none none (some (.UnaryOp .USub (.Constant (.int 1) k p1) p2)) p3) (.ref a) (.ref s4.heap.objs.size)) (EP X pins σ Q) X.xe { s4 with heap := s4.heap.push { cls := .type "slice", data := .fields #[.none, .none, vs] } }
  refine tail_any (ops := [.ref a, .ref s4.heap.objs.size]) ht.typeIs (PyProof.Rows.slot_tuple_getitem.lookup) ?_ (by with_unfolding_all rfl)
  refine getItem_tuple_rev ht (Heap.IsSliceOf.new _ .none .none vs) ps ?_ (by rw [List.size_toArray]; omega)
  refine ⟨.ref _, _, I5.laid (t' := s4.toks) (o := .tup xs.reverse) (fun b ob q => Heap.get?_push_of_some _ q) (Nat.le_refl _) ?_, rfl, q _ (I5.hok.fresh (Nat.le_refl _))⟩
  exact ⟨by rw [List.length_reverse]; exact hz, its.reverse, r.reverse, IsTup.new _ _⟩
end
/-! ### any(t) of a tuple of ints -/
section
variable {X : Cx}
def rAnyI (K : PySem.W.Frag) : List V → Hp → VK → Prop := fun vs H Q => ∃ (a : Addr) (ns : List Int), vs = [V.ref a] ∧ SqT K H a (ns.map V.int) ∧ Q (.bl (ns.any (· != 0))) H
theorem cr_anyI (hc : X.calm = true) : CallR X (.builtin "any") (rAnyI X.K) := by
  intro pins s σ H vs us Q I r h
  obtain ⟨a, ns, rfl, hs, q⟩ := h
  obtain ⟨its, rv, hl, _⟩ := I.tuple hs
  rw [Vals.ref1 r]
  obtain ⟨xs, e⟩ := rv.ints.allInts.items
  have hn : numsOf (intItems xs).toList = ns := by rw [← e]; exact rv.ints.numsOf
  rw [nums_intItems] at hn
  rw [e] at hl
  refine call_any_walk (iter_intTuple hl fun s₂ e2 st hfp hlI => ?_)
  subst e2
  refine ⟨_, _, _, _, _, _, fun i => numAt xs i != 0, rfl, Walks.tuple (A := X.A.in1) (I.ok.hd hc) _ a hlI (intItems xs), st, fun i v s Q E hv hq => ?_, fun h' tk hk => ?_⟩
  · obtain ⟨t, rfl⟩ := intItems_at hv
    exact P.truthy_int hq
  · refine ⟨.bl _, H, I.kept (old_keptT hk), ?_, q⟩
    show Value.bool _ = Value.bool _
    have e1 : (List.range (intItems xs).size).any (fun i => numAt xs i != 0) = (List.range ns.length).any fun i => (ns.getD i 0 != 0) := by
      have : (intItems xs).size = ns.length := by rw [← hn]; simp [intItems]
      rw [this]
      congr 1
      funext i
      rw [numAt_eq, hn]
    rw [e1, PySem.W.range_any (fun x : Int => x != 0) 0 ns]
end
end TL
namespace TL
open PySem PySem.Spec PyProof.Rows L2
section
variable {X : Cx}
/-- any(l) of a list of ints -/
def rAnyIL (K : PySem.W.Frag) : List V → Hp → VK → Prop := fun vs H Q => ∃ (a : Addr) (ns : List Int), vs = [V.ref a] ∧ SqL K H a (ns.map V.int) ∧ Q (.bl (ns.any (· != 0))) H
theorem cr_anyIL (hc : X.calm = true) : CallR X (.builtin "any") (rAnyIL X.K) := by
  intro pins s σ H vs us Q I r h
  obtain ⟨a, ns, rfl, hs, q⟩ := h
  obtain ⟨its, rv, hl, _⟩ := I.list hs
  rw [Vals.ref1 r]
  obtain ⟨xs, e⟩ := rv.ints.allInts.items
  have hn : numsOf (intItems xs).toList = ns := by rw [← e]; exact rv.ints.numsOf
  rw [nums_intItems] at hn
  rw [e] at hl
  refine call_any_walk (iter_any hl.isList fun s₂ e2 st hne => ?_)
  subst e2
  refine ⟨_, _, _, _, _, _, fun i => numAt xs i != 0, rfl, Walks.list (A := X.A.in1) (I.ok.hd hc) _ a hne (intItems xs), st, fun i v s Q E hv hq => ?_, fun h' tk hk => ?_⟩
  · obtain ⟨t, rfl⟩ := intItems_at hv
    exact P.truthy_int hq
  · refine ⟨.bl _, H, I.kept fun b o eo => hk b o (fun hmem => ?_) (Heap.get?_push_of_some _ eo), ?_, q⟩
    · rcases List.mem_cons.mp hmem with e1 | hmem
      · exact absurd (e1 ▸ Heap.lt_size eo) (Nat.lt_irrefl _)
      · cases hmem
    · show Value.bool _ = Value.bool _
      have e1 : (List.range (intItems xs).size).any (fun i => numAt xs i != 0) = (List.range ns.length).any fun i => (ns.getD i 0 != 0) := by
        have : (intItems xs).size = ns.length := by rw [← hn]; simp [intItems]
        rw [this]
        congr 1
        funext i
        rw [numAt_eq, hn]
      rw [e1, PySem.W.range_any (fun x : Int => x != 0) 0 ns]
end
end TL
namespace TL.W
open TL
open PySem L2

/-! ### steps of a reading -/
local macro_rules | `(tactic| walk_at "hp") => `(tactic| first | assumption | exact upd_same | (refine (upd_ne (by first | assumption | (exact Ne.symm (by assumption)))).trans ?_; walk_at "hp"))
local macro_rules | `(tactic| walk_at "ok") => `(tactic| first | (exact Or.inr ⟨by decide, by decide⟩) | (exact ⟨by decide, by decide⟩) | (exact ⟨by decide, by decide, by decide⟩) | (show _ ≠ _; omega) | (show _ ≠ _; decide) | (exact Or.inl ⟨by omega, by omega⟩) | decide)
local macro_rules | `(tactic| walk_at "sq") => `(tactic| first | assumption | exact SqL.of (by walk_at "hp") | exact SqT.of (by walk_at "hp"))
local macro_rules | `(tactic| walk_at "ty") => `(tactic| first | refine ⟨_, _, Value.type "int", Value.type "list", false, rfl, ClsV.ty _, TyX.base (TyOf.int _), kt_int_list, ?_⟩ | refine ⟨_, _, Value.type "bool", Value.type "list", false, rfl, ClsV.ty _, TyX.base (TyOf.bl _), kt_bool_list, ?_⟩ | refine ⟨_, _, Value.type "str", Value.type "list", false, rfl, ClsV.ty _, TyX.base (TyOf.str _), kt_str_list, ?_⟩ | refine ⟨_, _, Value.type "NoneType", Value.type "list", false, rfl, ClsV.ty _, TyX.base TyOf.non, kt_NoneType_list, ?_⟩ | refine ⟨_, _, Value.type "list", Value.type "list", true, rfl, ClsV.ty _, tyx_L (by walk_at "sq"), kt_list_list, ?_⟩ | refine ⟨_, _, Value.type "tuple", Value.type "list", false, rfl, ClsV.ty _, tyx_T (by walk_at "sq"), kt_tuple_list, ?_⟩ | refine ⟨_, _, Value.type "int", Value.type "tuple", false, rfl, ClsV.ty _, TyX.base (TyOf.int _), kt_int_tuple, ?_⟩ | refine ⟨_, _, Value.type "bool", Value.type "tuple", false, rfl, ClsV.ty _, TyX.base (TyOf.bl _), kt_bool_tuple, ?_⟩ | refine ⟨_, _, Value.type "str", Value.type "tuple", false, rfl, ClsV.ty _, TyX.base (TyOf.str _), kt_str_tuple, ?_⟩ | refine ⟨_, _, Value.type "NoneType", Value.type "tuple", false, rfl, ClsV.ty _, TyX.base TyOf.non, kt_NoneType_tuple, ?_⟩ | refine ⟨_, _, Value.type "list", Value.type "tuple", false, rfl, ClsV.ty _, tyx_L (by walk_at "sq"), kt_list_tuple, ?_⟩ | refine ⟨_, _, Value.type "tuple", Value.type "tuple", true, rfl, ClsV.ty _, tyx_T (by walk_at "sq"), kt_tuple_tuple, ?_⟩ | refine ⟨_, _, Value.type "int", Value.type "bool", false, rfl, ClsV.ty _, TyX.base (TyOf.int _), kt_int_bool, ?_⟩ | refine ⟨_, _, Value.type "bool", Value.type "bool", true, rfl, ClsV.ty _, TyX.base (TyOf.bl _), kt_bool_bool, ?_⟩ | refine ⟨_, _, Value.type "str", Value.type "bool", false, rfl, ClsV.ty _, TyX.base (TyOf.str _), kt_str_bool, ?_⟩ | refine ⟨_, _, Value.type "NoneType", Value.type "bool", false, rfl, ClsV.ty _, TyX.base TyOf.non, kt_NoneType_bool, ?_⟩ | refine ⟨_, _, Value.type "list", Value.type "bool", false, rfl, ClsV.ty _, tyx_L (by walk_at "sq"), kt_list_bool, ?_⟩ | refine ⟨_, _, Value.type "tuple", Value.type "bool", false, rfl, ClsV.ty _, tyx_T (by walk_at "sq"), kt_tuple_bool, ?_⟩ | refine ⟨_, _, Value.type "int", Value.type "int", true, rfl, ClsV.ty _, TyX.base (TyOf.int _), kt_int_int, ?_⟩ | refine ⟨_, _, Value.type "bool", Value.type "int", true, rfl, ClsV.ty _, TyX.base (TyOf.bl _), kt_bool_int, ?_⟩ | refine ⟨_, _, Value.type "str", Value.type "int", false, rfl, ClsV.ty _, TyX.base (TyOf.str _), kt_str_int, ?_⟩ | refine ⟨_, _, Value.type "NoneType", Value.type "int", false, rfl, ClsV.ty _, TyX.base TyOf.non, kt_NoneType_int, ?_⟩ | refine ⟨_, _, Value.type "list", Value.type "int", false, rfl, ClsV.ty _, tyx_L (by walk_at "sq"), kt_list_int, ?_⟩ | refine ⟨_, _, Value.type "tuple", Value.type "int", false, rfl, ClsV.ty _, tyx_T (by walk_at "sq"), kt_tuple_int, ?_⟩ | refine ⟨_, _, Value.type "int", Value.type "str", false, rfl, ClsV.ty _, TyX.base (TyOf.int _), kt_int_str, ?_⟩ | refine ⟨_, _, Value.type "bool", Value.type "str", false, rfl, ClsV.ty _, TyX.base (TyOf.bl _), kt_bool_str, ?_⟩ | refine ⟨_, _, Value.type "str", Value.type "str", true, rfl, ClsV.ty _, TyX.base (TyOf.str _), kt_str_str, ?_⟩ | refine ⟨_, _, Value.type "NoneType", Value.type "str", false, rfl, ClsV.ty _, TyX.base TyOf.non, kt_NoneType_str, ?_⟩ | refine ⟨_, _, Value.type "list", Value.type "str", false, rfl, ClsV.ty _, tyx_L (by walk_at "sq"), kt_list_str, ?_⟩ | refine ⟨_, _, Value.type "tuple", Value.type "str", false, rfl, ClsV.ty _, tyx_T (by walk_at "sq"), kt_tuple_str, ?_⟩)
local macro_rules | `(tactic| walk_at "go1") => `(tactic| first
  | (refine ⟨_, rfl, ?_⟩)
  | (refine ⟨_, _, rfl, rfl, ?_⟩)
  | (refine ⟨_, _, _, _, rfl, rfl, SqL.of (by walk_at "hp"), rfl, ?_⟩)
  | (refine Or.inl ⟨_, rfl, ?_⟩)
  | (refine ⟨rfl, ?_⟩)
  | (refine ⟨_, _, rfl, .inl (SqL.of (by walk_at "hp")), ?_⟩)
  | (refine ⟨_, _, rfl, Or.inl (by assumption), ?_⟩)
  | (refine ⟨_, _, rfl, Or.inr (by assumption), ?_⟩)
  | (refine ⟨(by walk_at "ok"), ?_⟩)
  | (refine ⟨_, _, _, _, rfl, rfl, (by walk_at "hp"), rfl, ?_⟩))
local macro_rules | `(tactic| walk_at "go") => `(tactic| repeat (walk_at "go1"))
local macro_rules | `(tactic| walk_at "gt") => `(tactic| repeat (first | walk_at "go1" | walk_at "ty"))

section
variable {P : Program} {w : World} {K : PySem.W.Frag} {mg : Str → Option Value} {base : Heap}
-- [0=_law_table, 1=_law_matrix*, 2=_law_half, 3=_law_places_here]
def spOwed (K : PySem.W.Frag) : Sp := fun vs H Q _ => ∃ (a : Addr) (ps : List Int), vs = [.ref a] ∧ SqL K H a (ps.map V.int) ∧ ps.length = 15 ∧ (∀ u ∈ ps, u.natAbs < 2 ^ 100) ∧ ∀ H', Same H H' → Q (.int (ow (gW ps) : Int)) H'
theorem any_congr {f g : List Nat → Bool} : ∀ {l : List (List Nat)}, (∀ x ∈ l, f x = g x) → l.any f = l.any g
  | [], _ => rfl
  | x :: xs, h => by
    rw [List.any_cons, List.any_cons, h x (List.mem_cons_self ..), any_congr fun y hy => h y (List.mem_cons_of_mem _ hy)]
theorem ow_at {c : Nat → Nat → Int} {i : Nat} (hi : i < 3) (h : hasPf c (2 * (3 - i)) = true) (hn : ∀ t, t < i → hasPf c (2 * (3 - t)) = false) : ow c = 3 - i := by
  unfold ow
  match i, hi, h, hn with
  | 0, _, h, _ => rw [show hasPf c 6 = true from h]; rfl
  | 1, _, h, hn => rw [show hasPf c 6 = false from hn 0 (by decide), show hasPf c 4 = true from h]; rfl
  | 2, _, h, hn => rw [show hasPf c 6 = false from hn 0 (by decide), show hasPf c 4 = false from hn 1 (by decide), show hasPf c 2 = true from h]; rfl
theorem ok_lowed (T : Tx K mg) : FnOk P w K mg base CX0 5 T.f_l_owed T.d_l_owed ["_law_table"] (spOwed K) := by
  have G_l_square := ok_lsquare (P := P) (w := w) (base := base) T
  have G_l_choices := ok_choices (P := P) (w := w) (base := base) T
  have G_l_pfaffian := ok_pf (P := P) (w := w) (base := base) T 4
  refine T.F_l_owed.ok sc_l_owed (fun vs H Q E h => ?_) (fun cdv A outer s H vs Q E hr h => ?_)
  · obtain ⟨a, ps, rfl, _⟩ := h
    rfl
  obtain ⟨a, ps, rfl, ha, hl, hb, q⟩ := h
  have nd := sc_l_owed.nd
  refine ⟨_, (pss_cons (ps_set (i := 1) nd rfl (Or.inr rfl) (pe_call G_l_square (hr.mono (by decide)) (by rfl) T.m_l_square T.F_l_square.kp T.b_l_square .nil pass0 (pa_cons (pv 0) pa_nil)))
    (pss_cons (ps_for PassesOwn.never rfl (show PI _ _ _ (iTup K _) from pi_tup (pe_tup (pa_cons pe_int (pa_cons pe_int (pa_cons pe_int pa_nil))))) (pg_name (i := 2) nd rfl (Or.inl rfl)) (pss_one (ps_if (pt_val (pe_callB (show CallR _ _ (rAnyIL K) from cr_anyIL rfl) (by rfl) T.z_any (by decide +kernel) (pa_cons (pe_lc (own := [("_law_places_here", 3)]) (g := (gName 3)) rfl nd (show PI _ _ _ (iList K _) from pi_list (pe_call G_l_choices (hr.mono (by decide)) (by rfl) T.m_l_choices T.F_l_choices.kp T.b_l_choices .nil pass0 (pa_cons (pe_op op_mul pe_int (pv 2)) pa_nil))) (blkOk_by (own := [("_law_places_here", 3)]) (N := N_l_owed) (sc := defScope s_l_owed) (by decide +kernel)) (fun _ _ _ _ _ => by exact (pg_name (i := 3) nd rfl (Or.inl rfl))) (fun _ _ _ _ _ => by exact pts_nil) (fun _ _ _ _ _ => by exact (pe_call G_l_pfaffian (hr.mono (by decide)) (by rfl) T.m_l_pfaffian T.F_l_pfaffian.kp T.b_l_pfaffian .nil pass0 (pa_cons (pv 1) (pa_cons (pv 3) pa_nil))))) pa_nil))) (pss_one (ps_ret (pv 2))) pss_nil)))
    (pss_one (ps_ret pe_int)))), ?_⟩
  refine ⟨_, rfl, a, ps, rfl, ha, hl, fun Mt H1 s1 hM => ?_⟩
  refine ⟨by show 3 ≤ sizeLine; decide, fun tt htt => ?_⟩
  have st := Same.new (o := .tup [.int 3, .int 2, .int 1]) htt
  refine ⟨tt, rfl, ⟨_, SqT.of upd_same⟩, for_it (walk_tup (K := K) (a := tt) (xs := [.int 3, .int 2, .int 1])) (fun i σ H' => (∃ b c, σ = [some (.ref a), some (.ref Mt), b, c]) ∧ Same (upd H1 tt (.tup [.int 3, .int 2, .int 1])) H' ∧ ∀ t, t < i → hasPf (gW ps) (2 * (3 - t)) = false) ⟨⟨_, _, rfl⟩, Same.refl _, fun t ht => by omega⟩ (fun _ _ _ _ h => seqT h.2.1 (SqT.of upd_same)) ?_ ?_⟩
  · rintro i x σ H2 H3 hi ⟨⟨b, c, rfl⟩, s2, hn⟩ ⟨rfl, hx⟩
    have hi3 : i < 3 := hi
    obtain rfl : x = .int ((3 - i : Nat) : Int) := by
      match i, hi3, hx with
      | 0, _, hx => exact (Option.some.inj hx).symm
      | 1, _, hx => exact (Option.some.inj hx).symm
      | 2, _, hx => exact (Option.some.inj hx).symm
    have hk7 : 2 * (3 - i) < 7 := by omega
    have hj4 : 3 - i < 4 := by omega
    have e2 : [V.int ((2 : Int) * ((3 - i : Nat) : Int))] = [V.int ((2 * (3 - i) : Nat) : Int)] := by rw [show (2 : Int) * ((3 - i : Nat) : Int) = ((2 * (3 - i) : Nat) : Int) by omega]
    refine ⟨_, rfl, 2, _, rfl, rfl, .inl (by decide), 2 * (3 - i), e2, hk7, fun CL H4 s4 hC => ?_⟩
    obtain ⟨rs, hrs, ht⟩ := hC.ex
    have hM4 : Mat H4 Mt (wmat ps) := ((hM.same st).same s2).same s4
    refine ⟨CL, rfl, ⟨_, hrs⟩, fun D hD => ?_⟩
    have hbig := (ch_small _ hk7).1
    refine lc_mapSL (ys := ((chL (2 * (3 - i))).map fun L => pfR (gW ps) (3 - i) L).map V.int) hrs (by rw [List.length_map, List.length_map, ht.1]) (by rw [ht.1]; omega) hD (fun u => rfl) (fun j u y H5 kk hu hy s5 hkk => ?_) fun H5 s5 hD5 => ?_
    · obtain ⟨t, L, rfl, hL, hS⟩ := ht.2 j u hu
      rw [List.getElem?_map, List.getElem?_map, hL] at hy
      obtain rfl := Option.some.inj hy
      obtain ⟨h1, h2⟩ := ch_len _ hk7 L (List.mem_of_getElem? hL)
      exact ⟨_, rfl, _, rfl, Mt, t, ps, 3 - i, L, rfl, hM4.same s5, hl, hb, seqT s5 hS, h2, hj4, hj4, h1, fun H6 s6 => hkk H6 s6⟩
    · refine ⟨D, _, rfl, SqL.of hD5, _, rfl, ?_⟩
      have ea : (((chL (2 * (3 - i))).map fun L => pfR (gW ps) (3 - i) L).any (· != 0)) = hasPf (gW ps) (2 * (3 - i)) := by
        rw [List.any_map, hasPf]
        refine any_congr fun L hL => ?_
        show (pfR (gW ps) (3 - i) L != 0) = _
        rw [pfR_Pf _ hj4 (ch_len _ hk7 L hL).1]
      rw [ea]
      have sx : Same H H5 := ((((s1.trans st).trans s2).trans s4).trans s5)
      cases hp : hasPf (gW ps) (2 * (3 - i)) with
      | true =>
        refine iteT' rfl ⟨_, rfl, ?_⟩
        rw [show ((3 - i : Nat) : Int) = (ow (gW ps) : Int) by rw [ow_at hi3 hp hn]]
        exact q H5 sx
      | false =>
        refine iteF' rfl ⟨⟨_, _, rfl⟩, (s2.trans s4).trans s5, fun t ht' => ?_⟩
        rcases Nat.lt_or_ge t i with z | z
        · exact hn t z
        · obtain rfl : t = i := by omega
          exact hp
  · rintro σ H2 ⟨⟨b, c, rfl⟩, s2, hn⟩
    have h6 := hn 0 (by decide)
    have h4 := hn 1 (by decide)
    have h2 := hn 2 (by decide)
    have e0 : ow (gW ps) = 0 := by
      unfold ow
      rw [show hasPf (gW ps) 6 = false from h6, show hasPf (gW ps) 4 = false from h4, show hasPf (gW ps) 2 = false from h2]
      rfl
    rw [e0] at q
    exact q H2 ((s1.trans st).trans s2)
end
end TL.W
namespace TL.W
open TL
open PySem L2

/-! ### steps of a reading -/
local macro_rules | `(tactic| walk_at "hp") => `(tactic| first | assumption | exact upd_same | (refine (upd_ne (by first | assumption | (exact Ne.symm (by assumption)))).trans ?_; walk_at "hp"))
local macro_rules | `(tactic| walk_at "ok") => `(tactic| first | (exact Or.inr ⟨by decide, by decide⟩) | (exact ⟨by decide, by decide⟩) | (exact ⟨by decide, by decide, by decide⟩) | (show _ ≠ _; omega) | (show _ ≠ _; decide) | (exact Or.inl ⟨by omega, by omega⟩) | decide)
local macro_rules | `(tactic| walk_at "sq") => `(tactic| first | assumption | exact SqL.of (by walk_at "hp") | exact SqT.of (by walk_at "hp"))
local macro_rules | `(tactic| walk_at "ty") => `(tactic| first | refine ⟨_, _, Value.type "int", Value.type "list", false, rfl, ClsV.ty _, TyX.base (TyOf.int _), kt_int_list, ?_⟩ | refine ⟨_, _, Value.type "bool", Value.type "list", false, rfl, ClsV.ty _, TyX.base (TyOf.bl _), kt_bool_list, ?_⟩ | refine ⟨_, _, Value.type "str", Value.type "list", false, rfl, ClsV.ty _, TyX.base (TyOf.str _), kt_str_list, ?_⟩ | refine ⟨_, _, Value.type "NoneType", Value.type "list", false, rfl, ClsV.ty _, TyX.base TyOf.non, kt_NoneType_list, ?_⟩ | refine ⟨_, _, Value.type "list", Value.type "list", true, rfl, ClsV.ty _, tyx_L (by walk_at "sq"), kt_list_list, ?_⟩ | refine ⟨_, _, Value.type "tuple", Value.type "list", false, rfl, ClsV.ty _, tyx_T (by walk_at "sq"), kt_tuple_list, ?_⟩ | refine ⟨_, _, Value.type "int", Value.type "tuple", false, rfl, ClsV.ty _, TyX.base (TyOf.int _), kt_int_tuple, ?_⟩ | refine ⟨_, _, Value.type "bool", Value.type "tuple", false, rfl, ClsV.ty _, TyX.base (TyOf.bl _), kt_bool_tuple, ?_⟩ | refine ⟨_, _, Value.type "str", Value.type "tuple", false, rfl, ClsV.ty _, TyX.base (TyOf.str _), kt_str_tuple, ?_⟩ | refine ⟨_, _, Value.type "NoneType", Value.type "tuple", false, rfl, ClsV.ty _, TyX.base TyOf.non, kt_NoneType_tuple, ?_⟩ | refine ⟨_, _, Value.type "list", Value.type "tuple", false, rfl, ClsV.ty _, tyx_L (by walk_at "sq"), kt_list_tuple, ?_⟩ | refine ⟨_, _, Value.type "tuple", Value.type "tuple", true, rfl, ClsV.ty _, tyx_T (by walk_at "sq"), kt_tuple_tuple, ?_⟩ | refine ⟨_, _, Value.type "int", Value.type "bool", false, rfl, ClsV.ty _, TyX.base (TyOf.int _), kt_int_bool, ?_⟩ | refine ⟨_, _, Value.type "bool", Value.type "bool", true, rfl, ClsV.ty _, TyX.base (TyOf.bl _), kt_bool_bool, ?_⟩ | refine ⟨_, _, Value.type "str", Value.type "bool", false, rfl, ClsV.ty _, TyX.base (TyOf.str _), kt_str_bool, ?_⟩ | refine ⟨_, _, Value.type "NoneType", Value.type "bool", false, rfl, ClsV.ty _, TyX.base TyOf.non, kt_NoneType_bool, ?_⟩ | refine ⟨_, _, Value.type "list", Value.type "bool", false, rfl, ClsV.ty _, tyx_L (by walk_at "sq"), kt_list_bool, ?_⟩ | refine ⟨_, _, Value.type "tuple", Value.type "bool", false, rfl, ClsV.ty _, tyx_T (by walk_at "sq"), kt_tuple_bool, ?_⟩ | refine ⟨_, _, Value.type "int", Value.type "int", true, rfl, ClsV.ty _, TyX.base (TyOf.int _), kt_int_int, ?_⟩ | refine ⟨_, _, Value.type "bool", Value.type "int", true, rfl, ClsV.ty _, TyX.base (TyOf.bl _), kt_bool_int, ?_⟩ | refine ⟨_, _, Value.type "str", Value.type "int", false, rfl, ClsV.ty _, TyX.base (TyOf.str _), kt_str_int, ?_⟩ | refine ⟨_, _, Value.type "NoneType", Value.type "int", false, rfl, ClsV.ty _, TyX.base TyOf.non, kt_NoneType_int, ?_⟩ | refine ⟨_, _, Value.type "list", Value.type "int", false, rfl, ClsV.ty _, tyx_L (by walk_at "sq"), kt_list_int, ?_⟩ | refine ⟨_, _, Value.type "tuple", Value.type "int", false, rfl, ClsV.ty _, tyx_T (by walk_at "sq"), kt_tuple_int, ?_⟩ | refine ⟨_, _, Value.type "int", Value.type "str", false, rfl, ClsV.ty _, TyX.base (TyOf.int _), kt_int_str, ?_⟩ | refine ⟨_, _, Value.type "bool", Value.type "str", false, rfl, ClsV.ty _, TyX.base (TyOf.bl _), kt_bool_str, ?_⟩ | refine ⟨_, _, Value.type "str", Value.type "str", true, rfl, ClsV.ty _, TyX.base (TyOf.str _), kt_str_str, ?_⟩ | refine ⟨_, _, Value.type "NoneType", Value.type "str", false, rfl, ClsV.ty _, TyX.base TyOf.non, kt_NoneType_str, ?_⟩ | refine ⟨_, _, Value.type "list", Value.type "str", false, rfl, ClsV.ty _, tyx_L (by walk_at "sq"), kt_list_str, ?_⟩ | refine ⟨_, _, Value.type "tuple", Value.type "str", false, rfl, ClsV.ty _, tyx_T (by walk_at "sq"), kt_tuple_str, ?_⟩)
local macro_rules | `(tactic| walk_at "go1") => `(tactic| first
  | (refine ⟨_, rfl, ?_⟩)
  | (refine ⟨_, _, rfl, rfl, ?_⟩)
  | (refine ⟨_, _, _, _, rfl, rfl, SqL.of (by walk_at "hp"), rfl, ?_⟩)
  | (refine Or.inl ⟨_, rfl, ?_⟩)
  | (refine ⟨rfl, ?_⟩)
  | (refine ⟨_, _, rfl, .inl (SqL.of (by walk_at "hp")), ?_⟩)
  | (refine ⟨_, _, rfl, Or.inl (by assumption), ?_⟩)
  | (refine ⟨_, _, rfl, Or.inr (by assumption), ?_⟩)
  | (refine ⟨(by walk_at "ok"), ?_⟩)
  | (refine ⟨_, _, _, _, rfl, rfl, (by walk_at "hp"), rfl, ?_⟩))
local macro_rules | `(tactic| walk_at "go") => `(tactic| repeat (walk_at "go1"))
local macro_rules | `(tactic| walk_at "gt") => `(tactic| repeat (first | walk_at "go1" | walk_at "ty"))

section
variable {P : Program} {w : World} {K : PySem.W.Frag} {mg : Str → Option Value} {base : Heap}
-- [0=_law_bag_here, 1=_law_things, 2=_law_found, 3=_law_thing] [0=_law_bag_here*, 1=_law_k] [0=_law_bag_here*, 1=_law_size*, 2=_law_way, 3=_law_found, 4=_law_some*, 5=_law_k, 6=_law_u*, 7=_law_v*, 8=_law_many*, 9=_law_p, 10=_law_q, 11=_law_a] [0=_law_bag_here*, 1=_law_k]
theorem ints_of {R : Int → Prop} : ∀ ys : List V, (∀ y ∈ ys, ∃ d, y = V.int d ∧ R d) → ∃ ns : List Int, ys = ns.map V.int ∧ ns.length = ys.length ∧ ∀ d ∈ ns, R d
  | [], _ => ⟨[], rfl, rfl, fun d h => by cases h⟩
  | y :: ys, h => by
    obtain ⟨d, rfl, hd⟩ := h y List.mem_cons_self
    obtain ⟨ns, rfl, h2, h3⟩ := ints_of ys fun z hz => h z (List.mem_cons_of_mem _ hz)
    refine ⟨d :: ns, rfl, by simp, fun e he => ?_⟩
    rcases List.mem_cons.mp he with q | q
    · rw [q]
      exact hd
    · exact h3 e q
theorem at6 {ns : List Int} {m : Nat} {i : Int} (hl : ns.length = 6) (hb : ∀ d ∈ ns, d.natAbs ≤ m) (h0 : 0 ≤ i) (h1 : i < 6) : ∃ u : Int, atI (ns.map V.int) i = some (.int u) ∧ u.natAbs ≤ m := by
  have hk : i.toNat < ns.length := by omega
  exact ⟨ns[i.toNat], at_of (j := i.toNat) (by omega) (by rw [List.getElem?_map, List.getElem?_eq_getElem hk]; rfl), hb _ (List.getElem_mem hk)⟩
theorem mul22 {a b : Int} {m n k : Nat} (ha : a.natAbs ≤ m) (hb : b.natAbs ≤ n) (h : m * n ≤ k) : (a * b).natAbs ≤ k := by
  rw [Int.natAbs_mul]
  exact Nat.le_trans (Nat.mul_le_mul ha hb) h
theorem cm {a b : Int} (h : a.natAbs ≤ 1000) : CMul a b := .inl ⟨by omega, by omega⟩
theorem pick_ints {R : Int → Prop} {ns : List Int} {i : Nat} {v : V} (h : (ns.map V.int)[i]? = some v) (hR : ∀ u ∈ ns, R u) : ∃ d, v = V.int d ∧ R d := by
  rw [List.getElem?_map] at h
  obtain ⟨u, hu, rfl⟩ := Option.map_eq_some_iff.mp h
  exact ⟨u, rfl, hR u (List.mem_of_getElem? hu)⟩
def spVec (c : Int → Prop) (n : Nat) : Sp := fun vs H Q _ => ∃ (B : Bg), vs = [.ref B.b] ∧ Bag B H ∧ ∀ (t : Addr) (ns : List Int) (H' : Hp), Bag B H' → Kb B.b H H' → H t = none → H' t = some (.lst (ns.map V.int)) → ns.length = n → (∀ u ∈ ns, c u) → Q (.ref t) H'
theorem ok_vector (T : Tx K mg) : FnOk P w K mg base CX0 3 T.f_l_vector T.d_l_vector ["_law_bag_here"] (spVec (fun u => u.natAbs ≤ 2) 6) := by
  have G_l_of := ok_of (P := P) (w := w) (base := base) T
  refine T.F_l_vector.ok sc_l_vector (fun vs H Q E h => ?_) (fun cdv A outer s H vs Q E hr h => ?_)
  · obtain ⟨B, rfl, _⟩ := h
    rfl
  obtain ⟨B, rfl, hB, q⟩ := h
  have nd := sc_l_vector.nd
  refine ⟨_, (pss_one (ps_ret (pe_lc (own := [("_law_k", 1)]) (g := (gName 1)) rfl nd (pi_range1 (by rfl) T.z_range (pa_cons pe_int pa_nil)) (blkOk_by (own := [("_law_k", 1)]) (N := N_l_vector) (sc := defScope s_l_vector) (by decide +kernel)) (fun _ _ _ _ _ => by exact (pg_name (i := 1) nd rfl (Or.inl rfl))) (fun _ _ _ _ _ => by exact pts_nil) (fun _ _ _ _ _ => by exact (pe_call G_l_of hr (by rfl) T.m_l_of T.F_l_of.kp T.b_l_of .nil pass0 (pa_cons (pv 0) (pa_cons (pe_lst (pa_cons pe_int (pa_cons pe_int (pa_cons pe_int (pa_cons (pe_un un_neg pe_int) (pa_cons pe_int (pa_cons pe_int pa_nil))))))) pa_nil))))))), ?_⟩
  refine ⟨6, rfl, by decide, by decide, fun D hD => ?_⟩
  refine lcb (walk_range (lo := 0) (n := 6)) (fun y => ∃ d : Int, y = .int d ∧ d.natAbs ≤ 2) (by decide) hB hD (fun _ _ => trivial) ?_ ?_
  · rintro i x H1 H2 hi kb1 hB1 ⟨rfl, rfl⟩ k hk
    refine ⟨rfl, _, rfl, _, rfl, (by show 6 ≤ sizeLine; decide), fun p hp => ?_⟩
    have s2 := Same.new (o := .lst (([0, 1, 0, -1, 2, 0] : List Int).map V.int)) hp
    refine ⟨B, p, _, rfl, SqL.of upd_same, hB1.nb hp, (by show 0 < 6; decide), (by show 6 ≤ 1000; decide), hB1.new hp, fun i v H3 hv hB3 kb3 => ?_⟩
    refine hk v H3 ?_ ((Kb.same s2).trans kb3) hB3
    exact pick_ints (ns := [0, 1, 0, -1, 2, 0]) hv (by decide)
  · intro ys H1 hl hys kb1 hB1 hD1
    obtain ⟨ns, rfl, hn, hns⟩ := ints_of ys hys
    exact q D ns H1 hB1 kb1 hD hD1 (by omega) hns
theorem ok_bitrow (T : Tx K mg) : FnOk P w K mg base CX0 2 T.f_l_bit_row T.d_l_bit_row ["_law_bag_here"] (spVec (fun u => u = 0 ∨ u = 1) 6) := by
  have G_l_draw := ok_draw (P := P) (w := w) (base := base) T
  refine T.F_l_bit_row.ok sc_l_bit_row (fun vs H Q E h => ?_) (fun cdv A outer s H vs Q E hr h => ?_)
  · obtain ⟨B, rfl, _⟩ := h
    rfl
  obtain ⟨B, rfl, hB, q⟩ := h
  have nd := sc_l_bit_row.nd
  refine ⟨_, (pss_one (ps_ret (pe_lc (own := [("_law_k", 1)]) (g := (gName 1)) rfl nd (pi_range1 (by rfl) T.z_range (pa_cons pe_int pa_nil)) (blkOk_by (own := [("_law_k", 1)]) (N := N_l_bit_row) (sc := defScope s_l_bit_row) (by decide +kernel)) (fun _ _ _ _ _ => by exact (pg_name (i := 1) nd rfl (Or.inl rfl))) (fun _ _ _ _ _ => by exact pts_nil) (fun _ _ _ _ _ => by exact (pe_call G_l_draw hr (by rfl) T.m_l_draw T.F_l_draw.kp T.b_l_draw .nil pass0 (pa_cons (pv 0) (pa_cons pe_int pa_nil))))))), ?_⟩
  refine ⟨6, rfl, by decide, by decide, fun D hD => ?_⟩
  refine lcb (walk_range (lo := 0) (n := 6)) (fun y => ∃ d : Int, y = .int d ∧ (d = 0 ∨ d = 1)) (by decide) hB hD (fun _ _ => trivial) ?_ ?_
  · rintro i x H1 H2 hi kb1 hB1 ⟨rfl, rfl⟩ k hk
    exact ⟨rfl, _, rfl, B, 2, rfl, by decide, by decide, hB1, fun d H3 d0 d1 hB3 kb3 => hk _ H3 ⟨d, rfl, by omega⟩ kb3 hB3⟩
  · intro ys H1 hl hys kb1 hB1 hD1
    obtain ⟨ns, rfl, hn, hns⟩ := ints_of ys hys
    exact q D ns H1 hB1 kb1 hD hD1 (by omega) hns
def spMixed (K : PySem.W.Frag) : Sp := fun vs H Q _ => ∃ (B : Bg) (a : Addr) (xs : List V), vs = [.ref B.b, .ref a] ∧ H a = some (.lst xs) ∧ a ≠ B.b ∧ xs.length ≤ 100 ∧ Bag B H ∧ ∀ t ys H', Bag B H' → Kb B.b H H' → H t = none → H' t = some (.lst ys) → ys.Perm xs → Q (.ref t) H'
theorem ok_mixed (T : Tx K mg) : FnOk P w K mg base CX0 2 T.f_l_mixed T.d_l_mixed ["_law_bag_here", "_law_things"] (spMixed K) := by
  have G_l_draw := ok_draw (P := P) (w := w) (base := base) T
  refine T.F_l_mixed.ok sc_l_mixed (fun vs H Q E h => ?_) (fun cdv A outer s H vs Q E hr h => ?_)
  · obtain ⟨B, a, xs, rfl, _⟩ := h
    rfl
  obtain ⟨B, a, xs, rfl, ha, hne, hz, hB, q⟩ := h
  have nd := sc_l_mixed.nd
  refine ⟨_, (pss_cons (ps_set (i := 2) nd rfl (Or.inl rfl) (pe_lst pa_nil))
    (pss_cons (ps_for PassesOwn.never rfl (show PI _ _ _ (iList K _) from pi_list (pv 1)) (pg_name (i := 3) nd rfl (Or.inl rfl)) (pss_one (ps_expr (pe_bm PySem.F.plainAttrs_list PySem.F.slot_list_insert PySem.F.type_list_insert mt_insert (pv 2) (pa_cons (pe_call G_l_draw hr (by rfl) T.m_l_draw T.F_l_draw.kp T.b_l_draw .nil pass0 (pa_cons (pv 0) (pa_cons (pe_op op_add (pe_callB (show CallR _ _ (rLenSq K) from call_len_seq) (by rfl) T.z_len (by decide +kernel) (pa_cons (pv 2) pa_nil)) pe_int) pa_nil))) (pa_cons (pv 3) pa_nil))))))
    (pss_one (ps_ret (pv 2))))), ?_⟩
  refine ⟨(by show 0 ≤ sizeLine; decide), fun t ht => ?_⟩
  have s0 := Same.new (o := .lst []) ht
  have ntB : t ≠ B.b := hB.nb ht
  have ntL : t ≠ B.L := hB.nL ht
  have nta : a ≠ t := ne_of_none ha ht
  refine ⟨_, rfl, a, rfl, ⟨_, SqL.of (s0 _ _ ha)⟩, for_it (walk_list (K := K) (a := a) (xs := xs)) (fun i σ H' => ∃ v ys, σ = [some (.ref B.b), some (.ref a), some (.ref t), v] ∧ Bag B H' ∧ Kb B.b H H' ∧ H' a = some (.lst xs) ∧ H' t = some (.lst ys) ∧ ys.Perm (xs.take i)) ⟨_, [], rfl, hB.same s0, Kb.same s0, s0 _ _ ha, upd_same, List.Perm.refl _⟩ (fun _ _ _ _ h => by obtain ⟨_, _, _, _, _, h, _⟩ := h; exact SqL.of h) ?_ ?_⟩
  · rintro i v σ H1 H2 hi ⟨v0, ys, rfl, hB1, kb1, ha1, hy, hp⟩ ⟨rfl, hv⟩
    have hl := hp.length_eq
    rw [List.length_take] at hl
    refine ⟨_, rfl, .inl ⟨rfl, _, SqL.of hy⟩, ?_⟩
    refine ⟨_, rfl, _, rfl, t, ys, rfl, .inl (SqL.of hy), _, _, rfl, rfl, B, _, rfl, by omega, Nat.lt_of_le_of_lt (by omega : ((ys.length : Int) + 1).natAbs ≤ 1000) (by decide), hB1, fun d H3 d0 d1 hB3 kb3 => ?_⟩
    have hy3 := kb3 _ _ hy ntB
    refine ⟨_, rfl, t, ys, _, _, rfl, rfl, hy3, small1000 (by omega), d0, by omega, ?_⟩
    refine ⟨_, _, rfl, hB3.upd ntB ntL, fun c o h n => ?_, ?_, upd_same, ?_⟩
    · rw [upd_ne (ne_of_none h ht)]
      exact kb3 _ _ (kb1 _ _ h n) n
    · rw [upd_ne nta]
      exact kb3 _ _ ha1 hne
    · rw [List.take_succ, hv]
      show (ys.take d.toNat ++ [v] ++ ys.drop d.toNat).Perm (xs.take i ++ [v])
      have h1 : (ys.take d.toNat ++ [v] ++ ys.drop d.toNat).Perm (v :: ys) := by
        rw [List.append_assoc]
        refine List.Perm.trans List.perm_middle ?_
        show (v :: (ys.take d.toNat ++ ys.drop d.toNat)).Perm _
        rw [List.take_append_drop]
      exact (h1.trans (List.Perm.cons v hp)).trans (List.perm_append_comm (l₁ := [v]))
  · rintro σ H1 ⟨v, ys, rfl, hB1, kb1, ha1, hy, hp⟩
    rw [List.take_length] at hp
    exact ⟨_, rfl, q t ys H1 hB1 kb1 ht hy hp⟩
theorem Kb.free {g : Addr} {H H' : Hp} {p : Addr} (k : Kb g H H') (h : H' p = none) (n : p ≠ g) : H p = none := by
  cases e : H p with
  | none => rfl
  | some o =>
    have := k p o e n
    rw [h] at this
    cases this
theorem TupsL.kb {B : Bg} {H H' : Hp} {rs : List V} {xss : List (List Nat)} (hB : Bag B H) (k : Kb B.b H H') (h : TupsL K H rs xss) : TupsL K H' rs xss := ⟨h.1, fun i r hr => by
  obtain ⟨t, L, e1, e2, e3⟩ := h.2 i r hr
  obtain ⟨_, _, _, _, hb, _⟩ := hB.ex
  exact ⟨t, L, e1, e2, seqT_kb hb k e3⟩⟩
theorem seqL_kb {B : Bg} {H H' : Hp} {a : Addr} {rs : List V} (hl : rs.length = 15) (hB : Bag B H) (k : Kb B.b H H') (h : SqL K H a rs) : SqL K H' a rs := by
  obtain ⟨_, _, _, _, hb, _⟩ := hB.ex
  rcases h with (h | ⟨u, h⟩) | h
  · exact .inl (.inl (k _ _ h (ne_of h hb (by intro z; cases z; cases hl))))
  · exact .inl (.inr ⟨u, k _ _ h (ne_of h hb (by intro z; cases z))⟩)
  · exact .inr h
theorem nats_pair {L : List Nat} {i : Nat} (h : prL[i]? = some L) : ∃ p q, L = [p, q] ∧ p < 6 ∧ q < 6 := by
  unfold prL at h
  rw [List.getElem?_map] at h
  obtain ⟨⟨p, q⟩, hpr, rfl⟩ := Option.map_eq_some_iff.mp h
  exact ⟨p, q, rfl, (pr_lt hpr).1, (pr_lt hpr).2⟩
theorem set_bd {ns : List Int} {u : Int} {m j : Nat} (h : ∀ v ∈ ns, v.natAbs ≤ m) (hu : u.natAbs ≤ m) : ∀ v ∈ ns.set j u, v.natAbs ≤ m := fun v hv => by
  rcases List.mem_or_eq_of_mem_set hv with q | q
  · exact h v q
  · rw [q]
    exact hu
theorem flat_cut {xs : List V} {lo hi : Option Int} (h : xs.all flatV = true) : (cutV xs lo hi).all flatV = true := by
  rw [List.all_eq_true] at h ⊢
  intro x hx
  exact h x (List.mem_of_mem_drop (List.mem_of_mem_take hx))
theorem flat_perm {xs ys : List V} (h : xs.all flatV = true) (p : ys.Perm xs) : ys.all flatV = true := by
  rw [List.all_eq_true] at h ⊢
  exact fun x hx => h x (p.subset hx)
def NumI (B : Bg) (H : Hp) (way : Int) (m : Nat) : L2.St → Hp → Prop := fun σ' H' => ∃ (t : Addr) (ns : List Int) (a4 a5 a6 a7 a8 a9 a10 a11 : Option V), σ' = [some (.ref B.b), some (.int 9), some (.int way), some (.ref t), a4, a5, a6, a7, a8, a9, a10, a11] ∧ Bag B H' ∧ Kb B.b H H' ∧ H t = none ∧ H' t = some (.lst (ns.map V.int)) ∧ ns.length = 15 ∧ ∀ u ∈ ns, u.natAbs ≤ m
theorem bd_mono {ns : List Int} {m n : Nat} (h : ∀ u ∈ ns, u.natAbs ≤ m) (hm : m ≤ n) : ∀ u ∈ ns, u.natAbs ≤ n := fun u hu => Nat.le_trans (h u hu) hm
def spNumbers : Sp := fun vs H Q _ => ∃ (B : Bg), vs = [.ref B.b, .int 9] ∧ Bag B H ∧ ∀ (t : Addr) (ns : List Int) (H' : Hp), Bag B H' → Kb B.b H H' → H t = none → H' t = some (.lst (ns.map V.int)) → ns.length = 15 → (∀ u ∈ ns, u.natAbs ≤ 1000) → Q (.ref t) H'
set_option maxHeartbeats 4000000 in
theorem ok_numbers (T : Tx K mg) : FnOk P w K mg base CX0 4 T.f_l_numbers T.d_l_numbers ["_law_bag_here", "_law_size"] spNumbers := by
  have G_l_draw := ok_draw (P := P) (w := w) (base := base) T
  have G_l_of := ok_of (P := P) (w := w) (base := base) T
  have G_l_vector := ok_vector (P := P) (w := w) (base := base) T
  have G_l_places := ok_places (P := P) (w := w) (base := base) T
  have G_l_mixed := ok_mixed (P := P) (w := w) (base := base) T
  refine T.F_l_numbers.ok sc_l_numbers (fun vs H Q E h => ?_) (fun cdv A outer s H vs Q E hr h => ?_)
  · obtain ⟨B, rfl, _⟩ := h
    rfl
  obtain ⟨B, rfl, hB, q⟩ := h
  have nd := sc_l_numbers.nd
  refine ⟨_, (pss_cons (ps_par (i := 2) (j := 3) rfl nd rfl rfl (by decide) rfl rfl (pa_cons (pe_call G_l_draw (hr.mono (by decide)) (by rfl) T.m_l_draw T.F_l_draw.kp T.b_l_draw .nil pass0 (pa_cons (pv 0) (pa_cons pe_int pa_nil))) (pa_cons (pe_lc (own := [("_law_k", 5)]) (g := (gName 5)) rfl nd (pi_range1 (by rfl) T.z_range (pa_cons pe_int pa_nil)) (blkOk_by (own := [("_law_k", 5)]) (N := N_l_numbers) (sc := defScope s_l_numbers) (by decide +kernel)) (fun _ _ _ _ _ => by exact (pg_name (i := 5) nd rfl (Or.inl rfl))) (fun _ _ _ _ _ => by exact pts_nil) (fun _ _ _ _ _ => by exact pe_int)) pa_nil)) rfl)
    (pss_cut (ps_if (pt_cmpR op_eq (pv 2) pe_int (nomark _)) (pss_one (ps_asg (pe_call G_l_of (hr.mono (by decide)) (by rfl) T.m_l_of T.F_l_of.kp T.b_l_of .nil pass0 (pa_cons (pv 0) (pa_cons (pe_lst (pa_cons pe_int (pa_cons (pe_un un_neg pe_int) (pa_cons pe_int (pa_cons (pe_un un_neg pe_int) (pa_cons pe_int pa_nil)))))) pa_nil))) (pg_sub (pv 3) (pe_call G_l_draw (hr.mono (by decide)) (by rfl) T.m_l_draw T.F_l_draw.kp T.b_l_draw .nil pass0 (pa_cons (pv 0) (pa_cons pe_int pa_nil))) set_list))) pss_nil)
    (pss_cut (ps_if (pt_cmpR op_eq (pv 2) pe_int (nomark _)) (pss_cons (ps_set (i := 4) nd rfl (Or.inr rfl) (pe_slice (show SlR _ (rSlL K) from sl_list) (pe_call G_l_mixed (hr.mono (by decide)) (by rfl) T.m_l_mixed T.F_l_mixed.kp T.b_l_mixed .nil pass0 (pa_cons (pv 0) (pa_cons (pe_lst (pa_cons pe_int (pa_cons pe_int (pa_cons pe_int (pa_cons pe_int (pa_cons pe_int (pa_cons pe_int pa_nil))))))) pa_nil))) po_none (po_some (pe_op op_add pe_int (pe_call G_l_draw (hr.mono (by decide)) (by rfl) T.m_l_draw T.F_l_draw.kp T.b_l_draw .nil pass0 (pa_cons (pv 0) (pa_cons pe_int pa_nil)))))))
    (pss_one (ps_setLc (i := 3) (own := [("_law_p", 9), ("_law_q", 10)]) (g := (gTup K 2 (gCons (gName 9) (gCons (gName 10) gNil)))) rfl nd rfl rfl (sw_true rfl rfl rfl (by decide +kernel)) (show PI _ _ _ (iList K _) from pi_list (pe_call0 G_l_places (hr.mono (by decide)) (by rfl) T.m_l_places T.F_l_places.kp T.b_l_places .nil pass0)) (blkOk_by (own := [("_law_p", 9), ("_law_q", 10)]) (N := N_l_numbers) (sc := defScope s_l_numbers) (by decide +kernel)) (fun _ _ _ _ _ => by exact (pg_tup rfl (pgs_cons (pg_name (i := 9) nd rfl (Or.inl rfl)) (pgs_cons (pg_name (i := 10) nd rfl (Or.inl rfl)) pgs_nil)))) (fun _ _ _ _ _ => by exact pts_nil) (fun _ _ _ _ _ => by exact (pe_ifExp (PW.pt (pw_and (pt_cmpR (show OpR _ _ (rIn K false) from op_in_seq) (pv 9) (pv 4) rfl) (pw_and1 (pt_cmpR (show OpR _ _ (rIn K false) from op_in_seq) (pv 10) (pv 4) rfl)))) (pe_op op_sub (pe_call G_l_draw (hr.mono (by decide)) (by rfl) T.m_l_draw T.F_l_draw.kp T.b_l_draw .nil pass0 (pa_cons (pv 0) (pa_cons (pe_op op_add (pe_op op_mul pe_int (pv 1)) pe_int) pa_nil))) (pv 1)) pe_int))))) pss_nil)
    (pss_cut (ps_if (pt_cmpR op_eq (pv 2) pe_int (nomark _)) (pss_one (ps_setLc (i := 3) (own := [("_law_k", 5)]) (g := (gName 5)) rfl nd rfl rfl (sw_true rfl rfl rfl (by decide +kernel)) (pi_range1 (by rfl) T.z_range (pa_cons pe_int pa_nil)) (blkOk_by (own := [("_law_k", 5)]) (N := N_l_numbers) (sc := defScope s_l_numbers) (by decide +kernel)) (fun _ _ _ _ _ => by exact (pg_name (i := 5) nd rfl (Or.inl rfl))) (fun _ _ _ _ _ => by exact pts_nil) (fun _ _ _ _ _ => by exact (pe_op op_sub (pe_call G_l_draw (hr.mono (by decide)) (by rfl) T.m_l_draw T.F_l_draw.kp T.b_l_draw .nil pass0 (pa_cons (pv 0) (pa_cons pe_int pa_nil))) pe_int)))) pss_nil)
    (pss_cut (ps_if (pt_cmpR op_gt (pv 2) pe_int (nomark _)) (pss_one (ps_for PassesOwn.never rfl (pi_range1 (by rfl) T.z_range (pa_cons (pe_op op_add pe_int (pe_call G_l_draw (hr.mono (by decide)) (by rfl) T.m_l_draw T.F_l_draw.kp T.b_l_draw .nil pass0 (pa_cons (pv 0) (pa_cons pe_int pa_nil)))) pa_nil)) (pg_name (i := 5) nd rfl (Or.inl rfl)) (pss_cons (ps_asg (pe_tup (pa_cons (pe_call G_l_vector hr (by rfl) T.m_l_vector T.F_l_vector.kp T.b_l_vector .nil pass0 (pa_cons (pv 0) pa_nil)) (pa_cons (pe_call G_l_vector hr (by rfl) T.m_l_vector T.F_l_vector.kp T.b_l_vector .nil pass0 (pa_cons (pv 0) pa_nil)) (pa_cons (pe_call G_l_of (hr.mono (by decide)) (by rfl) T.m_l_of T.F_l_of.kp T.b_l_of .nil pass0 (pa_cons (pv 0) (pa_cons (pe_lst (pa_cons pe_int (pa_cons pe_int (pa_cons pe_int (pa_cons pe_int (pa_cons (pe_un un_neg pe_int) (pa_cons pe_int pa_nil))))))) pa_nil))) pa_nil)))) (pg_tup rfl (pgs_cons (pg_name (i := 6) nd rfl (Or.inr rfl)) (pgs_cons (pg_name (i := 7) nd rfl (Or.inr rfl)) (pgs_cons (pg_name (i := 8) nd rfl (Or.inr rfl)) pgs_nil)))))
    (pss_one (ps_setLc (i := 3) (own := [("_law_a", 11), ("_law_p", 9), ("_law_q", 10)]) (g := (gTup K 2 (gCons (gName 11) (gCons (gTup K 2 (gCons (gName 9) (gCons (gName 10) gNil))) gNil)))) rfl nd rfl rfl (sw_true rfl rfl rfl (by decide +kernel)) (show PI _ _ _ (RZ.iZipA K _) from RZ.pi_zipA (by rfl) T.z_zip (pa_cons (pv 3) (pa_cons (pe_call0 G_l_places (hr.mono (by decide)) (by rfl) T.m_l_places T.F_l_places.kp T.b_l_places .nil pass0) pa_nil))) (blkOk_by (own := [("_law_a", 11), ("_law_p", 9), ("_law_q", 10)]) (N := N_l_numbers) (sc := defScope s_l_numbers) (by decide +kernel)) (fun _ _ _ _ _ => by exact (pg_tup rfl (pgs_cons (pg_name (i := 11) nd rfl (Or.inl rfl)) (pgs_cons (pg_tup rfl (pgs_cons (pg_name (i := 9) nd rfl (Or.inl rfl)) (pgs_cons (pg_name (i := 10) nd rfl (Or.inl rfl)) pgs_nil))) pgs_nil)))) (fun _ _ _ _ _ => by exact pts_nil) (fun _ _ _ _ _ => by exact (pe_op op_add (pv 11) (pe_op op_mul (pv 8) (pe_op op_sub (pe_op op_mul (pe_ix (show IxR _ (rIxL K) from ix_list) (pv 6) (pv 9) (fun _ _ => rfl)) (pe_ix (show IxR _ (rIxL K) from ix_list) (pv 7) (pv 10) (fun _ _ => rfl))) (pe_op op_mul (pe_ix (show IxR _ (rIxL K) from ix_list) (pv 6) (pv 10) (fun _ _ => rfl)) (pe_ix (show IxR _ (rIxL K) from ix_list) (pv 7) (pv 9) (fun _ _ => rfl)))))))))))) pss_nil)
    (pss_one (ps_ret (pv 3)))))))), ?_⟩
  refine ⟨_, rfl, B, 6, rfl, by decide, by decide, hB, fun way H1 w0 w1 hB1 kb1 => ?_⟩
  refine ⟨15, rfl, by decide, by decide, fun D hD => ?_⟩
  refine lcm (walk_range (n := 15)) ((List.replicate 15 (0 : Int)).map V.int) (by decide) (by decide) hD (fun _ _ => trivial) ?_ fun H2 s2 hD2 => ?_
  · rintro t y x H3 H4 hi3 hy s3 ⟨rfl, rfl⟩ k3 hk3
    obtain rfl : y = V.int 0 := by
      rw [List.getElem?_map, List.getElem?_replicate, if_pos hi3] at hy
      exact (Option.some.inj hy).symm
    exact ⟨rfl, hk3 _ (Same.refl _)⟩
  have hD0 : H D = none := by
    cases e : H D with
    | none => rfl
    | some o =>
      have := kb1 _ _ e (hB1.nb hD)
      rw [hD] at this
      cases this
  have hB2 := hB1.same s2
  have kb2 := kb1.trans (Kb.same s2)
  refine ⟨_, _, rfl, ?_⟩
  refine ⟨NumI B H way 12, ?_, ?_⟩
  · refine ⟨_, rfl, rfl, _, rfl, ?_⟩
    refine ite2 (fun c1 => ?_) (fun c1 => ?_)
    · refine ⟨_, rfl, _, rfl, _, rfl, (by show 5 ≤ sizeLine; decide), fun p hp => ?_⟩
      have s3 := Same.new (o := .lst (([1, -1, 2, -3, 12] : List Int).map V.int)) hp
      refine ⟨B, p, _, rfl, SqL.of upd_same, hB2.nb hp, (by show 0 < 5; decide), (by show 5 ≤ 1000; decide), hB2.new hp, fun i v H3 hv hB3 kb3 => ?_⟩
      obtain ⟨u, rfl, hu⟩ := pick_ints (R := fun u => u.natAbs ≤ 12) (ns := [1, -1, 2, -3, 12]) hv (by decide)
      have nD := hB1.nb hD
      have nL := hB1.nL hD
      refine ⟨_, rfl, _, rfl, B, 15, rfl, by decide, by decide, hB3, fun d H4 d0 d1 hB4 kb4 => ?_⟩
      have hD4 := kb4 _ _ (kb3 _ _ (s3 _ _ hD2) nD) nD
      refine ⟨D, _, d, d.toNat, rfl, rfl, hD4, ?_, ?_⟩
      · unfold ixN
        rw [if_pos d0, if_pos (by rw [List.length_map, List.length_replicate]; omega)]
      · rw [← List.map_set]
        have kb5 := ((kb2.trans (Kb.same s3)).trans kb3).trans kb4
        exact ⟨D, _, _, _, _, _, _, _, _, _, rfl, hB4.upd nD nL, fun c o h n => by rw [upd_ne (ne_of_none h hD0)]; exact kb5 _ _ h n, hD0, upd_same, by rw [List.length_set]; decide, set_bd (fun u hu => by rw [(List.mem_replicate.mp hu).2]; decide) hu⟩
    · exact ⟨D, _, _, _, _, _, _, _, _, _, rfl, hB2, kb2, hD0, hD2, by decide, fun u hu => by rw [(List.mem_replicate.mp hu).2]; decide⟩
  · rintro σ' H' ⟨t, ns, a4, a5, a6, a7, a8, a9, a10, a11, rfl, hB', kb', ht0, ht, hl, hb⟩
    have nt := hB.nb ht0
    refine ⟨NumI B H way 12, ?_, ?_⟩
    · refine ⟨_, rfl, rfl, _, rfl, ?_⟩
      refine ite2 (fun c1 => ?_) (fun c1 => ?_)
      · refine ⟨_, rfl, (by show 6 ≤ sizeLine; decide), fun p hp => ?_⟩
        have s3 := Same.new (o := .lst (([0, 1, 2, 3, 4, 5] : List Int).map V.int)) hp
        refine ⟨B, p, _, rfl, upd_same, hB'.nb hp, (by show 6 ≤ 100; decide), hB'.new hp, fun M ys H3 hB3 kb3 hM0 hM hperm => ?_⟩
        have hMb : M ≠ B.b := (hB'.new hp).nb hM0
        refine ⟨_, rfl, B, 3, rfl, by decide, by decide, hB3, fun d H4 d0 d1 hB4 kb4 => ?_⟩
        have hM4 := kb4 _ _ hM hMb
        refine ⟨2, d, rfl, rfl, _, rfl, M, ys, rfl, SqL.of hM4, fun S hS => ?_⟩
        have s5 := Same.new (o := .lst (cutV ys none (some (2 + d)))) hS
        have hB5 := hB4.same s5
        have hSb := hB4.nb hS
        have kb5 := ((kb'.trans (Kb.same s3)).trans kb3).trans (kb4.trans (Kb.same s5))
        have hS5 : (upd H4 S (.lst (cutV ys none (some (2 + d))))) S = some (.lst (cutV ys none (some (2 + d)))) := upd_same
        have hfl : (cutV ys none (some (2 + d))).all flatV = true := flat_cut (flat_perm (by decide) hperm)
        generalize upd H4 S (.lst (cutV ys none (some (2 + d)))) = H5 at *
        refine ⟨rfl, fun PL H6 s6 hPL => ?_⟩
        obtain ⟨prs, hprs, hprt⟩ := hPL.ex
        have hprl : prs.length = 15 := by rw [hprt.1]; rfl
        have hB6 := hB5.same s6
        refine ⟨PL, rfl, ⟨_, hprs⟩, fun D hD => ?_⟩
        refine lcb (walk_list (K := K) (a := PL) (xs := prs)) (fun y => ∃ d : Int, y = .int d ∧ d.natAbs ≤ 12) (by omega) hB6 hD (fun H' k => seqL_kb hprl hB6 k hprs) ?_ ?_
        · rintro i x H7 H8 hi kb7 hB7 ⟨rfl, hx⟩ k hk
          obtain ⟨pt, L, rfl, hL, hsq⟩ := (hprt.kb hB6 kb7).2 i x hx
          obtain ⟨pp, qq, rfl, hp6, hq6⟩ := nats_pair hL
          have hS7 := kb7 _ _ (s6 _ _ hS5) hSb
          refine ⟨pt, _, rfl, hsq, rfl, _, _, rfl, _, _, rfl, rfl, rfl, ?_⟩
          have done : ∀ H9, Bag B H9 → Kb B.b H8 H9 → ∀ d : Int, 0 ≤ d → d < 2 * 9 + 1 → k (.int (d - 9)) H9 := fun H9 hB9 kb9 d d0 d1 => hk _ H9 ⟨d - 9, rfl, by omega⟩ kb9 hB9
          have draws : ∀ σ : L2.St, σ[0]? = some (some (.ref B.b)) → σ[1]? = some (some (.int 9)) → (tOp (rI0 fun i j => V.int (i - j)) (tCall spDraw [] E0 (tCons (tVar 0) (tCons (tOp (rI0 fun i j => V.int (i + j)) (tOp (rI CMul fun i j => V.int (i * j)) (tC (V.int 2)) (tVar 1)) (tC (V.int 1))) tNil))) (tVar 1)) σ H8 k := fun σ g0 g1 => ⟨_, g0, _, g1, 2, 9, rfl, rfl, cm (by decide), _, 1, rfl, rfl, B, 2 * 9 + 1, rfl, by decide, by decide, hB7, fun d H9 d0 d1 hB9 kb9 => ⟨_, g1, _, _, rfl, rfl, done H9 hB9 kb9 d d0 d1⟩⟩
          refine ⟨_, rfl, _, rfl, S, _, rfl, .inl (SqL.of hS7), rfl, hfl, _, rfl, ?_⟩
          refine ite2 (fun _ => ?_) (fun _ => ?_)
          · refine ⟨_, rfl, _, rfl, S, _, rfl, .inl (SqL.of hS7), rfl, hfl, _, rfl, ?_⟩
            refine ite2 (fun _ => draws _ rfl rfl) (fun _ => ?_)
            exact hk _ _ ⟨0, rfl, by decide⟩ (Kb.refl _ _) hB7
          · exact iteF' rfl (hk _ _ ⟨0, rfl, by decide⟩ (Kb.refl _ _) hB7)
        · intro zs H7 hl7 hzs kb7 hB7 hD7
          obtain ⟨ms, rfl, hn, hms⟩ := ints_of zs hzs
          have kb6 := kb5.trans (Kb.same s6)
          exact ⟨D, ms, _, _, _, _, _, _, _, _, rfl, hB7, kb6.trans kb7, Kb.free kb6 hD (hB6.nb hD), hD7, by omega, hms⟩
      · exact ⟨t, ns, _, _, _, _, _, _, _, _, rfl, hB', kb', ht0, ht, hl, hb⟩
    · rintro σ' H' ⟨t, ns, a4, a5, a6, a7, a8, a9, a10, a11, rfl, hB', kb', ht0, ht, hl, hb⟩
      have nt := hB.nb ht0
      refine ⟨NumI B H way 12, ?_, ?_⟩
      · refine ⟨_, rfl, rfl, _, rfl, ?_⟩
        refine ite2 (fun c1 => ?_) (fun c1 => ?_)
        · refine ⟨15, rfl, by decide, by decide, fun D hD => ?_⟩
          refine lcb (walk_range (lo := 0) (n := 15)) (fun y => ∃ d : Int, y = .int d ∧ d.natAbs ≤ 12) (by decide) hB' hD (fun _ _ => trivial) ?_ ?_
          · rintro i x H1 H2 hi kb1 hB1 ⟨rfl, rfl⟩ k hk
            exact ⟨rfl, _, rfl, B, 5, rfl, by decide, by decide, hB1, fun d H3 d0 d1 hB3 kb3 => ⟨_, _, rfl, rfl, hk _ H3 ⟨d - 2, rfl, by omega⟩ kb3 hB3⟩⟩
          · intro ys H1 hl hys kb1 hB1 hD1
            obtain ⟨ms, rfl, hn, hms⟩ := ints_of ys hys
            exact ⟨D, ms, _, _, _, _, _, _, _, _, rfl, hB1, kb'.trans kb1, Kb.free kb' hD (hB'.nb hD), hD1, by omega, hms⟩
        · exact ⟨t, ns, _, _, _, _, _, _, _, _, rfl, hB', kb', ht0, ht, hl, hb⟩
      · rintro σ' H' ⟨t, ns, a4, a5, a6, a7, a8, a9, a10, a11, rfl, hB', kb', ht0, ht, hl, hb⟩
        have nt := hB.nb ht0
        refine ⟨NumI B H way 1000, ?_, ?_⟩
        · refine ⟨_, rfl, _, _, rfl, rfl, _, rfl, ?_⟩
          refine ite2 (fun c1 => ?_) (fun c1 => ?_)
          · refine ⟨_, rfl, B, 3, rfl, by decide, by decide, hB', fun d H1 d0 d1 hB1 kb1 => ?_⟩
            refine ⟨_, _, rfl, rfl, 1 + d, rfl, by omega, by omega, for_range (lo := 0) (n := (1 + d).toNat) (fun i => NumI B H way (12 + 48 * i)) ⟨t, ns, _, _, _, _, _, _, _, _, rfl, hB1, kb'.trans kb1, ht0, kb1 _ _ ht nt, hl, hb⟩ ?_ ?_⟩
            · rintro i σ' H2 hi ⟨t, ns, a4, a5, a6, a7, a8, a9, a10, a11, rfl, hB2, kb2, ht0, ht, hl, hb⟩
              have nt := hB.nb ht0
              refine ⟨_, rfl, B, rfl, hB2, fun U us H3 hB3 kb3 hU0 hU hul hub => ?_⟩
              have hUb := hB2.nb hU0
              refine ⟨_, rfl, B, rfl, hB3, fun W ws H4 hB4 kb4 hW0 hW hwl hwb => ?_⟩
              have hWb := hB3.nb hW0
              refine ⟨_, rfl, _, rfl, (by show 6 ≤ sizeLine; decide), fun p hp => ?_⟩
              have s5 := Same.new (o := .lst (([1, 1, 2, 3, -1, 6] : List Int).map V.int)) hp
              refine ⟨B, p, _, rfl, SqL.of upd_same, hB4.nb hp, (by show 0 < 6; decide), (by show 6 ≤ 1000; decide), hB4.new hp, fun j v H5 hv hB5 kb5 => ?_⟩
              obtain ⟨z, rfl, hz⟩ := pick_ints (R := fun u => u.natAbs ≤ 6) (ns := [1, 1, 2, 3, -1, 6]) hv (by decide)
              have kb45 := (Kb.same s5).trans kb5
              have hW5 := kb45 _ _ hW hWb
              have hU5 := (kb4.trans kb45) _ _ hU hUb
              have ht5 := ((kb3.trans kb4).trans kb45) _ _ ht nt
              have kbA := ((kb2.trans kb3).trans kb4).trans kb45
              refine ⟨(by show 3 ≤ sizeLine; decide), fun tt htt => ?_⟩
              have s6 := Same.new (o := .tup [.ref U, .ref W, .int z]) htt
              refine ⟨tt, _, rfl, SqT.of upd_same, rfl, _, _, rfl, _, _, rfl, _, _, rfl, rfl, ?_⟩
              have hB6 := hB5.same s6
              generalize upd H5 tt (.tup [.ref U, .ref W, .int z]) = H6 at *
              refine ⟨_, rfl, rfl, fun PL H7 s7 hPL => ?_⟩
              obtain ⟨prs, hprs, hprt⟩ := hPL.ex
              have hprl : prs.length = 15 := by rw [hprt.1]; rfl
              have s67 := s6.trans s7
              have ht7 := s67 _ _ ht5
              refine ⟨t, PL, _, _, rfl, .inl ⟨SqL.of ht7, hprs, fun D hD => ?_⟩⟩
              refine lcs (walk_zip (n := 15) (by rw [List.length_map, hl, hprl]; rfl)) (fun _ y _ => ∃ d : Int, y = .int d ∧ d.natAbs ≤ 12 + 48 * (i + 1)) (fun _ _ _ _ _ h => h) (fun _ _ _ _ _ _ h => h) (by decide) hD (fun H' s => ⟨s.seq (SqL.of ht7), s.seq hprs⟩) ?_ ?_
              · rintro j x H8 H9 hj s8 ⟨tq, y, u, rfl, htq, rfl, hy, hu⟩ k hk
                replace hu : prs[j]? = some u := hu
                replace hy : (ns.map V.int)[j]? = some y := hy
                obtain ⟨av, rfl, hav⟩ := pick_ints (R := fun u => u.natAbs ≤ 12 + 48 * i) hy hb
                have sq := Same.new (o := .tup [.int av, u]) htq
                obtain ⟨pt, L, rfl, hL, hsq⟩ := ((hprt.same s8).same sq).2 j u hu
                obtain ⟨pp, qq, rfl, hp6, hq6⟩ := nats_pair hL
                obtain ⟨au, f1, f2⟩ := at6 (i := (pp : Int)) hul hub (by omega) (by omega)
                obtain ⟨aw, f3, f4⟩ := at6 (i := (qq : Int)) hul hub (by omega) (by omega)
                obtain ⟨bu, f5, f6⟩ := at6 (i := (pp : Int)) hwl hwb (by omega) (by omega)
                obtain ⟨bw, f7, f8⟩ := at6 (i := (qq : Int)) hwl hwb (by omega) (by omega)
                have sA := (s67.trans s8).trans sq
                have hda := sA _ _ hU5
                have hdb := sA _ _ hW5
                have m1 := mul22 (k := 4) f2 f8 (by decide)
                have m2 := mul22 (k := 4) f4 f6 (by decide)
                have m3 : (z * (au * bw - aw * bu)).natAbs ≤ 48 := mul22 (m := 6) (n := 8) hz (by omega) (by decide)
                refine ⟨tq, _, rfl, SqT.of upd_same, rfl, _, _, rfl, _, _, rfl, ⟨pt, _, rfl, hsq, rfl, _, _, rfl, _, _, rfl, rfl, rfl, rfl, ?_⟩⟩
                refine ⟨_, rfl, _, rfl, _, rfl, _, rfl, U, _, _, _, rfl, rfl, SqL.of hda, f1, _, rfl, _, rfl, W, _, _, _, rfl, rfl, SqL.of hdb, f7, _, _, rfl, rfl, cm (by omega), ?_⟩
                refine ⟨_, rfl, _, rfl, U, _, _, _, rfl, rfl, SqL.of hda, f3, _, rfl, _, rfl, W, _, _, _, rfl, rfl, SqL.of hdb, f5, _, _, rfl, rfl, cm (by omega), ?_⟩
                refine ⟨_, _, rfl, rfl, _, _, rfl, rfl, cm (by omega), _, _, rfl, rfl, ?_⟩
                exact hk _ _ sq ⟨_, rfl, by omega⟩
              · intro ms H8 hl8 hms s8 hD8
                obtain ⟨mo, rfl, hm1, hm2⟩ := ints_of ms fun y hy => by
                  obtain ⟨j, hj, rfl⟩ := List.mem_iff_getElem.mp hy
                  exact hms j _ (List.getElem?_eq_getElem hj)
                have kbB := kbA.trans (Kb.same s67)
                exact ⟨D, mo, _, _, _, _, _, _, _, _, rfl, (hB6.same s7).same s8, kbB.trans (Kb.same s8), Kb.free kbB hD ((hB6.same s7).nb hD), hD8, by omega, hm2⟩
            · rintro σ' H2 ⟨t, ns, a4, a5, a6, a7, a8, a9, a10, a11, rfl, hB2, kb2, ht0, ht, hl, hb⟩
              exact ⟨t, ns, _, _, _, _, _, _, _, _, rfl, hB2, kb2, ht0, ht, hl, bd_mono hb (by omega)⟩
          · exact ⟨t, ns, _, _, _, _, _, _, _, _, rfl, hB', kb', ht0, ht, hl, bd_mono hb (by decide)⟩
        · rintro σ' H' ⟨t, ns, a4, a5, a6, a7, a8, a9, a10, a11, rfl, hB', kb', ht0, ht, hl, hb⟩
          exact ⟨_, rfl, q t ns H' hB' kb' ht0 ht hl hb⟩
end
end TL.W
namespace TL
open PySem L2
section
variable {J : It} {n : Nat} {G : Hp → Prop} {D : Addr} {g : TG} {tt : TT} {te : TE} {vs : List Nat} {σ : L2.St} {H0 : Hp} {Qd : Hp → Prop}
/-- what is to be shown of a comprehension with a test -/
def LcGoalT (J : It) (g : TG) (tt : TT) (te : TE) (vs : List Nat) (σ : L2.St) (H0 : Hp) (D : Addr) (Qd : Hp → Prop) : Prop :=
  ∃ W : Nat → Nat → Hp → Prop, (∃ m, W 0 m (upd H0 D (.lst []))) ∧ ∀ i m H, W i m H →
      (J.stop i H ∧ Qd H) ∨ (J.go i H ∧ ∃ Nx : Hp → Prop, (∀ H', Nx H' → ∃ m', m' < m ∧ W (i + 1) m' H') ∧ ∀ x H', J.yld i H x H' → g x (wipe σ vs) H' fun σ2 H2 => wipe σ2 vs = wipe σ vs ∧ tt σ2 H2 fun b H3 =>
        if b = true then te σ2 H3 fun y H4 => ∃ acc, H4 D = some (.lst acc) ∧ acc.length < sizeLine ∧ Nx (upd H4 D (.lst (acc ++ [y]))) else Nx H3)
/-- the items that pass a test, whatever is made of them -/
theorem lcf {xs : List V} (w : Walk J xs.length G (YAt xs)) (p : V → Bool) (f : V → V) (hz : xs.length ≤ 100000) (hD : H0 D = none) (hG : ∀ H, Same H0 H → G H)
    (hs : ∀ (i : Nat) x H, xs[i]? = some x → Same H0 H → ∀ k1 : Hp → Prop, ∀ k2 : VK, (p x = false → ∀ H4, Same H H4 → k1 H4) → (p x = true → ∀ H4, Same H H4 → k2 (f x) H4) → g x (wipe σ vs) H fun σ2 H2 => wipe σ2 vs = wipe σ vs ∧ tt σ2 H2 fun b H3 => if b = true then te σ2 H3 k2 else k1 H3)
    (hd : ∀ H, Same H0 H → H D = some (.lst ((xs.filter p).map f)) → Qd H) : LcGoalT J g tt te vs σ H0 D Qd := by
  refine lc_it w (fun i H => Same H0 H ∧ H D = some (.lst (((xs.take i).filter p).map f))) ⟨Same.new hD, upd_same⟩ (fun i H _ h => hG H h.1) (fun i x H H' hi h hy => ?_) (fun H h => ?_)
  · obtain ⟨rfl, hx⟩ := hy
    have et : (xs.take (i + 1)).filter p = (xs.take i).filter p ++ [x].filter p := by
      rw [List.take_succ, hx, List.filter_append]
      rfl
    refine hs i x H' hx h.1 _ _ (fun e H4 s4 => ⟨h.1.trans s4, ?_⟩) (fun e H4 s4 => ⟨((xs.take i).filter p).map f, s4 _ _ h.2, ?_, fun c u q => ?_, ?_⟩)
    · rw [s4 _ _ h.2, et, List.filter_cons, e]
      simp
    · rw [List.length_map]
      refine Nat.lt_of_le_of_lt (Nat.le_trans (List.length_filter_le ..) (Nat.le_trans (List.length_take_le' ..) hz)) (by decide)
    · rw [upd_ne (ne_of_none q hD)]
      exact s4 _ _ (h.1 _ _ q)
    · rw [upd_same, et, List.filter_cons, e]
      simp
  · refine hd H h.1 ?_
    rw [h.2, List.take_length]
end
/-- a range's numbers -/
theorem walk_rangeY {k n : Nat} : Walk (Itr (k : Int) n) ((List.range' k n).map fun i : Nat => V.int (i : Int)).length (fun _ => True) (YAt ((List.range' k n).map fun i : Nat => V.int (i : Int))) := by
  rw [List.length_map, List.length_range']
  refine walk_range.mono (fun _ h => h) fun i H x H' hi _ y => ?_
  obtain ⟨rfl, rfl⟩ := y
  refine ⟨rfl, ?_⟩
  rw [List.getElem?_map, List.getElem?_range' hi]
  show some (V.int ((k + 1 * i : Nat) : Int)) = some (V.int ((k : Int) + (i : Int)))
  rw [show ((k + 1 * i : Nat) : Int) = (k : Int) + (i : Int) by omega]
end TL
namespace TL.W
open TL
open PySem L2
theorem cell_of {A : List (List Int)} {p q : Nat} {row : List Int} (h : A[p]? = some row) : cell A p q = row.getD q 0 := by
  unfold cell
  rw [getD_of h]
theorem cell_put {A : List (List Int)} {n i j : Nat} {v : Int} (hl : A.length = n) (hw : RowsW n A) (hi : i < n) (hj : j < n) (p q : Nat) : cell (A.set i ((A.getD i []).set j v)) p q = if p = i ∧ q = j then v else cell A p q := by
  by_cases e : p = i
  · subst e
    rw [cell_of (List.getElem?_set_self (by omega))]
    have hrow := hw _ (getD_mem (i := p) (by omega))
    by_cases e2 : q = j
    · subst e2
      rw [if_pos ⟨rfl, rfl⟩, List.getD_eq_getElem?_getD, List.getElem?_set_self (by omega)]
      rfl
    · rw [if_neg (by omega), List.getD_eq_getElem?_getD, List.getElem?_set_ne (by omega)]
      unfold cell
      rw [List.getD_eq_getElem?_getD (l := A.getD p [])]
  · rw [if_neg (by omega)]
    unfold cell
    have : (A.set i ((A.getD i []).set j v)).getD p [] = A.getD p [] := by
      rw [List.getD_eq_getElem?_getD, List.getElem?_set_ne (by omega), ← List.getD_eq_getElem?_getD]
    rw [this]
theorem put_rows {A : List (List Int)} {n i j : Nat} {v : Int} (hl : A.length = n) (hw : RowsW n A) (hi : i < n) : RowsW n (A.set i ((A.getD i []).set j v)) := fun row hr => by
  rcases List.mem_or_eq_of_mem_set hr with h | h
  · exact hw row h
  · rw [h, List.length_set]
    exact hw _ (getD_mem (by omega))
theorem cell_swap {A : List (List Int)} {r f p q : Nat} (hr : r < A.length) (hf : f < A.length) : cell (pivM A r f) p q = cell A (if p = f then r else if p = r then f else p) q := by
  unfold pivM
  by_cases e : f = r
  · rw [if_pos e]
    subst e
    by_cases e2 : p = f
    · rw [if_pos e2, e2]
    · rw [if_neg e2, if_neg e2]
  · rw [if_neg e]
    unfold swapR
    by_cases e1 : p = f
    · subst e1
      rw [if_pos rfl, cell_of (List.getElem?_set_self (by rw [List.length_set]; exact hf))]
      rfl
    · rw [if_neg e1]
      by_cases e2 : p = r
      · subst e2
        rw [if_pos rfl, cell_of (row := A.getD f []) (by rw [List.getElem?_set_ne (by omega), List.getElem?_set_self hr])]
        rfl
      · rw [if_neg e2]
        unfold cell
        have : ((A.set r (A.getD f [])).set f (A.getD r [])).getD p [] = A.getD p [] := by
          rw [List.getD_eq_getElem?_getD, List.getElem?_set_ne (by omega), List.getElem?_set_ne (by omega), ← List.getD_eq_getElem?_getD]
        rw [this]
theorem cell_red {R : List (List Int)} {n k p q : Nat} {last : Int} (hl : R.length = n) (hw : RowsW n R) (hk : k < n) (hp : k < p) (hpn : p < n) (hq : q < n) : cell (redTo last (R.getD k []) k k n R) p q = (cell R k k * cell R p q - cell R p k * cell R k q).fdiv last := by
  have hpr : R[p]? = some (R.getD p []) := getD_some (by omega)
  have h1 : (redTo last (R.getD k []) k k n R)[p]? = some (redRow last (R.getD k []) k (R.getD p [])) := by
    rw [red_at, hpr]
    simp only [Option.map_some]
    rw [if_pos ⟨hp, hpn⟩]
  rw [cell_of h1]
  have l1 := hw _ (getD_mem (i := p) (M := R) (by omega))
  have l2 := hw _ (getD_mem (i := k) (M := R) (by omega))
  unfold redRow cell
  rw [List.getD_eq_getElem?_getD (i := q), List.getElem?_zipWith, List.getD_eq_getElem?_getD (i := q) (l := R.getD p []), List.getD_eq_getElem?_getD (i := q) (l := R.getD k []), List.getElem?_eq_getElem (by omega), List.getElem?_eq_getElem (by omega)]
  rfl
/-- two matrices agree from row and column k on -/
def Agr (n k : Nat) (A R : List (List Int)) : Prop := ∀ p q, k ≤ p → p < n → k ≤ q → q < n → cell A p q = cell R p q
theorem ffrom_agr {A R : List (List Int)} {c : Nat} : ∀ {m i : Nat}, (∀ p, i ≤ p → p < i + m → cell A p c = cell R p c) → ffrom A c i m = ffrom R c i m
  | 0, _, _ => by rw [ffrom_zero, ffrom_zero]
  | m + 1, i, h => by
    rw [ffrom_succ, ffrom_succ, show (A.getD i []).getD c 0 = (R.getD i []).getD c 0 from h i (Nat.le_refl _) (by omega), ffrom_agr fun p h1 h2 => h p (by omega) (by omega)]
theorem ffrom_filter (A : List (List Int)) (c : Nat) : ∀ (m i : Nat), ffrom A c i m = ((List.range' i m).filter fun j => cell A j c != 0).head?
  | 0, i => by
    rw [ffrom_zero]
    rfl
  | m + 1, i => by
    rw [ffrom_succ, List.range'_succ, List.filter_cons]
    by_cases h : (A.getD i []).getD c 0 ≠ 0
    · rw [if_pos h, if_pos (show (cell A i c != 0) = true by rw [bne_iff_ne]; exact h)]
      rfl
    · rw [if_neg h, if_neg (by rw [bne_iff_ne]; exact h), ffrom_filter A c m (i + 1)]
theorem rank_grow (M : List (List Int)) (c : Nat) : ∀ d, (clrN M (c + d)).2.1 ≤ (clrN M c).2.1 + d
  | 0 => Nat.le_refl _
  | d + 1 => by
    have ih := rank_grow M c d
    show (stepC (c + d) (clrN M (c + d))).2.1 ≤ _
    unfold stepC
    split
    · omega
    · dsimp only
      omega
/-- inside a step: what is done already -/
def Mid (n k i j : Nat) (A R1 R' : List (List Int)) : Prop := ∀ p q, k ≤ p → p < n → k ≤ q → q < n → cell A p q = if k < p ∧ k < q ∧ (p < i ∨ (p = i ∧ q < j)) then cell R' p q else cell R1 p q
theorem Mid.start {n k : Nat} {A R1 R' : List (List Int)} (h : Agr n k A R1) : Mid n k (k + 1) (k + 1) A R1 R' := fun p q a b c d => by
  rw [if_neg (by omega)]
  exact h p q a b c d
theorem Mid.row {n k i : Nat} {A R1 R' : List (List Int)} (h : Mid n k i n A R1 R') : Mid n k (i + 1) (k + 1) A R1 R' := fun p q a b c d => by
  rw [h p q a b c d]
  by_cases e : k < p ∧ k < q ∧ (p < i ∨ (p = i ∧ q < n))
  · rw [if_pos e, if_pos (by omega)]
  · rw [if_neg e, if_neg (by omega)]
theorem Mid.fin {n k : Nat} {A R1 R' : List (List Int)} (h : Mid n k n (k + 1) A R1 R') : Agr n (k + 1) A R' := fun p q a b c d => by
  rw [h p q (by omega) b (by omega) d, if_pos (by omega)]
theorem Mid.put {n k i j : Nat} {A R1 R' : List (List Int)} (hl : A.length = n) (hw : RowsW n A) (hi : i < n) (hj : j < n) (ki : k < i) (kj : k < j) (h : Mid n k i j A R1 R') : Mid n k i (j + 1) (A.set i ((A.getD i []).set j (cell R' i j))) R1 R' := fun p q a b c d => by
  rw [cell_put hl hw hi hj]
  by_cases e : p = i ∧ q = j
  · rw [if_pos e, if_pos (by omega), e.1, e.2]
  · rw [if_neg e, h p q a b c d]
    by_cases e2 : k < p ∧ k < q ∧ (p < i ∨ (p = i ∧ q < j))
    · rw [if_pos e2, if_pos (by omega)]
    · rw [if_neg e2, if_neg (by omega)]
theorem Mid.old {n k i j p q : Nat} {A R1 R' : List (List Int)} (h : Mid n k i j A R1 R') (a : k ≤ p) (b : p < n) (c : k ≤ q) (d : q < n) (e : p = k ∨ q = k ∨ (p = i ∧ j ≤ q)) : cell A p q = cell R1 p q := by
  rw [h p q a b c d, if_neg (by omega)]
theorem swap_get {α : Type} {ys : List α} {r f : Nat} {a b : α} (hf : ys[f]? = some a) (hr : ys[r]? = some b) (i : Nat) : ((ys.set r a).set f b)[i]? = ys[if i = f then r else if i = r then f else i]? := by
  have lf := (List.getElem?_eq_some_iff.mp hf).1
  have lr := (List.getElem?_eq_some_iff.mp hr).1
  by_cases e1 : i = f
  · subst e1
    rw [if_pos rfl, List.getElem?_set_self (by rw [List.length_set]; exact lf), hr]
  · rw [if_neg e1, List.getElem?_set_ne (by omega)]
    by_cases e2 : i = r
    · subst e2
      rw [if_pos rfl, List.getElem?_set_self lr, hf]
    · rw [if_neg e2, List.getElem?_set_ne (by omega)]
theorem nodup_swap {α : Type} {ys : List α} {r f : Nat} {a b : α} (hn : ys.Nodup) (hf : ys[f]? = some a) (hr : ys[r]? = some b) : ((ys.set r a).set f b).Nodup := by
  have lf := (List.getElem?_eq_some_iff.mp hf).1
  have lr := (List.getElem?_eq_some_iff.mp hr).1
  refine List.pairwise_iff_getElem.mpr fun i j hi hj hij e => ?_
  have hi' : i < ys.length := by simpa using hi
  have hj' : j < ys.length := by simpa using hj
  have e2 : ((ys.set r a).set f b)[i]? = ((ys.set r a).set f b)[j]? := by rw [List.getElem?_eq_getElem hi, List.getElem?_eq_getElem hj, e]
  rw [swap_get hf hr, swap_get hf hr] at e2
  have hlt : (if i = f then r else if i = r then f else i) < ys.length := by
    by_cases a1 : i = f
    · rw [if_pos a1]; exact lr
    · rw [if_neg a1]
      by_cases a2 : i = r
      · rw [if_pos a2]; exact lf
      · rw [if_neg a2]; exact hi'
  have := (List.getElem?_inj hlt hn).mp e2
  grind
end TL.W
namespace TL.W
open TL
open PySem L2

/-! ### steps of a reading -/
local macro_rules | `(tactic| walk_at "hp") => `(tactic| first | assumption | exact upd_same | (refine (upd_ne (by first | assumption | (exact Ne.symm (by assumption)))).trans ?_; walk_at "hp"))
local macro_rules | `(tactic| walk_at "ok") => `(tactic| first | (exact Or.inr ⟨by decide, by decide⟩) | (exact ⟨by decide, by decide⟩) | (exact ⟨by decide, by decide, by decide⟩) | (show _ ≠ _; omega) | (show _ ≠ _; decide) | (exact Or.inl ⟨by omega, by omega⟩) | decide)
local macro_rules | `(tactic| walk_at "sq") => `(tactic| first | assumption | exact SqL.of (by walk_at "hp") | exact SqT.of (by walk_at "hp"))
local macro_rules | `(tactic| walk_at "ty") => `(tactic| first | refine ⟨_, _, Value.type "int", Value.type "list", false, rfl, ClsV.ty _, TyX.base (TyOf.int _), kt_int_list, ?_⟩ | refine ⟨_, _, Value.type "bool", Value.type "list", false, rfl, ClsV.ty _, TyX.base (TyOf.bl _), kt_bool_list, ?_⟩ | refine ⟨_, _, Value.type "str", Value.type "list", false, rfl, ClsV.ty _, TyX.base (TyOf.str _), kt_str_list, ?_⟩ | refine ⟨_, _, Value.type "NoneType", Value.type "list", false, rfl, ClsV.ty _, TyX.base TyOf.non, kt_NoneType_list, ?_⟩ | refine ⟨_, _, Value.type "list", Value.type "list", true, rfl, ClsV.ty _, tyx_L (by walk_at "sq"), kt_list_list, ?_⟩ | refine ⟨_, _, Value.type "tuple", Value.type "list", false, rfl, ClsV.ty _, tyx_T (by walk_at "sq"), kt_tuple_list, ?_⟩ | refine ⟨_, _, Value.type "int", Value.type "tuple", false, rfl, ClsV.ty _, TyX.base (TyOf.int _), kt_int_tuple, ?_⟩ | refine ⟨_, _, Value.type "bool", Value.type "tuple", false, rfl, ClsV.ty _, TyX.base (TyOf.bl _), kt_bool_tuple, ?_⟩ | refine ⟨_, _, Value.type "str", Value.type "tuple", false, rfl, ClsV.ty _, TyX.base (TyOf.str _), kt_str_tuple, ?_⟩ | refine ⟨_, _, Value.type "NoneType", Value.type "tuple", false, rfl, ClsV.ty _, TyX.base TyOf.non, kt_NoneType_tuple, ?_⟩ | refine ⟨_, _, Value.type "list", Value.type "tuple", false, rfl, ClsV.ty _, tyx_L (by walk_at "sq"), kt_list_tuple, ?_⟩ | refine ⟨_, _, Value.type "tuple", Value.type "tuple", true, rfl, ClsV.ty _, tyx_T (by walk_at "sq"), kt_tuple_tuple, ?_⟩ | refine ⟨_, _, Value.type "int", Value.type "bool", false, rfl, ClsV.ty _, TyX.base (TyOf.int _), kt_int_bool, ?_⟩ | refine ⟨_, _, Value.type "bool", Value.type "bool", true, rfl, ClsV.ty _, TyX.base (TyOf.bl _), kt_bool_bool, ?_⟩ | refine ⟨_, _, Value.type "str", Value.type "bool", false, rfl, ClsV.ty _, TyX.base (TyOf.str _), kt_str_bool, ?_⟩ | refine ⟨_, _, Value.type "NoneType", Value.type "bool", false, rfl, ClsV.ty _, TyX.base TyOf.non, kt_NoneType_bool, ?_⟩ | refine ⟨_, _, Value.type "list", Value.type "bool", false, rfl, ClsV.ty _, tyx_L (by walk_at "sq"), kt_list_bool, ?_⟩ | refine ⟨_, _, Value.type "tuple", Value.type "bool", false, rfl, ClsV.ty _, tyx_T (by walk_at "sq"), kt_tuple_bool, ?_⟩ | refine ⟨_, _, Value.type "int", Value.type "int", true, rfl, ClsV.ty _, TyX.base (TyOf.int _), kt_int_int, ?_⟩ | refine ⟨_, _, Value.type "bool", Value.type "int", true, rfl, ClsV.ty _, TyX.base (TyOf.bl _), kt_bool_int, ?_⟩ | refine ⟨_, _, Value.type "str", Value.type "int", false, rfl, ClsV.ty _, TyX.base (TyOf.str _), kt_str_int, ?_⟩ | refine ⟨_, _, Value.type "NoneType", Value.type "int", false, rfl, ClsV.ty _, TyX.base TyOf.non, kt_NoneType_int, ?_⟩ | refine ⟨_, _, Value.type "list", Value.type "int", false, rfl, ClsV.ty _, tyx_L (by walk_at "sq"), kt_list_int, ?_⟩ | refine ⟨_, _, Value.type "tuple", Value.type "int", false, rfl, ClsV.ty _, tyx_T (by walk_at "sq"), kt_tuple_int, ?_⟩ | refine ⟨_, _, Value.type "int", Value.type "str", false, rfl, ClsV.ty _, TyX.base (TyOf.int _), kt_int_str, ?_⟩ | refine ⟨_, _, Value.type "bool", Value.type "str", false, rfl, ClsV.ty _, TyX.base (TyOf.bl _), kt_bool_str, ?_⟩ | refine ⟨_, _, Value.type "str", Value.type "str", true, rfl, ClsV.ty _, TyX.base (TyOf.str _), kt_str_str, ?_⟩ | refine ⟨_, _, Value.type "NoneType", Value.type "str", false, rfl, ClsV.ty _, TyX.base TyOf.non, kt_NoneType_str, ?_⟩ | refine ⟨_, _, Value.type "list", Value.type "str", false, rfl, ClsV.ty _, tyx_L (by walk_at "sq"), kt_list_str, ?_⟩ | refine ⟨_, _, Value.type "tuple", Value.type "str", false, rfl, ClsV.ty _, tyx_T (by walk_at "sq"), kt_tuple_str, ?_⟩)
local macro_rules | `(tactic| walk_at "go1") => `(tactic| first
  | (refine ⟨_, rfl, ?_⟩)
  | (refine ⟨_, _, rfl, rfl, ?_⟩)
  | (refine ⟨_, _, _, _, rfl, rfl, SqL.of (by walk_at "hp"), rfl, ?_⟩)
  | (refine Or.inl ⟨_, rfl, ?_⟩)
  | (refine ⟨rfl, ?_⟩)
  | (refine ⟨_, _, rfl, .inl (SqL.of (by walk_at "hp")), ?_⟩)
  | (refine ⟨_, _, rfl, Or.inl (by assumption), ?_⟩)
  | (refine ⟨_, _, rfl, Or.inr (by assumption), ?_⟩)
  | (refine ⟨(by walk_at "ok"), ?_⟩)
  | (refine ⟨_, _, _, _, rfl, rfl, (by walk_at "hp"), rfl, ?_⟩))
local macro_rules | `(tactic| walk_at "go") => `(tactic| repeat (walk_at "go1"))
local macro_rules | `(tactic| walk_at "gt") => `(tactic| repeat (first | walk_at "go1" | walk_at "ty"))

section
variable {P : Program} {w : World} {K : PySem.W.Frag} {mg : Str → Option Value} {base : Heap}
-- [0=_law_matrix, 1=_law_rows*, 2=_law_sign, 3=_law_last, 4=_law_size, 5=_law_k*, 6=_law_some, 7=_law_i, 8=_law_j, 9=_law_row]
theorem ev_cell {σ : L2.St} {H : Hp} {D : Addr} {ys : List V} {A : List (List Int)} {n p q a b : Nat} {Q : VK} (hD : H D = some (.lst ys)) (m : MatL H ys A) (hl : A.length = n) (hw : RowsW n A) (hp : p < n) (hq : q < n) (h1 : σ[1]? = some (some (.ref D))) (ha : σ[a]? = some (some (.int (p : Int)))) (hb : σ[b]? = some (some (.int (q : Int)))) (k : Q (.int (cell A p q)) H) :
    (tOp (rIxL K) (tOp (rIxL K) (tVar 1) (tVar a)) (tVar b)) σ H Q := by
  obtain ⟨t, g1, g2⟩ := m.at (i := p) (by omega)
  have hrow := hw _ (getD_mem (i := p) (M := A) (by omega))
  exact ⟨_, h1, _, ha, D, _, _, _, rfl, rfl, SqL.of hD, at_of (j := p) rfl g1, _, hb, _, _, _, _, rfl, rfl, SqL.of g2, at_of (j := q) rfl (getD_map (by omega)), k⟩
theorem cell_ent {E : Nat} {R : List (List Int)} (h : Ent E R) (a b : Nat) : (cell R a b).natAbs < 2 ^ E := by
  unfold cell
  rw [List.getD_eq_getElem?_getD, List.getD_eq_getElem?_getD]
  cases hi : R[a]? with
  | none => exact Nat.pow_pos (by decide)
  | some row =>
    show ((row[b]?).getD 0).natAbs < _
    cases hj : row[b]? with
    | none => exact Nat.pow_pos (by decide)
    | some v => exact h row (List.mem_of_getElem? hi) v (List.mem_of_getElem? hj)
/-- the two loops of a step -/
theorem ld_loops {n r : Nat} {H H6 : Hp} {p D : Addr} {R1 A : List (List Int)} {ys : List V} {sg last : Int} {b6 b7 b8 b9 : Option V} {rest : TS} {E : Ends} (hD : H D = none) (hkn : r < n) (hpl : R1.length = n) (hpe : Ent (bk 100 r) R1) (hpw : RowsW n R1) (hnz : last ≠ 0) (hsm : last.natAbs < 2 ^ bk 100 r) (h6 : n ≤ 6)
    (s6 : Same H H6) (hD6 : H6 D = some (.lst ys)) (m6 : MatL H6 ys A) (hnd : ys.Nodup) (hfr : ∀ t, V.ref t ∈ ys → H t = none ∧ t ≠ D) (hAl : A.length = n) (hAw : RowsW n A) (hagr : Agr n r A R1)
    (go : ∀ (H7 : Hp) (b6 b7 b8 b9 : Option V) (A' : List (List Int)), Same H H7 → H7 D = some (.lst ys) → MatL H7 ys A' → A'.length = n → RowsW n A' → Agr n (r + 1) A' (redTo last (R1.getD r []) r r n R1) → cell A' r r = cell R1 r r → rest E [some (.ref p), some (.ref D), some (.int sg), some (.int last), some (.int (n : Int)), some (.int (r : Int)), b6, b7, b8, b9] H7) :
    tSeq (tFor (iRng2 (tCons (tOp (rI0 fun i j => V.int (i + j)) (tVar 5) (tC (V.int 1))) (tCons (tVar 4) tNil))) (gName 7)
      (tFor (iRng2 (tCons (tOp (rI0 fun i j => V.int (i + j)) (tVar 5) (tC (V.int 1))) (tCons (tVar 4) tNil))) (gName 8)
        (tAsg
          (tOp (rI CDivZ fun i j => V.int (i.fdiv j))
            (tOp (rI0 fun i j => V.int (i - j))
              (tOp (rI CMulW fun i j => V.int (i * j)) (tOp (rIxL K) (tOp (rIxL K) (tVar 1) (tVar 7)) (tVar 8))
                (tOp (rIxL K) (tOp (rIxL K) (tVar 1) (tVar 5)) (tVar 5)))
              (tOp (rI CMulW fun i j => V.int (i * j)) (tOp (rIxL K) (tOp (rIxL K) (tVar 1) (tVar 7)) (tVar 5))
                (tOp (rIxL K) (tOp (rIxL K) (tVar 1) (tVar 5)) (tVar 8))))
            (tVar 3))
          (gSub (tOp (rIxL K) (tVar 1) (tVar 7)) (tVar 8) rSetL)))) rest E [some (.ref p), some (.ref D), some (.int sg), some (.int last), some (.int (n : Int)), some (.int (r : Int)), b6, b7, b8, b9] H6 := by
  have hcell := cell_ent hpe
  have hbp := bk_pos 100 (by decide) r
  have hbl : bk 100 r ≤ bk 100 6 := bk_le (by omega)
  have hb6 : bk 100 6 < 9000 := by decide
  generalize hR' : redTo last (R1.getD r []) r r n R1 = R' at *
  have hred : ∀ a b, r < a → a < n → b < n → (cell R1 a b * cell R1 r r - cell R1 a r * cell R1 r b).fdiv last = cell R' a b := fun a b h1 h2 h3 => by
    rw [← hR', cell_red hpl hpw hkn h1 h2 h3, Int.mul_comm (cell R1 r r)]
  have en : ((n : Int) - ((r : Int) + 1)).toNat = n - (r + 1) := by omega
  refine ⟨_, rfl, (r : Int), 1, rfl, rfl, _, rfl, (r : Int) + 1, (n : Int), rfl, ⟨by omega, by omega, by omega, by omega⟩, ?_⟩
  rw [en]
  refine for_range (lo := (r : Int) + 1) (n := n - (r + 1)) (fun d σ' H' => (∃ b6 b7 b8 b9 : Option V, σ' = [some (.ref p), some (.ref D), some (.int sg), some (.int last), some (.int (n : Int)), some (.int (r : Int)), b6, b7, b8, b9]) ∧ Same H H' ∧ H' D = some (.lst ys) ∧ ∃ A', MatL H' ys A' ∧ A'.length = n ∧ RowsW n A' ∧ Mid n r (r + 1 + d) (r + 1) A' R1 R') ⟨⟨_, _, _, _, rfl⟩, s6, hD6, A, m6, hAl, hAw, Mid.start hagr⟩ ?_ ?_
  · rintro d σ' H7 hd ⟨⟨b6, b7, b8, b9, rfl⟩, s7, hD7, A7, m7, hl7, hw7, hm7⟩
    have ei : (r : Int) + 1 + (d : Int) = ((r + 1 + d : Nat) : Int) := by omega
    rw [ei]
    generalize hi : r + 1 + d = i at *
    have hin : i < n := by omega
    refine ⟨_, rfl, (r : Int), 1, rfl, rfl, _, rfl, (r : Int) + 1, (n : Int), rfl, ⟨by omega, by omega, by omega, by omega⟩, ?_⟩
    rw [en]
    refine for_range (lo := (r : Int) + 1) (n := n - (r + 1)) (fun d σ' H' => (∃ b8 : Option V, σ' = [some (.ref p), some (.ref D), some (.int sg), some (.int last), some (.int (n : Int)), some (.int (r : Int)), b6, some (.int (i : Int)), b8, b9]) ∧ Same H H' ∧ H' D = some (.lst ys) ∧ ∃ A', MatL H' ys A' ∧ A'.length = n ∧ RowsW n A' ∧ Mid n r i (r + 1 + d) A' R1 R') ⟨⟨_, rfl⟩, s7, hD7, A7, m7, hl7, hw7, hm7⟩ ?_ ?_
    · rintro d2 σ' H8 hd2 ⟨⟨b8, rfl⟩, s8, hD8, A8, m8, hl8, hw8, hm8⟩
      have ej : (r : Int) + 1 + (d2 : Int) = ((r + 1 + d2 : Nat) : Int) := by omega
      rw [ej, show r + 1 + (d2 + 1) = (r + 1 + d2) + 1 by omega]
      generalize hj : r + 1 + d2 = j at *
      have hjn : j < n := by omega
      refine ev_cell hD8 m8 hl8 hw8 (p := i) (q := j) hin hjn rfl rfl rfl (ev_cell hD8 m8 hl8 hw8 (p := r) (q := r) hkn hkn rfl rfl rfl ⟨_, _, rfl, rfl, ?_, ?_⟩)
      · rw [hm8.old (by omega) hin (by omega) hjn (by omega), hm8.old (by omega) hkn (by omega) hkn (by omega)]
        exact wide_mul (hcell _ _) (hcell _ _) hbp hbp (by omega)
      refine ev_cell hD8 m8 hl8 hw8 (p := i) (q := r) hin hkn rfl rfl rfl (ev_cell hD8 m8 hl8 hw8 (p := r) (q := j) hkn hjn rfl rfl rfl ⟨_, _, rfl, rfl, ?_, ?_⟩)
      · rw [hm8.old (by omega) hin (by omega) hkn (by omega), hm8.old (by omega) hkn (by omega) hjn (by omega)]
        exact wide_mul (hcell _ _) (hcell _ _) hbp hbp (by omega)
      refine ⟨_, _, rfl, rfl, _, rfl, _, _, rfl, rfl, ⟨hnz, Nat.lt_trans (PySem.Flt.log2_lt_of hbp hsm) (by omega)⟩, ?_⟩
      obtain ⟨ti, gi, gi2⟩ := m8.at (i := i) (by omega)
      have hrow := hw8 _ (getD_mem (i := i) (M := A8) (by omega))
      have hfi := hfr ti (List.mem_of_getElem? gi)
      refine ⟨_, rfl, _, rfl, D, _, _, _, rfl, rfl, SqL.of hD8, at_of (j := i) rfl gi, _, rfl, ti, _, _, j, rfl, rfl, gi2, ixN_at (by rw [List.length_map, hrow]; exact hjn), ?_⟩
      have ev : (cell A8 i j * cell A8 r r - cell A8 i r * cell A8 r j).fdiv last = cell R' i j := by
        rw [hm8.old (by omega) hin (by omega) hjn (by omega), hm8.old (by omega) hkn (by omega) hkn (by omega), hm8.old (by omega) hin (by omega) hkn (by omega), hm8.old (by omega) hkn (by omega) hjn (by omega), hred i j (by omega) hin hjn]
      dsimp only
      rw [ev]
      rw [show ((A8.getD i []).map V.int).set j (V.int (cell R' i j)) = ((A8.getD i []).set j (cell R' i j)).map V.int from (List.map_set ..).symm]
      exact ⟨⟨_, rfl⟩, s8.upd_new hfi.1, by rw [upd_ne hfi.2.symm]; exact hD8, _, m8.put hnd gi, by rw [List.length_set]; exact hl8, put_rows hl8 hw8 hin, Mid.put hl8 hw8 hin hjn (by omega) (by omega) hm8⟩
    · rintro σ' H8 ⟨⟨b8, rfl⟩, s8, hD8, A8, m8, hl8, hw8, hm8⟩
      rw [show r + 1 + (n - (r + 1)) = n by omega] at hm8
      refine ⟨⟨_, _, _, _, rfl⟩, s8, hD8, A8, m8, hl8, hw8, ?_⟩
      rw [show r + 1 + (d + 1) = i + 1 by omega]
      exact hm8.row
  · rintro σ' H7 ⟨⟨b6, b7, b8, b9, rfl⟩, s7, hD7, A7, m7, hl7, hw7, hm7⟩
    rw [show r + 1 + (n - (r + 1)) = n by omega] at hm7
    exact go H7 b6 b7 b8 b9 A7 s7 hD7 m7 hl7 hw7 hm7.fin (hm7.old (Nat.le_refl _) hkn (Nat.le_refl _) hkn (.inl rfl))
def LdI (M : List (List Int)) (H : Hp) (p D : Addr) (k : Nat) : L2.St → Hp → Prop := fun σ' H' => (clrN M k).2.1 = k ∧ (∃ b5 b6 b7 b8 b9 : Option V, σ' = [some (.ref p), some (.ref D), some (.int (clrN M k).2.2.1), some (.int (clrN M k).2.2.2), some (.int (M.length : Int)), b5, b6, b7, b8, b9]) ∧ Same H H' ∧
  ∃ ys A, H' D = some (.lst ys) ∧ MatL H' ys A ∧ ys.Nodup ∧ (∀ t, V.ref t ∈ ys → H t = none ∧ t ≠ D) ∧ A.length = M.length ∧ RowsW M.length A ∧ Agr M.length k A (clrN M k).1
theorem filt_eq (A : List (List Int)) (k m : Nat) : ((((List.range' k m).map fun i : Nat => V.int (i : Int)).filter fun v => match v with | .int z => cell A z.toNat k != 0 | _ => false).map id) = (((List.range' k m).filter fun j => cell A j k != 0).map fun i : Nat => (i : Int)).map V.int := by
  rw [List.map_id, List.filter_map, List.map_map]
  rfl
def spLDet : Sp := fun vs H Q _ => ∃ (p : Addr) (M : List (List Int)), vs = [.ref p] ∧ Mat H p M ∧ RowsW M.length M ∧ Ent 100 M ∧ M.length ≤ 6 ∧ ∀ H', Same H H' → Q (.int (detV M)) H'
theorem ok_ldet (T : Tx K mg) : FnOk P w K mg base CX0 1 T.f_l_determinant T.d_l_determinant ["_law_matrix"] spLDet := by
  refine T.F_l_determinant.ok sc_l_determinant (fun vs H Q E h => ?_) (fun cdv A outer s H vs Q E hr h => ?_)
  · obtain ⟨p, M, rfl, _⟩ := h
    rfl
  obtain ⟨p, M, rfl, hM, hw, he, hl, q⟩ := h
  have nd := sc_l_determinant.nd
  refine ⟨_, (pss_cons (ps_asg (pe_tup (pa_cons (pe_lc (own := [("_law_row", 9)]) (g := (gName 9)) rfl nd (show PI _ _ _ (iList K _) from pi_list (pv 0)) (blkOk_by (own := [("_law_row", 9)]) (N := N_l_determinant) (sc := defScope s_l_determinant) (by decide +kernel)) (fun _ _ _ _ _ => by exact (pg_name (i := 9) nd rfl (Or.inl rfl))) (fun _ _ _ _ _ => by exact pts_nil) (fun _ _ _ _ _ => by exact (pe_callTy (show CallR _ _ (rListOf K) from call_list_of) (by rfl) T.z_list (by decide +kernel) (pa_cons (pv 9) pa_nil)))) (pa_cons pe_int (pa_cons pe_int (pa_cons (pe_callB (show CallR _ _ (rLenSq K) from call_len_seq) (by rfl) T.z_len (by decide +kernel) (pa_cons (pv 0) pa_nil)) pa_nil))))) (pg_tup rfl (pgs_cons (pg_name (i := 1) nd rfl (Or.inr rfl)) (pgs_cons (pg_name (i := 2) nd rfl (Or.inl rfl)) (pgs_cons (pg_name (i := 3) nd rfl (Or.inl rfl)) (pgs_cons (pg_name (i := 4) nd rfl (Or.inl rfl)) pgs_nil))))))
    (pss_cons (ps_for PassesOwn.never rfl (pi_range1 (by rfl) T.z_range (pa_cons (pv 4) pa_nil)) (pg_name (i := 5) nd rfl (Or.inr rfl)) (pss_cons (ps_setLc (i := 6) (own := [("_law_i", 7)]) (g := (gName 7)) rfl nd rfl rfl (sw_true rfl rfl rfl (by decide +kernel)) (pi_range2 (by rfl) T.z_range (pa_cons (pv 5) (pa_cons (pv 4) pa_nil))) (blkOk_by (own := [("_law_i", 7)]) (N := N_l_determinant) (sc := defScope s_l_determinant) (by decide +kernel)) (fun _ _ _ _ _ => by exact (pg_name (i := 7) nd rfl (Or.inl rfl))) (fun _ _ _ _ _ => by exact (pts_one (pt_cmpR op_ne (pe_ix (show IxR _ (rIxL K) from ix_list) (pe_ix (show IxR _ (rIxL K) from ix_list) (pv 1) (pv 7) (fun _ _ => rfl)) (pv 5) (fun _ _ => rfl)) pe_int (nomark _)))) (fun _ _ _ _ _ => by exact (pv 7)))
    (pss_cons (ps_if (pt_cmpR (show OpR _ _ (rEqD K) from op_eqD hr.units) (pv 6) (pe_lst pa_nil) (nomark _)) (pss_one (ps_ret pe_int)) pss_nil)
    (pss_cut (ps_if (pt_cmpR op_ne (pe_ix (show IxR _ (rIxL K) from ix_list) (pv 6) pe_int (fun _ _ => rfl)) (pv 5) (nomark _)) (pss_one (ps_asg (pe_tup (pa_cons (pe_ix (show IxR _ (rIxL K) from ix_list) (pv 1) (pe_ix (show IxR _ (rIxL K) from ix_list) (pv 6) pe_int (fun _ _ => rfl)) (fun _ _ => rfl)) (pa_cons (pe_ix (show IxR _ (rIxL K) from ix_list) (pv 1) (pv 5) (fun _ _ => rfl)) (pa_cons (pe_op op_sub pe_int (pv 2)) pa_nil)))) (pg_tup rfl (pgs_cons (pg_sub (pv 1) (pv 5) set_list) (pgs_cons (pg_sub (pv 1) (pe_ix (show IxR _ (rIxL K) from ix_list) (pv 6) pe_int (fun _ _ => rfl)) set_list) (pgs_cons (pg_name (i := 2) nd rfl (Or.inl rfl)) pgs_nil)))))) pss_nil)
    (pss_cons (ps_for PassesOwn.never rfl (pi_range2 (by rfl) T.z_range (pa_cons (pe_op op_add (pv 5) pe_int) (pa_cons (pv 4) pa_nil))) (pg_name (i := 7) nd rfl (Or.inl rfl)) (pss_one (ps_for PassesOwn.never rfl (pi_range2 (by rfl) T.z_range (pa_cons (pe_op op_add (pv 5) pe_int) (pa_cons (pv 4) pa_nil))) (pg_name (i := 8) nd rfl (Or.inl rfl)) (pss_one (ps_asg (pe_op op_fdivZ (pe_op op_sub (pe_op op_mulW (pe_ix (show IxR _ (rIxL K) from ix_list) (pe_ix (show IxR _ (rIxL K) from ix_list) (pv 1) (pv 7) (fun _ _ => rfl)) (pv 8) (fun _ _ => rfl)) (pe_ix (show IxR _ (rIxL K) from ix_list) (pe_ix (show IxR _ (rIxL K) from ix_list) (pv 1) (pv 5) (fun _ _ => rfl)) (pv 5) (fun _ _ => rfl))) (pe_op op_mulW (pe_ix (show IxR _ (rIxL K) from ix_list) (pe_ix (show IxR _ (rIxL K) from ix_list) (pv 1) (pv 7) (fun _ _ => rfl)) (pv 5) (fun _ _ => rfl)) (pe_ix (show IxR _ (rIxL K) from ix_list) (pe_ix (show IxR _ (rIxL K) from ix_list) (pv 1) (pv 5) (fun _ _ => rfl)) (pv 8) (fun _ _ => rfl)))) (pv 3)) (pg_sub (pe_ix (show IxR _ (rIxL K) from ix_list) (pv 1) (pv 7) (fun _ _ => rfl)) (pv 8) set_list))))))
    (pss_one (ps_set (i := 3) nd rfl (Or.inl rfl) (pe_ix (show IxR _ (rIxL K) from ix_list) (pe_ix (show IxR _ (rIxL K) from ix_list) (pv 1) (pv 5) (fun _ _ => rfl)) (pv 5) (fun _ _ => rfl)))))))))
    (pss_one (ps_ret (pe_op op_mulW (pv 2) (pv 3)))))), ?_⟩
  obtain ⟨rs, h1, h2⟩ := hM.ex
  refine ⟨_, rfl, p, rfl, ⟨rs, SqL.of h1⟩, fun D hD => ?_⟩
  refine lcsN (walk_list (K := K) (a := p) (xs := rs)) (fun i y H' => ∃ t row, y = V.ref t ∧ t ≠ D ∧ H t = none ∧ M[i]? = some row ∧ H' t = some (.lst (row.map V.int))) (fun i y H1 H2 s1 ⟨t, row, a1, a0, af, a2, a3⟩ => ⟨t, row, a1, a0, af, a2, s1 _ _ a3⟩)
    (fun i y H1 zs zs' hz' ⟨t, row, a1, a0, af, a2, a3⟩ => ⟨t, row, a1, a0, af, a2, by rw [upd_ne a0]; exact a3⟩) (fun i y H1 ⟨t, row, a1, a0, af, a2, a3⟩ => ⟨t, _, a1, a3⟩) (by rw [h2.1]; omega) hD (fun H1 s1 => SqL.of (s1 _ _ h1)) ?_ fun ys H1 hyl hnd hys s1 hD1 => ?_
  · rintro i x H1 H2 hi s1 ⟨zs, hz⟩ ⟨rfl, hx⟩ k hk
    obtain ⟨t, row, rfl, e2, e3⟩ := h2.2 i x hx
    refine ⟨rfl, ?_⟩
    exact ⟨_, rfl, t, row.map V.int, rfl, .inl (SqL.of (s1 _ _ e3)), fun p2 hp2 => hk _ _ (Same.new hp2) ⟨p2, row, rfl, (ne_of_none hz hp2).symm, s1.free hp2, e2, upd_same⟩ ⟨p2, rfl, hp2⟩⟩
  have m1 : MatL H1 ys M := ⟨by rw [hyl, h2.1], fun i r hr => by
    obtain ⟨t, row, a1, a0, af, a2, a3⟩ := hys i r hr
    exact ⟨t, row, a1, a2, a3⟩⟩
  have hfr : ∀ t, V.ref t ∈ ys → H t = none ∧ t ≠ D := fun t ht => by
    obtain ⟨i, hi⟩ := List.mem_iff_getElem?.mp ht
    obtain ⟨t', row, a1, a0, af, a2, a3⟩ := hys i _ hi
    cases a1
    exact ⟨af, a0⟩
  clear hys
  refine ⟨_, rfl, p, rs, rfl, .inl (SqL.of (s1 _ _ h1)), by show 4 ≤ sizeLine; decide, fun tt htt => ?_⟩
  have s2 := Same.new (o := .tup [.ref D, .int 1, .int 1, .int (rs.length : Int)]) htt
  refine ⟨tt, _, rfl, SqT.of upd_same, rfl, _, _, rfl, _, _, rfl, _, _, rfl, _, _, rfl, rfl, ?_⟩
  have s12 := s1.trans s2
  have hD2 := s2 _ _ hD1
  have m2 := m1.same s2
  generalize upd H1 tt (.tup [.ref D, .int 1, .int 1, .int (rs.length : Int)]) = H2 at *
  have hrl : rs.length = M.length := h2.1
  rw [hrl]
  have CI := clrI_n (by decide : 0 < 100) he hw
  have hWid : widthOf M = M.length := by
    unfold widthOf
    rcases Nat.eq_zero_or_pos M.length with z | z
    · rw [List.eq_nil_of_length_eq_zero z]
      rfl
    · exact hw _ (getD_mem z)
  refine ⟨_, rfl, (M.length : Int), rfl, by omega, by omega, for_range (lo := 0) (n := ((M.length : Nat) : Int).toNat) (LdI M H p D) ⟨rfl, ⟨_, _, _, _, _, rfl⟩, s12, ys, M, hD2, m2, hnd, hfr, rfl, hw, fun _ _ _ _ _ _ => rfl⟩ ?_ ?_⟩
  · rintro k σ' H3 hk ⟨rk, ⟨b5, b6, b7, b8, b9, rfl⟩, s3, ys, A, hD3, m3, hnd, hfr, hAl, hAw, hagr⟩
    have hkn : k < M.length := by omega
    have e0 : (0 : Int) + (k : Int) = (k : Int) := by omega
    rw [e0]
    have I := CI k
    have est : clrN M (k + 1) = stepC k (clrN M k) := rfl
    have hIl := I.len
    have hIr := I.rows
    have hInz := I.nz
    have hIsm := I.sm
    have hIe := I.ent
    have hgr := rank_grow M (k + 1) (M.length - (k + 1))
    rw [rk] at hIsm hIe
    unfold stepC at est
    rw [rk] at est
    generalize hcl : clrN M k = cs at *
    obtain ⟨R, r, sg, last⟩ := cs
    dsimp only at *
    subst rk
    refine ⟨_, rfl, _, rfl, (r : Int), (M.length : Int), rfl, ⟨by omega, by omega, by omega, by omega⟩, fun S hS => ?_⟩
    have en : ((M.length : Int) - (r : Int)).toNat = M.length - r := by omega
    rw [en]
    refine lcf (walk_rangeY (k := r) (n := M.length - r)) (fun v => match v with | .int z => cell A z.toNat r != 0 | _ => false) id (by rw [List.length_map, List.length_range']; omega) hS (fun _ _ => trivial) ?_ fun H4 s4 hS4 => ?_
    · intro i x H4 hx s4 k1 k2 g1 g2
      have hi : i < M.length - r := by
        have := (List.getElem?_eq_some_iff.mp hx).1
        rw [List.length_map, List.length_range'] at this
        exact this
      rw [List.getElem?_map, List.getElem?_range' hi] at hx
      obtain rfl := Option.some.inj hx
      have e1 : r + 1 * i = r + i := by omega
      rw [e1] at g1 g2 ⊢
      refine ⟨rfl, ev_cell (s4 _ _ hD3) (m3.same s4) hAl hAw (p := r + i) (q := r) (by omega) hkn rfl rfl rfl ⟨rfl, _, rfl, ?_⟩⟩
      by_cases z : cell A (r + i) r = 0
      · refine iteF' (by rw [z]; rfl) (g1 ?_ _ (Same.refl _))
        show (cell A (((r + i : Nat) : Int)).toNat r != 0) = false
        rw [Int.toNat_natCast, z]
        rfl
      · refine iteT' (by simp [z]) ⟨_, rfl, g2 ?_ _ (Same.refl _)⟩
        show (cell A (((r + i : Nat) : Int)).toNat r != 0) = true
        rw [Int.toNat_natCast]
        simpa using z
    rw [filt_eq] at hS4
    have hff : ffrom R r r (R.length - r) = ((List.range' r (M.length - r)).filter fun j => cell A j r != 0).head? := by
      rw [← ffrom_filter, hIl]
      exact (ffrom_agr fun p h1 h2 => hagr p r h1 (by omega) (Nat.le_refl _) hkn).symm
    have hD4 := s4 _ _ hD3
    have m4 := m3.same s4
    have s34 := s3.trans s4
    refine ⟨_, rfl, by show 0 ≤ sizeLine; decide, fun e he => ?_⟩
    have s5 := Same.new (o := .lst []) he
    have hS5 := s5 _ _ hS4
    have hD5 := s5 _ _ hD4
    have m5 := m4.same s5
    have s35 := s34.trans s5
    refine ⟨_, _, .lst (SqL.of hS5) (dpAll_ints _), .lst (SqL.of upd_same) (dpAll_ints []), shaped_lstI _, shaped_lstI [], _, rfl, ?_⟩
    generalize upd H4 e (.lst []) = H5 at *
    rw [eqv_lstI]
    cases hfl : (List.range' r (M.length - r)).filter fun j => cell A j r != 0 with
    | nil =>
      rw [hfl] at hff
      refine iteT' rfl ?_
      show Q (.int 0) H5
      rw [hff] at est
      dsimp only [List.head?] at est
      have hlt : (clrN M M.length).2.1 < M.length := by
        rw [est] at hgr
        rw [show r + 1 + (M.length - (r + 1)) = M.length by omega, show (R, r, sg, last).2.1 = r from rfl] at hgr
        omega
      have e0 : detV M = 0 := by
        unfold detV clrRank
        rw [hWid, if_neg (by omega)]
      rw [← e0]
      exact q H5 s35
    | cons f tl =>
      rw [hfl] at hff hS5
      refine iteF' (by simp) ?_
      dsimp only [List.head?] at hff
      obtain ⟨f1, f2, f3⟩ := ffrom_some hff
      rw [hff] at est
      dsimp only at est
      have hfn : f < M.length := by omega
      have hSD : S ≠ D := (ne_of_none hD3 hS).symm
      have hSf : atI (((f :: tl).map fun i : Nat => (i : Int)).map V.int) 0 = some (.int (f : Int)) := at_of (j := 0) rfl rfl
      refine ⟨fun σ' H' => (∃ b6 b7 b8 b9 : Option V, σ' = [some (.ref p), some (.ref D), some (.int (if f = r then sg else -sg)), some (.int last), some (.int (M.length : Int)), some (.int (r : Int)), b6, b7, b8, b9]) ∧ Same H H' ∧
        ∃ ys A, H' D = some (.lst ys) ∧ MatL H' ys A ∧ ys.Nodup ∧ (∀ t, V.ref t ∈ ys → H t = none ∧ t ≠ D) ∧ A.length = M.length ∧ RowsW M.length A ∧ Agr M.length r A (pivM R r f), ?_, ?_⟩
      · refine ⟨_, rfl, S, _, _, _, rfl, rfl, SqL.of hS5, hSf, _, rfl, rfl, _, rfl, ?_⟩
        refine ite2 (fun c1 => ?_) (fun c1 => ?_)
        · have hfr' : f ≠ r := fun z => by
            rw [z] at c1
            simp at c1
          obtain ⟨tf, gf, gf2⟩ := m5.at (i := f) (by omega)
          obtain ⟨tr, gr, gr2⟩ := m5.at (i := r) (by omega)
          have hn0 : 0 < A.length := by omega
          refine ⟨_, rfl, _, rfl, S, _, _, _, rfl, rfl, SqL.of hS5, hSf, D, _, _, _, rfl, rfl, SqL.of hD5, at_of (j := f) rfl gf, _, rfl, _, rfl, D, _, _, _, rfl, rfl, SqL.of hD5, at_of (j := r) rfl gr, _, rfl, 0, sg, rfl, rfl, by show 3 ≤ sizeLine; decide, fun t3 ht3 => ?_⟩
          have s6 := Same.new (o := .tup [.ref tf, .ref tr, .int (0 - sg)]) ht3
          refine ⟨t3, _, rfl, SqT.of upd_same, rfl, _, _, rfl, ?_⟩
          have hS6 := s6 _ _ hS5
          have hD6 := s6 _ _ hD5
          have m6 := m5.same s6
          have s36 := s35.trans s6
          have gf6 := s6 _ _ gf2
          have gr6 := s6 _ _ gr2
          dsimp only at hS6 hD6 m6 s36 gf6 gr6 ⊢
          generalize upd H5 t3 (.tup [.ref tf, .ref tr, .int (0 - sg)]) = H6 at *
          have hyl : ys.length = M.length := m6.1.trans hAl
          refine ⟨_, rfl, _, rfl, D, ys, _, r, rfl, rfl, hD6, ixN_at (by omega), ?_⟩
          have m7 : MatL H6 (ys.set r (.ref tf)) (A.set r (A.getD f [])) := m6.set gf6
          have m8 : MatL H6 ((ys.set r (.ref tf)).set f (.ref tr)) ((A.set r (A.getD f [])).set f (A.getD r [])) := m7.set gr6
          have m7' : MatL (upd H6 D (.lst (ys.set r (.ref tf)))) (ys.set r (.ref tf)) (A.set r (A.getD f [])) := m7.upd m6 hD6 hn0
          have m8' : MatL (upd H6 D (.lst (ys.set r (.ref tf)))) ((ys.set r (.ref tf)).set f (.ref tr)) ((A.set r (A.getD f [])).set f (A.getD r [])) := m8.upd m6 hD6 hn0
          have hS7 : (upd H6 D (.lst (ys.set r (.ref tf)))) S = some (.lst (((f :: tl).map fun i : Nat => (i : Int)).map V.int)) := by rw [upd_ne hSD]; exact hS6
          refine ⟨_, _, rfl, _, rfl, _, rfl, S, _, _, _, rfl, rfl, SqL.of hS7, hSf, D, ys.set r (.ref tf), _, f, rfl, rfl, upd_same, ixN_at (by rw [List.length_set]; omega), ?_⟩
          refine ⟨_, _, rfl, rfl, ⟨some (.ref S), b7, b8, b9, ?_⟩, (s36.upd_new hD).upd_new hD, (ys.set r (.ref tf)).set f (.ref tr), swapR A r f, upd_same, m8'.upd m7' upd_same (by rw [List.length_set]; exact hn0), nodup_swap hnd gf gr, fun t ht => ?_, by rw [len_swap]; exact hAl, fun row hr => hAw row (swap_mem (by omega) (by omega) row hr), ?_⟩
          · rw [if_neg hfr', ← Int.zero_sub]
            rfl
          · rcases List.mem_or_eq_of_mem_set ht with h | h
            · rcases List.mem_or_eq_of_mem_set h with h | h
              · exact hfr t h
              · cases h
                exact hfr tf (List.mem_of_getElem? gf)
            · cases h
              exact hfr tr (List.mem_of_getElem? gr)
          · have e1 : pivM A r f = swapR A r f := by unfold pivM; rw [if_neg hfr']
            rw [← e1]
            intro a b h1 h2 h3 h4
            rw [cell_swap (by omega) (by omega), cell_swap (by omega) (by omega)]
            refine hagr _ b ?_ ?_ h3 h4
            · split
              · exact Nat.le_refl _
              · split <;> omega
            · split
              · exact hkn
              · split <;> omega
        · have hfr' : f = r := by
            by_cases z : f = r
            · exact z
            · refine absurd ?_ c1
              have : ¬ ((f : Int) = (r : Int)) := by omega
              simp [this]
          subst hfr'
          rw [if_pos rfl]
          refine ⟨⟨_, _, _, _, rfl⟩, s35, ys, A, hD5, m5, hnd, hfr, hAl, hAw, ?_⟩
          unfold pivM
          rw [if_pos rfl]
          exact hagr
      · rintro σ' H6 ⟨⟨b6, b7, b8, b9, rfl⟩, s6, ys, A, hD6, m6, hnd, hfr, hAl, hAw, hagr⟩
        have hpl : (pivM R r f).length = M.length := by rw [len_piv, hIl]
        have hpe : Ent (bk 100 r) (pivM R r f) := fun row hr => hIe row (piv_mem (by omega) (by omega) row hr)
        have hpw : RowsW M.length (pivM R r f) := fun row hr => hIr row (piv_mem (by omega) (by omega) row hr)
        rw [hpl] at est
        generalize hR1 : pivM R r f = R1 at *
        generalize hsg : (if f = r then sg else -sg) = sg' at *
        refine ld_loops hD hkn hpl hpe hpw hInz hIsm hl s6 hD6 m6 hnd hfr hAl hAw hagr fun H7 b6 b7 b8 b9 A7 s7 hD7 m7 hl7 hw7 hag7 hc7 => ?_
        refine ev_cell hD7 m7 hl7 hw7 (p := r) (q := r) hkn hkn rfl rfl rfl ?_
        rw [hc7]
        refine ⟨by rw [est], ⟨some (.int (r : Int)), b6, b7, b8, b9, ?_⟩, s7, ys, A7, hD7, m7, hnd, hfr, hl7, hw7, by rw [est]; exact hag7⟩
        rw [est]
        rfl
  · rintro σ' H3 ⟨rk, ⟨b5, b6, b7, b8, b9, rfl⟩, s3, ys, A, hD3, m3, hnd, hfr, hAl, hAw, hagr⟩
    rw [Int.toNat_natCast] at *
    have I := CI M.length
    have hb := bk_pos 100 (by decide) (clrN M M.length).2.1
    have hbl : bk 100 (clrN M M.length).2.1 ≤ bk 100 6 := bk_le (by omega)
    have hb6 : bk 100 6 < 9000 := by decide
    have hsg : (clrN M M.length).2.2.1.natAbs < 2 ^ 1 := by
      rcases sign_one M M.length with z | z <;> rw [z] <;> decide
    refine ⟨_, rfl, _, rfl, _, _, rfl, rfl, wide_mul hsg I.sm (by decide) hb (by omega), ?_⟩
    have e : detV M = (clrN M M.length).2.2.1 * (clrN M M.length).2.2.2 := by
      unfold detV clrRank clrDet
      rw [hWid, if_pos rk]
    show Q (.int ((clrN M M.length).2.2.1 * (clrN M M.length).2.2.2)) H3
    rw [← e]
    exact q H3 s3
end
end TL.W
namespace TL.W
open TL
open PySem L2

/-! ### steps of a reading -/
local macro_rules | `(tactic| walk_at "hp") => `(tactic| first | assumption | exact upd_same | (refine (upd_ne (by first | assumption | (exact Ne.symm (by assumption)))).trans ?_; walk_at "hp"))
local macro_rules | `(tactic| walk_at "ok") => `(tactic| first | (exact Or.inr ⟨by decide, by decide⟩) | (exact ⟨by decide, by decide⟩) | (exact ⟨by decide, by decide, by decide⟩) | (show _ ≠ _; omega) | (show _ ≠ _; decide) | (exact Or.inl ⟨by omega, by omega⟩) | decide)
local macro_rules | `(tactic| walk_at "sq") => `(tactic| first | assumption | exact SqL.of (by walk_at "hp") | exact SqT.of (by walk_at "hp"))
local macro_rules | `(tactic| walk_at "ty") => `(tactic| first | refine ⟨_, _, Value.type "int", Value.type "list", false, rfl, ClsV.ty _, TyX.base (TyOf.int _), kt_int_list, ?_⟩ | refine ⟨_, _, Value.type "bool", Value.type "list", false, rfl, ClsV.ty _, TyX.base (TyOf.bl _), kt_bool_list, ?_⟩ | refine ⟨_, _, Value.type "str", Value.type "list", false, rfl, ClsV.ty _, TyX.base (TyOf.str _), kt_str_list, ?_⟩ | refine ⟨_, _, Value.type "NoneType", Value.type "list", false, rfl, ClsV.ty _, TyX.base TyOf.non, kt_NoneType_list, ?_⟩ | refine ⟨_, _, Value.type "list", Value.type "list", true, rfl, ClsV.ty _, tyx_L (by walk_at "sq"), kt_list_list, ?_⟩ | refine ⟨_, _, Value.type "tuple", Value.type "list", false, rfl, ClsV.ty _, tyx_T (by walk_at "sq"), kt_tuple_list, ?_⟩ | refine ⟨_, _, Value.type "int", Value.type "tuple", false, rfl, ClsV.ty _, TyX.base (TyOf.int _), kt_int_tuple, ?_⟩ | refine ⟨_, _, Value.type "bool", Value.type "tuple", false, rfl, ClsV.ty _, TyX.base (TyOf.bl _), kt_bool_tuple, ?_⟩ | refine ⟨_, _, Value.type "str", Value.type "tuple", false, rfl, ClsV.ty _, TyX.base (TyOf.str _), kt_str_tuple, ?_⟩ | refine ⟨_, _, Value.type "NoneType", Value.type "tuple", false, rfl, ClsV.ty _, TyX.base TyOf.non, kt_NoneType_tuple, ?_⟩ | refine ⟨_, _, Value.type "list", Value.type "tuple", false, rfl, ClsV.ty _, tyx_L (by walk_at "sq"), kt_list_tuple, ?_⟩ | refine ⟨_, _, Value.type "tuple", Value.type "tuple", true, rfl, ClsV.ty _, tyx_T (by walk_at "sq"), kt_tuple_tuple, ?_⟩ | refine ⟨_, _, Value.type "int", Value.type "bool", false, rfl, ClsV.ty _, TyX.base (TyOf.int _), kt_int_bool, ?_⟩ | refine ⟨_, _, Value.type "bool", Value.type "bool", true, rfl, ClsV.ty _, TyX.base (TyOf.bl _), kt_bool_bool, ?_⟩ | refine ⟨_, _, Value.type "str", Value.type "bool", false, rfl, ClsV.ty _, TyX.base (TyOf.str _), kt_str_bool, ?_⟩ | refine ⟨_, _, Value.type "NoneType", Value.type "bool", false, rfl, ClsV.ty _, TyX.base TyOf.non, kt_NoneType_bool, ?_⟩ | refine ⟨_, _, Value.type "list", Value.type "bool", false, rfl, ClsV.ty _, tyx_L (by walk_at "sq"), kt_list_bool, ?_⟩ | refine ⟨_, _, Value.type "tuple", Value.type "bool", false, rfl, ClsV.ty _, tyx_T (by walk_at "sq"), kt_tuple_bool, ?_⟩ | refine ⟨_, _, Value.type "int", Value.type "int", true, rfl, ClsV.ty _, TyX.base (TyOf.int _), kt_int_int, ?_⟩ | refine ⟨_, _, Value.type "bool", Value.type "int", true, rfl, ClsV.ty _, TyX.base (TyOf.bl _), kt_bool_int, ?_⟩ | refine ⟨_, _, Value.type "str", Value.type "int", false, rfl, ClsV.ty _, TyX.base (TyOf.str _), kt_str_int, ?_⟩ | refine ⟨_, _, Value.type "NoneType", Value.type "int", false, rfl, ClsV.ty _, TyX.base TyOf.non, kt_NoneType_int, ?_⟩ | refine ⟨_, _, Value.type "list", Value.type "int", false, rfl, ClsV.ty _, tyx_L (by walk_at "sq"), kt_list_int, ?_⟩ | refine ⟨_, _, Value.type "tuple", Value.type "int", false, rfl, ClsV.ty _, tyx_T (by walk_at "sq"), kt_tuple_int, ?_⟩ | refine ⟨_, _, Value.type "int", Value.type "str", false, rfl, ClsV.ty _, TyX.base (TyOf.int _), kt_int_str, ?_⟩ | refine ⟨_, _, Value.type "bool", Value.type "str", false, rfl, ClsV.ty _, TyX.base (TyOf.bl _), kt_bool_str, ?_⟩ | refine ⟨_, _, Value.type "str", Value.type "str", true, rfl, ClsV.ty _, TyX.base (TyOf.str _), kt_str_str, ?_⟩ | refine ⟨_, _, Value.type "NoneType", Value.type "str", false, rfl, ClsV.ty _, TyX.base TyOf.non, kt_NoneType_str, ?_⟩ | refine ⟨_, _, Value.type "list", Value.type "str", false, rfl, ClsV.ty _, tyx_L (by walk_at "sq"), kt_list_str, ?_⟩ | refine ⟨_, _, Value.type "tuple", Value.type "str", false, rfl, ClsV.ty _, tyx_T (by walk_at "sq"), kt_tuple_str, ?_⟩)
local macro_rules | `(tactic| walk_at "go1") => `(tactic| first
  | (refine ⟨_, rfl, ?_⟩)
  | (refine ⟨_, _, rfl, rfl, ?_⟩)
  | (refine ⟨_, _, _, _, rfl, rfl, SqL.of (by walk_at "hp"), rfl, ?_⟩)
  | (refine Or.inl ⟨_, rfl, ?_⟩)
  | (refine ⟨rfl, ?_⟩)
  | (refine ⟨_, _, rfl, .inl (SqL.of (by walk_at "hp")), ?_⟩)
  | (refine ⟨_, _, rfl, Or.inl (by assumption), ?_⟩)
  | (refine ⟨_, _, rfl, Or.inr (by assumption), ?_⟩)
  | (refine ⟨(by walk_at "ok"), ?_⟩)
  | (refine ⟨_, _, _, _, rfl, rfl, (by walk_at "hp"), rfl, ?_⟩))
local macro_rules | `(tactic| walk_at "go") => `(tactic| repeat (walk_at "go1"))
local macro_rules | `(tactic| walk_at "gt") => `(tactic| repeat (first | walk_at "go1" | walk_at "ty"))

section
variable {P : Program} {w : World} {K : PySem.W.Frag} {mg : Str → Option Value} {base : Heap}
-- [0=_law_table, 1=_law_matrix*, 2=_law_primes*, 3=_law_places_here*, 4=_law_p, 5=_law_q]
theorem ev_cellN {σ : L2.St} {H : Hp} {D : Addr} {ys : List V} {A : List (List Int)} {n p q c a b : Nat} {Q : VK} (hD : H D = some (.lst ys)) (m : MatL H ys A) (hl : A.length = n) (hw : RowsW n A) (hp : p < n) (hq : q < n) (h1 : σ[c]? = some (some (.ref D))) (ha : σ[a]? = some (some (.int (p : Int)))) (hb : σ[b]? = some (some (.int (q : Int)))) (k : Q (.int (cell A p q)) H) :
    (tOp (rIxL K) (tOp (rIxL K) (tVar c) (tVar a)) (tVar b)) σ H Q := by
  obtain ⟨t, g1, g2⟩ := m.at (i := p) (by omega)
  have hrow := hw _ (getD_mem (i := p) (M := A) (by omega))
  exact ⟨_, h1, _, ha, D, _, _, _, rfl, rfl, SqL.of hD, at_of (j := p) rfl g1, _, hb, _, _, _, _, rfl, rfl, SqL.of g2, at_of (j := q) rfl (getD_map (by omega)), k⟩
/-- the square of a matrix at some places, a tuple -/
theorem sq_goalT {σ : L2.St} {H0 : Hp} {M : List (List Int)} {a D : Addr} {P : List Nat} {i : Nat} {te : TE} {Qd : Hp → Prop} (hz : P.length ≤ 100) (ha : SqT K H0 a (natsV P)) (hD : H0 D = none)
    (hw : ∀ u, wipe ((wipe σ [i]).set i (some u)) [i] = wipe σ [i])
    (hs : ∀ (p : Nat) (H : Hp) (k : VK), p ∈ P → Same H0 H → (∀ t H', Same H H' → (∀ zs, H D = some (.lst zs) → t ≠ D) → H' t = some (.lst ((P.map fun q => cell M p q).map V.int)) → k (.ref t) H') → te ((wipe σ [i]).set i (some (.int (p : Int)))) H k)
    (hd : ∀ H, Same H0 H → Mat H D (subG M P) → Qd H) : LcGoal (Itt K a) (gName i) te [i] σ H0 D Qd := by
  refine lcsD (walk_tup (K := K) (a := a) (xs := natsV P)) (fun n y H => ∃ t p, y = V.ref t ∧ t ≠ D ∧ P[n]? = some p ∧ H t = some (.lst ((P.map fun q => cell M p q).map V.int))) (fun n y H1 H2 s1 ⟨t, p, a1, a0, a2, a3⟩ => ⟨t, p, a1, a0, a2, s1 _ _ a3⟩)
    (fun n y H1 zs zs' hz' ⟨t, p, a1, a0, a2, a3⟩ => ⟨t, p, a1, a0, a2, by rw [upd_ne a0]; exact a3⟩) (by rw [natsV_len]; omega) hD (fun H1 s1 => seqT s1 ha) ?_ fun ys H1 hl hys s1 hD1 => ?_
  · rintro n x H1 H2 hi s1 ⟨zs, hzs⟩ ⟨rfl, hx⟩ k hk
    obtain ⟨p, hp, rfl⟩ := natsV_at hx
    refine ⟨hw _, hs p _ _ (List.mem_of_getElem? hp) s1 fun t H' s' hn ht => hk _ H' s' ⟨t, p, rfl, hn zs hzs, hp, ht⟩⟩
  · refine hd H1 s1 ⟨ys, hD1, by rw [hl, natsV_len]; unfold subG; rw [List.length_map], fun n r hr => ?_⟩
    obtain ⟨t, p, a1, a0, a2, a3⟩ := hys n r hr
    exact ⟨t, _, a1, by unfold subG; rw [List.getElem?_map, a2]; rfl, a3⟩
theorem sub_rows6 (M : List (List Int)) (L : List Nat) : RowsW (subG M L).length (subG M L) := fun row hr => by
  obtain ⟨a, _, rfl⟩ := List.mem_map.mp hr
  rw [List.length_map, subG, List.length_map]
def spLAnchor (K : PySem.W.Frag) : Sp := fun vs H Q _ => ∃ (a : Addr) (ps : List Int), vs = [.ref a] ∧ SqL K H a (ps.map V.int) ∧ ps.length = 15 ∧ (∀ u ∈ ps, u.natAbs < 2 ^ 100) ∧ ∀ t H', Same H H' → SqT K H' t ((anch (gW ps)).map fun i => V.int (prmAt i)) → Q (.ref t) H'
theorem ok_lanchor (T : Tx K mg) : FnOk P w K mg base CX0 6 T.f_l_anchor T.d_l_anchor ["_law_table"] (spLAnchor K) := by
  have G_l_square := ok_lsquare (P := P) (w := w) (base := base) T
  have G_l_choices := ok_choices (P := P) (w := w) (base := base) T
  have G_l_owed := ok_lowed (P := P) (w := w) (base := base) T
  have G_l_determinant := ok_ldet (P := P) (w := w) (base := base) T
  refine T.F_l_anchor.ok sc_l_anchor (fun vs H Q E h => ?_) (fun cdv A outer s H vs Q E hr h => ?_)
  · obtain ⟨a, ps, rfl, _⟩ := h
    rfl
  obtain ⟨a, ps, rfl, ha, hl, hb, q⟩ := h
  have nd := sc_l_anchor.nd
  refine ⟨_, (pss_cons (ps_asg (pe_tup (pa_cons (pe_call G_l_square (hr.mono (by decide)) (by rfl) T.m_l_square T.F_l_square.kp T.b_l_square .nil pass0 (pa_cons (pv 0) pa_nil)) (pa_cons (pe_lst (pa_cons pe_int (pa_cons pe_int (pa_cons pe_int (pa_cons pe_int (pa_cons pe_int (pa_cons pe_int pa_nil))))))) pa_nil))) (pg_tup rfl (pgs_cons (pg_name (i := 1) nd rfl (Or.inr rfl)) (pgs_cons (pg_name (i := 2) nd rfl (Or.inr rfl)) pgs_nil))))
    (pss_cons (ps_for PassesOwn.never rfl (show PI _ _ _ (iList K _) from pi_list (pe_call G_l_choices (hr.mono (by decide)) (by rfl) T.m_l_choices T.F_l_choices.kp T.b_l_choices .nil pass0 (pa_cons (pe_op op_mul pe_int (pe_call G_l_owed hr (by rfl) T.m_l_owed T.F_l_owed.kp T.b_l_owed .nil pass0 (pa_cons (pv 0) pa_nil))) pa_nil))) (pg_name (i := 3) nd rfl (Or.inr rfl)) (pss_one (ps_if (pt_cmpR op_ne (pe_call G_l_determinant (hr.mono (by decide)) (by rfl) T.m_l_determinant T.F_l_determinant.kp T.b_l_determinant .nil pass0 (pa_cons (pe_lc (own := [("_law_p", 4)]) (g := (gName 4)) rfl nd (show PI _ _ _ (iTup K _) from pi_tup (pv 3)) (blkOk_by (own := [("_law_p", 4)]) (N := N_l_anchor) (sc := defScope s_l_anchor) (by decide +kernel)) (fun _ _ _ _ _ => by exact (pg_name (i := 4) nd rfl (Or.inr rfl))) (fun _ _ _ _ _ => by exact pts_nil) (fun _ _ _ _ _ => by exact (pe_lc (own := [("_law_q", 5)]) (g := (gName 5)) rfl nd (show PI _ _ _ (iTup K _) from pi_tup (pv 3)) (show BlkOk N_l_anchor { kind := .function, names := [(".0", .local), ("_law_p", .cell), ("_law_matrix", .cell), ("_law_places_here", .cell)], isGenerator := false, isCoroutine := false } { kind := .function, names := [(".0", .local), ("_law_q", .local), ("_law_matrix", .free), ("_law_p", .free)], isGenerator := false, isCoroutine := false } [("_law_q", 5)] from blkOk_by (by decide +kernel)) (fun _ _ _ _ _ => by exact (pg_name (i := 5) nd rfl (Or.inl rfl))) (fun _ _ _ _ _ => by exact pts_nil) (fun _ _ _ _ _ => by exact (pe_ix (show IxR _ (rIxL K) from ix_list) (pe_ix (show IxR _ (rIxL K) from ix_list) (pv 1) (pv 4) (fun _ _ => rfl)) (pv 5) (fun _ _ => rfl)))))) pa_nil)) pe_int (nomark _)) (pss_one (ps_ret (pe_callTy (show CallR _ _ (rTup1 K) from call_tup1) (by rfl) T.z_tuple (by decide +kernel) (pa_cons (pe_lc (own := [("_law_p", 4)]) (g := (gName 4)) rfl nd (show PI _ _ _ (iTup K _) from pi_tup (pv 3)) (blkOk_by (own := [("_law_p", 4)]) (N := N_l_anchor) (sc := defScope s_l_anchor) (by decide +kernel)) (fun _ _ _ _ _ => by exact (pg_name (i := 4) nd rfl (Or.inl rfl))) (fun _ _ _ _ _ => by exact pts_nil) (fun _ _ _ _ _ => by exact (pe_ix (show IxR _ (rIxL K) from ix_list) (pv 2) (pv 4) (fun _ _ => rfl)))) pa_nil)))) pss_nil)))
    (pss_one (ps_ret (pe_tup pa_nil))))), ?_⟩
  refine ⟨_, rfl, a, ps, rfl, ha, hl, fun Mt H1 s1 hM => ?_⟩
  refine ⟨by show 6 ≤ sizeLine; decide, fun Pr hPr => ?_⟩
  have s2 := Same.new (o := .lst (prm.map V.int)) hPr
  have hPr2 : (upd H1 Pr (.lst (prm.map V.int))) Pr = some (.lst (prm.map V.int)) := upd_same
  refine ⟨by show 2 ≤ sizeLine; decide, fun tt htt => ?_⟩
  have s3 := Same.new (o := .tup [.ref Mt, .ref Pr]) htt
  have s13 := (s1.trans s2).trans s3
  have hM3 := (hM.same s2).same s3
  have hPr3 := s3 _ _ hPr2
  refine ⟨tt, _, rfl, SqT.of upd_same, rfl, _, _, rfl, _, _, rfl, rfl, ?_⟩
  dsimp only [prm, List.map] at s13 hM3 hPr3
  generalize upd (upd H1 Pr (.lst [.int 2, .int 3, .int 5, .int 7, .int 11, .int 13])) tt (.tup [.ref Mt, .ref Pr]) = H3 at *
  have ho := ow_le (gW ps)
  generalize hk : ow (gW ps) = o at *
  have e2 : [V.int ((2 : Int) * (o : Int))] = [V.int ((2 * o : Nat) : Int)] := by rw [show (2 : Int) * (o : Int) = ((2 * o : Nat) : Int) by omega]
  refine ⟨_, rfl, a, ps, rfl, s13.seq ha, hl, hb, fun H4 s4 => ?_⟩
  rw [hk]
  refine ⟨2, _, rfl, rfl, .inl (by decide), 2 * o, e2, by omega, fun CL H5 s5 hC => ?_⟩
  obtain ⟨rs, hrs, ht⟩ := hC.ex
  have s35 := s4.trans s5
  have hM5 := hM3.same s35
  have hPr5 := s35 _ _ hPr3
  have hf0 := anchO_eq hl
  rw [hk] at hf0
  refine ⟨CL, rfl, ⟨_, hrs⟩, for_it (walk_list (K := K) (a := CL) (xs := rs)) (fun i σ H' => (∃ b3 b4 b5, σ = [some (.ref a), some (.ref Mt), some (.ref Pr), b3, b4, b5]) ∧ Same H5 H' ∧ (chL (2 * o)).find? (fun P => detV (subG (wmat ps) P) != 0) = ((chL (2 * o)).drop i).find? (fun P => detV (subG (wmat ps) P) != 0)) ⟨⟨_, _, _, rfl⟩, Same.refl _, rfl⟩ (fun _ _ _ _ h => h.2.1.seq hrs) ?_ ?_⟩
  · rintro i x σ H6 H7 hi ⟨⟨b3, b4, b5, rfl⟩, s6, hf⟩ ⟨rfl, hx⟩
    obtain ⟨t, L, rfl, hL, hS⟩ := ht.2 i x hx
    have hi' : i < (chL (2 * o)).length := by rw [← ht.1]; exact hi
    obtain ⟨hjl, hj6⟩ := ch_len (2 * o) (by omega) L (List.mem_of_getElem? hL)
    have hS7 := seqT s6 hS
    have hM7 := hM5.same s6
    have hPr7 := s6 _ _ hPr5
    refine ⟨_, rfl, t, rfl, ⟨_, hS7⟩, fun D hD => ?_⟩
    refine sq_goalT (M := wmat ps) (by omega) hS7 hD (fun u => rfl) (fun pp H8 k hp s8 hk => ?_) fun H8 s8 hM8 => ?_
    · obtain ⟨rsM, g1, g2⟩ := (hM7.same s8).ex
      have hS8 := seqT s8 hS7
      refine ⟨_, rfl, t, rfl, ⟨_, hS8⟩, fun D4 hD4 => ?_⟩
      refine lc_mapST (ys := (L.map fun qq => cell (wmat ps) pp qq).map V.int) hS8 (by rw [natsV_len, List.length_map, List.length_map]) (by rw [natsV_len]; omega) hD4 (fun u => rfl) (fun j u y H9 kk hu hy s9 hkk => ?_) fun H9 s9 hD9 => hk D4 H9 s9 (fun zs hzs => (ne_of_none hzs hD4).symm) hD9
      obtain ⟨qq, hq, rfl⟩ := natsV_at hu
      rw [List.getElem?_map, List.getElem?_map, hq] at hy
      obtain rfl := Option.some.inj hy
      exact ev_cellN (s9 _ _ g1) (g2.same s9) (by rw [wmat, wmatN_len]) (wmatN_row _ _) (hj6 _ hp) (hj6 _ (List.mem_of_getElem? hq)) rfl rfl rfl (hkk _ (Same.refl _))
    · have hsl : (subG (wmat ps) L).length = 2 * o := by rw [subG, List.length_map, hjl]
      refine ⟨D, _, rfl, hM8, sub_rows6 _ _, sub_ent (wmat_ent hb 15), by omega, fun H9 s9 => ?_⟩
      refine ⟨rfl, _, rfl, ?_⟩
      have hd : (chL (2 * o)).drop i = L :: (chL (2 * o)).drop (i + 1) := by
        rw [List.drop_eq_getElem_cons hi']
        rw [List.getElem?_eq_getElem hi'] at hL
        rw [Option.some.inj hL]
      rw [hd, List.find?_cons] at hf
      have s79 := s8.trans s9
      refine ite2 (fun c1 => ?_) (fun c1 => ?_)
      · have c2 := ne_zero c1
        rw [show (detV (subG (wmat ps) L) != 0) = true by simpa using c2] at hf
        rw [anchO, hf] at hf0
        have eL : L = anch (gW ps) := Option.some.inj hf0
        rw [← eL] at q
        have hS9 := seqT s79 hS7
        have hPr9 := s79 _ _ hPr7
        refine ⟨_, rfl, t, rfl, ⟨_, hS9⟩, fun D2 hD2 => ?_⟩
        refine lc_mapST (ys := L.map fun i => V.int (prmAt i)) hS9 (by rw [natsV_len, List.length_map]) (by rw [natsV_len]; omega) hD2 (fun u => rfl) (fun j u y HA kk hu hy sA hkk => ?_) fun HA sA hDA => ?_
        · obtain ⟨qq, hq, rfl⟩ := natsV_at hu
          rw [List.getElem?_map, hq] at hy
          obtain rfl := Option.some.inj hy
          exact ⟨_, rfl, _, rfl, Pr, _, _, _, rfl, rfl, SqL.of (sA _ _ hPr9), at_of (j := qq) rfl (prm_at qq (hj6 _ (List.mem_of_getElem? hq))), hkk _ (Same.refl _)⟩
        · exact ⟨D2, _, rfl, .inl (SqL.of hDA), fun t2 HB sB hB => q t2 HB (((((s13.trans s35).trans s6).trans s79).trans sA).trans sB) hB⟩
      · have c2 := eq_zero c1
        rw [show (detV (subG (wmat ps) L) != 0) = false by simpa using c2] at hf
        exact ⟨⟨_, _, _, rfl⟩, s6.trans s79, hf⟩
  · rintro σ H6 ⟨_, s6, hf⟩
    rw [anchO] at hf0
    rw [hf0, ht.1, List.drop_length] at hf
    cases hf
end
end TL.W
namespace TL.W
open TL
open PySem L2

/-! ### steps of a reading -/
local macro_rules | `(tactic| walk_at "hp") => `(tactic| first | assumption | exact upd_same | (refine (upd_ne (by first | assumption | (exact Ne.symm (by assumption)))).trans ?_; walk_at "hp"))
local macro_rules | `(tactic| walk_at "ok") => `(tactic| first | (exact Or.inr ⟨by decide, by decide⟩) | (exact ⟨by decide, by decide⟩) | (exact ⟨by decide, by decide, by decide⟩) | (show _ ≠ _; omega) | (show _ ≠ _; decide) | (exact Or.inl ⟨by omega, by omega⟩) | decide)
local macro_rules | `(tactic| walk_at "sq") => `(tactic| first | assumption | exact SqL.of (by walk_at "hp") | exact SqT.of (by walk_at "hp"))
local macro_rules | `(tactic| walk_at "ty") => `(tactic| first | refine ⟨_, _, Value.type "int", Value.type "list", false, rfl, ClsV.ty _, TyX.base (TyOf.int _), kt_int_list, ?_⟩ | refine ⟨_, _, Value.type "bool", Value.type "list", false, rfl, ClsV.ty _, TyX.base (TyOf.bl _), kt_bool_list, ?_⟩ | refine ⟨_, _, Value.type "str", Value.type "list", false, rfl, ClsV.ty _, TyX.base (TyOf.str _), kt_str_list, ?_⟩ | refine ⟨_, _, Value.type "NoneType", Value.type "list", false, rfl, ClsV.ty _, TyX.base TyOf.non, kt_NoneType_list, ?_⟩ | refine ⟨_, _, Value.type "list", Value.type "list", true, rfl, ClsV.ty _, tyx_L (by walk_at "sq"), kt_list_list, ?_⟩ | refine ⟨_, _, Value.type "tuple", Value.type "list", false, rfl, ClsV.ty _, tyx_T (by walk_at "sq"), kt_tuple_list, ?_⟩ | refine ⟨_, _, Value.type "int", Value.type "tuple", false, rfl, ClsV.ty _, TyX.base (TyOf.int _), kt_int_tuple, ?_⟩ | refine ⟨_, _, Value.type "bool", Value.type "tuple", false, rfl, ClsV.ty _, TyX.base (TyOf.bl _), kt_bool_tuple, ?_⟩ | refine ⟨_, _, Value.type "str", Value.type "tuple", false, rfl, ClsV.ty _, TyX.base (TyOf.str _), kt_str_tuple, ?_⟩ | refine ⟨_, _, Value.type "NoneType", Value.type "tuple", false, rfl, ClsV.ty _, TyX.base TyOf.non, kt_NoneType_tuple, ?_⟩ | refine ⟨_, _, Value.type "list", Value.type "tuple", false, rfl, ClsV.ty _, tyx_L (by walk_at "sq"), kt_list_tuple, ?_⟩ | refine ⟨_, _, Value.type "tuple", Value.type "tuple", true, rfl, ClsV.ty _, tyx_T (by walk_at "sq"), kt_tuple_tuple, ?_⟩ | refine ⟨_, _, Value.type "int", Value.type "bool", false, rfl, ClsV.ty _, TyX.base (TyOf.int _), kt_int_bool, ?_⟩ | refine ⟨_, _, Value.type "bool", Value.type "bool", true, rfl, ClsV.ty _, TyX.base (TyOf.bl _), kt_bool_bool, ?_⟩ | refine ⟨_, _, Value.type "str", Value.type "bool", false, rfl, ClsV.ty _, TyX.base (TyOf.str _), kt_str_bool, ?_⟩ | refine ⟨_, _, Value.type "NoneType", Value.type "bool", false, rfl, ClsV.ty _, TyX.base TyOf.non, kt_NoneType_bool, ?_⟩ | refine ⟨_, _, Value.type "list", Value.type "bool", false, rfl, ClsV.ty _, tyx_L (by walk_at "sq"), kt_list_bool, ?_⟩ | refine ⟨_, _, Value.type "tuple", Value.type "bool", false, rfl, ClsV.ty _, tyx_T (by walk_at "sq"), kt_tuple_bool, ?_⟩ | refine ⟨_, _, Value.type "int", Value.type "int", true, rfl, ClsV.ty _, TyX.base (TyOf.int _), kt_int_int, ?_⟩ | refine ⟨_, _, Value.type "bool", Value.type "int", true, rfl, ClsV.ty _, TyX.base (TyOf.bl _), kt_bool_int, ?_⟩ | refine ⟨_, _, Value.type "str", Value.type "int", false, rfl, ClsV.ty _, TyX.base (TyOf.str _), kt_str_int, ?_⟩ | refine ⟨_, _, Value.type "NoneType", Value.type "int", false, rfl, ClsV.ty _, TyX.base TyOf.non, kt_NoneType_int, ?_⟩ | refine ⟨_, _, Value.type "list", Value.type "int", false, rfl, ClsV.ty _, tyx_L (by walk_at "sq"), kt_list_int, ?_⟩ | refine ⟨_, _, Value.type "tuple", Value.type "int", false, rfl, ClsV.ty _, tyx_T (by walk_at "sq"), kt_tuple_int, ?_⟩ | refine ⟨_, _, Value.type "int", Value.type "str", false, rfl, ClsV.ty _, TyX.base (TyOf.int _), kt_int_str, ?_⟩ | refine ⟨_, _, Value.type "bool", Value.type "str", false, rfl, ClsV.ty _, TyX.base (TyOf.bl _), kt_bool_str, ?_⟩ | refine ⟨_, _, Value.type "str", Value.type "str", true, rfl, ClsV.ty _, TyX.base (TyOf.str _), kt_str_str, ?_⟩ | refine ⟨_, _, Value.type "NoneType", Value.type "str", false, rfl, ClsV.ty _, TyX.base TyOf.non, kt_NoneType_str, ?_⟩ | refine ⟨_, _, Value.type "list", Value.type "str", false, rfl, ClsV.ty _, tyx_L (by walk_at "sq"), kt_list_str, ?_⟩ | refine ⟨_, _, Value.type "tuple", Value.type "str", false, rfl, ClsV.ty _, tyx_T (by walk_at "sq"), kt_tuple_str, ?_⟩)
local macro_rules | `(tactic| walk_at "go1") => `(tactic| first
  | (refine ⟨_, rfl, ?_⟩)
  | (refine ⟨_, _, rfl, rfl, ?_⟩)
  | (refine ⟨_, _, _, _, rfl, rfl, SqL.of (by walk_at "hp"), rfl, ?_⟩)
  | (refine Or.inl ⟨_, rfl, ?_⟩)
  | (refine ⟨rfl, ?_⟩)
  | (refine ⟨_, _, rfl, .inl (SqL.of (by walk_at "hp")), ?_⟩)
  | (refine ⟨_, _, rfl, Or.inl (by assumption), ?_⟩)
  | (refine ⟨_, _, rfl, Or.inr (by assumption), ?_⟩)
  | (refine ⟨(by walk_at "ok"), ?_⟩)
  | (refine ⟨_, _, _, _, rfl, rfl, (by walk_at "hp"), rfl, ?_⟩))
local macro_rules | `(tactic| walk_at "go") => `(tactic| repeat (walk_at "go1"))
local macro_rules | `(tactic| walk_at "gt") => `(tactic| repeat (first | walk_at "go1" | walk_at "ty"))

section
variable {P : Program} {w : World} {K : PySem.W.Frag} {mg : Str → Option Value} {base : Heap}
/-! ### the table of a wedge, times a number -/
theorem getD_mul (k : Int) (ps : List Int) (n : Nat) : (ps.map (k * ·)).getD n 0 = k * ps.getD n 0 := by
  rw [List.getD_eq_getElem?_getD, List.getD_eq_getElem?_getD, List.getElem?_map]
  cases ps[n]? with
  | none => exact (Int.mul_zero k).symm
  | some u => rfl
theorem gW_mul (k : Int) (ps : List Int) : gW (ps.map (k * ·)) = fun i j => k * gW ps i j := by
  funext i j
  unfold gW
  rw [getD_mul, getD_mul]
  by_cases h1 : i < j ∧ j < 6
  · rw [if_pos h1, if_pos h1]
  · rw [if_neg h1, if_neg h1]
    by_cases h2 : j < i ∧ i < 6
    · rw [if_pos h2, if_pos h2, Int.mul_neg]
    · rw [if_neg h2, if_neg h2, Int.mul_zero]
theorem gW_neg (ps : List Int) : gW (ps.map (- ·)) = fun i j => (-1) * gW ps i j := by
  rw [← gW_mul]
  congr 1
  refine List.map_congr_left fun u _ => ?_
  omega
def dueI (ps : List Int) : List Int := (anch (gW ps)).map prmAt
theorem due_neg (ps : List Int) : dueI (ps.map (- ·)) = dueI ps := by
  unfold dueI
  rw [gW_neg, anch_mul (by decide)]
theorem due_mul {k : Int} (hk : k ≠ 0) (ps : List Int) : dueI (ps.map (k * ·)) = dueI ps := by
  unfold dueI
  rw [gW_mul, anch_mul hk]
theorem due_len (ps : List Int) : (dueI ps).length = 2 * ow (gW ps) := by
  unfold dueI
  rw [List.length_map, anch_len]
theorem due_zero (ps : List Int) : dueI (ps.map ((0 : Int) * ·)) = [] := by
  refine List.eq_nil_of_length_eq_zero ?_
  rw [due_len, gW_mul, ow_zero fun i j => Int.zero_mul _]
theorem due_flat {ps : List Int} (h : ps.length = 15) : decide (dueI ps = []) = !ps.any (fun n => n != 0) := by
  have e : dueI ps = [] ↔ ∀ u ∈ ps, u = 0 := by
    constructor
    · intro z
      have h0 : ow (gW ps) = 0 := by
        have := due_len ps
        rw [z] at this
        simp only [List.length_nil] at this
        omega
      have h2 : hasPf (gW ps) 2 = false := by
        unfold ow at h0
        cases h6 : hasPf (gW ps) 6 with
        | true => rw [h6] at h0; simp at h0
        | false =>
          cases h4 : hasPf (gW ps) 4 with
          | true => rw [h6, h4] at h0; simp at h0
          | false =>
            cases h2 : hasPf (gW ps) 2 with
            | true => rw [h6, h4, h2] at h0; simp at h0
            | false => rfl
      have hz := two_of (gW_skew ps) h2
      intro u hu
      rw [← gW_map h] at hu
      obtain ⟨p, _, rfl⟩ := List.mem_map.mp hu
      exact hz _ _
    · intro z
      have g0 : ∀ k, ps.getD k 0 = 0 := fun k => by
        rw [List.getD_eq_getElem?_getD]
        cases hk : ps[k]? with
        | none => rfl
        | some u => exact z u (List.mem_of_getElem? hk)
      refine List.eq_nil_of_length_eq_zero ?_
      rw [due_len, ow_zero fun i j => by
        unfold gW
        rw [g0, g0]
        split
        · rfl
        · split <;> rfl]
  by_cases hz : ∀ u ∈ ps, u = 0
  · rw [decide_eq_true (e.mpr hz)]
    have : ps.any (fun n => n != 0) = false := List.any_eq_false.mpr fun u hu => by rw [hz u hu]; decide
    rw [this]
    rfl
  · rw [decide_eq_false fun q => hz (e.mp q)]
    have : ps.any (fun n => n != 0) = true := by
      obtain ⟨u, hu⟩ := Classical.not_forall.mp hz
      obtain ⟨h1, h2⟩ := Classical.not_imp.mp hu
      exact List.any_eq_true.mpr ⟨u, h1, by simpa using h2⟩
    rw [this]
    rfl
theorem sq_due (L : List Nat) : (L.map fun i => V.int (prmAt i)) = (L.map prmAt).map V.int := by
  rw [List.map_map]
  rfl
theorem deq_ints {n : Nat} {H : Hp} {a b : Addr} {ns : List Int} (h1 : SqT K H a (ns.map V.int)) (h2 : SqT K H b (ns.map V.int)) (hz : ns.length ≤ 1000) : DEq K H (n + 1) (.ref a) (.ref b) := .tup h1 h2 (by rw [List.length_map]; omega) rfl fun i x y hx hy => by
  rw [hx] at hy
  cases hy
  rw [List.getElem?_map] at hx
  obtain ⟨u, _, rfl⟩ := Option.map_eq_some_iff.mp hx
  exact .int u
theorem deq_intsL {n : Nat} {H : Hp} {a b : Addr} {ns : List Int} (h1 : SqL K H a (ns.map V.int)) (h2 : SqL K H b (ns.map V.int)) (hz : ns.length ≤ 1000) : DEq K H (n + 1) (.ref a) (.ref b) := .lst h1 h2 (by rw [List.length_map]; omega) rfl fun i x y hx hy => by
  rw [hx] at hy
  cases hy
  rw [List.getElem?_map] at hx
  obtain ⟨u, _, rfl⟩ := Option.map_eq_some_iff.mp hx
  exact .int u
theorem deq_mat {H : Hp} {a b : Addr} {M : List (List Int)} (h1 : Mat H a M) (h2 : Mat H b M) (hl : M.length ≤ 6) (hw : ∀ row ∈ M, row.length ≤ 6) : DEq K H 2 (.ref a) (.ref b) := by
  obtain ⟨rs, e1, e2⟩ := h1.ex
  obtain ⟨ss, f1, f2⟩ := h2.ex
  refine .lst (SqL.of e1) (SqL.of f1) (by rw [e2.1]; omega) (e2.1.trans f2.1.symm) fun i x y hx hy => ?_
  obtain ⟨t, row, rfl, g1, g2⟩ := e2.2 i x hx
  obtain ⟨u, row', rfl, k1, k2⟩ := f2.2 i y hy
  rw [g1] at k1
  cases k1
  exact deq_intsL (SqL.of g2) (SqL.of k2) (Nat.le_trans (hw row (List.mem_of_getElem? g1)) (by decide))
/-! ### what evaluates to what -/
def EvW (K : PySem.W.Frag) (C : Addr) (te : TE) (σ : L2.St) (H : Hp) (x : W2) : Prop := ∀ H1, Same H H1 → ∀ Q : VK, (∀ p H2, Same H1 H2 → WAt K C H2 p x → Q (.ref p) H2) → te σ H1 Q
def EvI (te : TE) (σ : L2.St) (H : Hp) (n : Int) : Prop := ∀ H1, Same H H1 → ∀ Q : VK, (∀ H2, Same H1 H2 → Q (.int n) H2) → te σ H1 Q
def EvB (te : TE) (σ : L2.St) (H : Hp) (b : Bool) : Prop := ∀ H1, Same H H1 → ∀ Q : VK, (∀ H2, Same H1 H2 → Q (.bl b) H2) → te σ H1 Q

section
variable {C : Addr} {σ : L2.St} {H : Hp} {ta tb te : TE} {x y : W2} {n m : Int} {E : XK}
theorem ew_var {i : Nat} {p : Addr} (h : σ[i]? = some (some (.ref p))) (hw : WAt K C H p x) : EvW K C (tVar i) σ H x := fun H1 s Q q => ⟨_, h, q p H1 (Same.refl _) (hw.same s)⟩
theorem ew_op {f : W2 → W2 → W2} (ha : EvW K C ta σ H x) (hb : EvW K C tb σ H y) : EvW K C (tOp (rOw C (spOp2 K C f) E) ta tb) σ H (f x y) := fun H1 s1 Q q =>
  ha H1 s1 _ fun p H2 s2 hp => hb H2 (s1.trans s2) _ fun r H3 s3 hr => by
    have hp3 := hp.same s3
    obtain ⟨dx, _, _, e, _⟩ := hp3.ex
    obtain ⟨dy, _, _, g, _⟩ := hr.ex
    exact ⟨p, dx, _, r, dy, _, rfl, rfl, e, g, p, r, x, y, rfl, hp3, hr, fun t H4 s4 ht => q t H4 ((s2.trans s3).trans s4) ht⟩
theorem ew_neg (ha : EvW K C ta σ H x) : EvW K C (tUn (rNeg C (spNegW K C) E) ta) σ H (negW x) := fun H1 s1 Q q =>
  ha H1 s1 _ fun p H2 s2 hp => by
    obtain ⟨dx, _, _, e, _⟩ := hp.ex
    exact ⟨p, dx, _, rfl, e, p, x, rfl, hp, fun t H4 s4 ht => q t H4 (s2.trans s4) ht⟩
theorem ew_mul (ha : EvW K C ta σ H x) (hb : EvI tb σ H n) (hs : Small n x) : EvW K C (tOp (rOwI C (spMulW K C) E) ta tb) σ H (mulW n x) := fun H1 s1 Q q =>
  ha H1 s1 _ fun p H2 s2 hp => hb H2 (s1.trans s2) _ fun H3 s3 => by
    have hp3 := hp.same s3
    obtain ⟨dx, _, _, e, _⟩ := hp3.ex
    exact ⟨p, dx, _, n, rfl, rfl, e, p, n, x, rfl, hp3, hs, fun t H4 s4 ht => q t H4 ((s2.trans s3).trans s4) ht⟩
theorem ew_rmul (hb : EvI tb σ H n) (ha : EvW K C ta σ H x) (hs : Small n x) : EvW K C (tOp (rIOw C (spMulW K C) E) tb ta) σ H (mulW n x) := fun H1 s1 Q q =>
  hb H1 s1 _ fun H2 s2 => ha H2 (s1.trans s2) _ fun p H3 s3 hp => by
    obtain ⟨dx, _, _, e, _⟩ := hp.ex
    exact ⟨p, dx, _, n, rfl, rfl, e, p, n, x, rfl, hp, hs, fun t H4 s4 ht => q t H4 ((s2.trans s3).trans s4) ht⟩
def EvT (K : PySem.W.Frag) (te : TE) (σ : L2.St) (H : Hp) (ns : List Int) : Prop := ∀ H1, Same H H1 → ∀ Q : VK, (∀ t H2, Same H1 H2 → SqT K H2 t (ns.map V.int) → Q (.ref t) H2) → te σ H1 Q
theorem et_var {i : Nat} {p : Addr} {ns : List Int} (h : σ[i]? = some (some (.ref p))) (hw : SqT K H p (ns.map V.int)) : EvT K (tVar i) σ H ns := fun H1 s Q q => ⟨_, h, q p H1 (Same.refl _) (seqT s hw)⟩
theorem et_nil : EvT K (tTup tNil) σ H [] := fun H1 s Q q => ⟨by show 0 ≤ sizeLine; decide, fun p hp => q p _ (Same.new hp) (.inl (.inl upd_same))⟩
theorem et_anchor (T : Tx K mg) (ha : EvW K T.C_Wedge te σ H x) (hk : RkOk x) {ns : List Int} (e : dueI x.1 = ns) : EvT K (tCall (spAnchor T) [] E (tCons te tNil)) σ H ns := fun H1 s1 Q q =>
  ha H1 s1 _ fun p H2 s2 hp => ⟨p, x, rfl, hp, hk, fun t H3 s3 ht => q t H3 (s2.trans s3) (by rw [← e]; rw [sq_due] at ht; exact ht)⟩
theorem et_anchorK (T : Tx K mg) (ha : EvW K T.C_Wedge te σ H x) (hk : RkOk x) {ns : List Int} (e : dueI x.1 = ns) : EvT K (tCallK0 (spAnchor T) g01 E (tCons te tNil)) σ H ns := fun H1 s1 Q q =>
  ha H1 s1 _ fun p H2 s2 hp => ⟨p, x, rfl, hp, hk, fun t H3 s3 ht => q t H3 (s2.trans s3) (by rw [← e]; rw [sq_due] at ht; exact ht)⟩
theorem eb_likeT {ns : List Int} (ha : EvT K ta σ H ns) (hb : EvT K tb σ H ns) (hz : ns.length ≤ 1000) : EvB (tCall (spLike K 3) [] E (tCons ta (tCons tb tNil))) σ H true := fun H1 s1 Q q =>
  ha H1 s1 _ fun p H2 s2 hp => hb H2 (s1.trans s2) _ fun r H3 s3 hr => ⟨1, .ref p, .ref r, rfl, by decide, deq_ints (seqT s3 hp) hr hz, fun H4 s4 => q H4 ((s2.trans s3).trans s4)⟩
theorem eb_likeI (ha : EvI ta σ H n) (hb : EvI tb σ H n) : EvB (tCall (spLike K 3) [] E (tCons ta (tCons tb tNil))) σ H true := fun H1 s1 Q q =>
  ha H1 s1 _ fun H2 s2 => hb H2 (s1.trans s2) _ fun H3 s3 => ⟨1, .int n, .int n, rfl, by decide, .int n, fun H4 s4 => q H4 ((s2.trans s3).trans s4)⟩
theorem eb_likeB {b : Bool} (ha : EvB ta σ H b) (hb : EvB tb σ H b) : EvB (tCall (spLike K 3) [] E (tCons ta (tCons tb tNil))) σ H true := fun H1 s1 Q q =>
  ha H1 s1 _ fun H2 s2 => hb H2 (s1.trans s2) _ fun H3 s3 => ⟨1, .bl b, .bl b, rfl, by decide, .bl b, fun H4 s4 => q H4 ((s2.trans s3).trans s4)⟩
theorem ei_owed {f : Nat → Int} (ha : EvW K C te σ H x) (hk : RkOk x) : EvI (tProp C (spRankW K C f) [] E te) σ H (f (2 * ow (gW x.1))) := fun H1 s1 Q q =>
  ha H1 s1 _ fun p H2 s2 hp => by
    obtain ⟨dx, _, _, e, _⟩ := hp.ex
    refine ⟨p, dx, _, rfl, e, p, x, rfl, hp, hk, fun H3 s3 => ?_⟩
    rw [rank_gW hp.ok.l1]
    exact q H3 (s2.trans s3)
theorem eb_flat (ha : EvW K C te σ H x) : EvB (tProp C (spFlat K C) [] E te) σ H (!x.1.any (fun n => n != 0)) := fun H1 s1 Q q =>
  ha H1 s1 _ fun p H2 s2 hp => by
    obtain ⟨dx, _, _, e, _⟩ := hp.ex
    exact ⟨p, dx, _, rfl, e, p, x, rfl, hp, q H2 s2⟩
theorem et_pairs {m : Str} (hm : ∀ a b, (wf a b).lookup m = none) (ha : EvW K C te σ H x) : EvT K (tMeth C m (spGet K C fun x => x.1) [] E te tNil) σ H x.1 := fun H1 s1 Q q =>
  ha H1 s1 _ fun p H2 s2 hp => by
    obtain ⟨dx, _, _, e, _⟩ := hp.ex
    exact ⟨p, dx, _, rfl, e, hm _ _, p, x, rfl, hp, fun t ht => q t H2 s2 ht⟩
theorem if_so {t rest : TS} {D : Ends} (h : EvB te σ H true) (k : ∀ H', Same H H' → rest D σ H') : tSeq (tIfS (tNot (tB te)) t tNext) rest D σ H :=
  h H (Same.refl _) _ fun H1 s1 => ⟨true, rfl, k H1 s1⟩
theorem if_so2 {t rest : TS} {D : Ends} (ha : EvB ta σ H true) (hb : EvB tb σ H true) (k : ∀ H', Same H H' → rest D σ H') : tSeq (tIfS (tOr (tNot (tB ta)) (tNot (tB tb))) t tNext) rest D σ H :=
  ha H (Same.refl _) _ fun H1 s1 => ⟨true, rfl, hb H1 s1 _ fun H2 s2 => ⟨true, rfl, k H2 (s1.trans s2)⟩⟩
theorem if_last {t : TS} {D : Ends} (ha : EvB ta σ H true) (hb : EvB tb σ H true) (k : ∀ H', Same H H' → D.nx σ H') : tIfS (tOr (tNot (tB ta)) (tNot (tB tb))) t tNext D σ H :=
  ha H (Same.refl _) _ fun H1 s1 => ⟨true, rfl, hb H1 s1 _ fun H2 s2 => ⟨true, rfl, k H2 (s1.trans s2)⟩⟩
def EvM (te : TE) (σ : L2.St) (H : Hp) (M : List (List Int)) : Prop := ∀ H1, Same H H1 → ∀ Q : VK, (∀ t H2, Same H1 H2 → Mat H2 t M → Q (.ref t) H2) → te σ H1 Q
theorem em_var {i : Nat} {p : Addr} {M : List (List Int)} (h : σ[i]? = some (some (.ref p))) (hw : Mat H p M) : EvM (tVar i) σ H M := fun H1 s Q q => ⟨_, h, q p H1 (Same.refl _) (hw.same s)⟩
theorem em_sqat {i : Nat} {due : Addr} {L : List Nat} (ha : EvW K C te σ H x) (h : σ[i]? = some (some (.ref due))) (hd : SqT K H due (L.map fun i => V.int (prmAt i))) (h6 : ∀ p ∈ L, p < 6) (hz : L.length ≤ 100) :
    EvM (tCall (fun vs H Q _ => ∃ (p a : Addr) (x : W2) (L : List Nat), vs = [.ref p, .ref a] ∧ WAt K C H p x ∧ SqL K H a (L.map fun i => V.int (prmAt i)) ∧ (∀ i ∈ L, i < 6) ∧ L.length ≤ 100 ∧ ∀ t H', Same H H' → Mat H' t (subG (wmat x.1) L) → Q (.ref t) H') [] E (tCons te (tCons (tCB (rListOf K) (tCons (tVar i) tNil)) tNil))) σ H (subG (wmat x.1) L) := fun H1 s1 Q q =>
  ha H1 s1 _ fun p H2 s2 hp => ⟨_, h, due, _, rfl, .inr (seqT (s1.trans s2) hd), fun l hl => by
    have s3 := Same.new (o := .lst (L.map fun i => V.int (prmAt i))) hl
    exact ⟨p, l, x, L, rfl, hp.same s3, SqL.of upd_same, h6, hz, fun t H4 s4 hM => q t H4 ((s2.trans s3).trans s4) hM⟩⟩
theorem eb_likeM {M : List (List Int)} (ha : EvM ta σ H M) (hb : EvM tb σ H M) (hl : M.length ≤ 6) (hw : ∀ row ∈ M, row.length ≤ 6) : EvB (tCall (spLike K 3) [] E (tCons ta (tCons tb tNil))) σ H true := fun H1 s1 Q q =>
  ha H1 s1 _ fun p H2 s2 hp => hb H2 (s1.trans s2) _ fun r H3 s3 hr => ⟨2, .ref p, .ref r, rfl, by decide, deq_mat (hp.same s3) hr hl hw, fun H4 s4 => q H4 ((s2.trans s3).trans s4)⟩
theorem ei_det {M : List (List Int)} (ha : EvM te σ H M) (hw : RowsW M.length M) (he : Ent 100 M) (hl : M.length ≤ 6) : EvI (tCall spDet [] E (tCons te tNil)) σ H (detV M) := fun H1 s1 Q q =>
  ha H1 s1 _ fun p H2 s2 hp => ⟨p, M, 100, M.length, rfl, hp, hw, he, by decide, by rw [Nat.min_self]; exact Nat.lt_of_le_of_lt (bk_le hl) (by decide), by omega, by omega, fun H3 s3 => q H3 (s2.trans s3)⟩
theorem ei_ldet {M : List (List Int)} (ha : EvM te σ H M) (hw : RowsW M.length M) (he : Ent 100 M) (hl : M.length ≤ 6) : EvI (tCall spLDet [] E (tCons te tNil)) σ H (detV M) := fun H1 s1 Q q =>
  ha H1 s1 _ fun p H2 s2 hp => ⟨p, M, rfl, hp, hw, he, hl, fun H3 s3 => q H3 (s2.trans s3)⟩
theorem if_det {t rest : TS} {D : Ends} (ha : EvB ta σ H true) (hb : EvI tb σ H n) (h0 : n ≠ 0) (k : ∀ H', Same H H' → rest D σ H') : tSeq (tIfS (tOr (tNot (tB ta)) (tTest (tOp rEq tb (tC (.int 0))))) t tNext) rest D σ H :=
  ha H (Same.refl _) _ fun H1 s1 => ⟨true, rfl, hb H1 s1 _ fun H2 s2 => ⟨rfl, _, rfl, iteF' (by simp [h0]) (k H2 (s1.trans s2))⟩⟩
theorem ei_half {i : Nat} {due : Addr} {xs : List V} {m : Nat} (h : σ[i]? = some (some (.ref due))) (hd : SqT K H due xs) (hl : xs.length = 2 * m) : EvI (tOp (rI CDivN fun i j => V.int (i.fdiv j)) (tCB (rLenSq K) (tCons (tVar i) tNil)) (tC (V.int 2))) σ H (m : Int) := fun H1 s1 Q q => by
  refine ⟨_, h, due, xs, rfl, .inr (seqT s1 hd), _, _, rfl, rfl, ⟨by decide, by decide⟩, ?_⟩
  have e : ((xs.length : Int)).fdiv 2 = (m : Int) := by
    rw [hl, Int.fdiv_eq_ediv_of_nonneg _ (by decide)]
    omega
  show Q (.int (((xs.length : Int)).fdiv 2)) H1
  rw [e]
  exact q H1 (Same.refl _)
theorem eb_empty {i : Nat} {due : Addr} {ns : List Int} (h : σ[i]? = some (some (.ref due))) (hd : SqT K H due (ns.map V.int)) : EvB (tOp (rEqD K) (tVar i) (tTup tNil)) σ H (decide (ns = [])) := fun H1 s1 Q q => by
  refine ⟨_, h, by show 0 ≤ sizeLine; decide, fun p hp => ?_⟩
  have s2 := Same.new (o := .tup []) hp
  have d1 : Dp K (upd H1 p (.tup [])) (.ref due) (.tuple (ns.map PyData.int)) := .tup (seqT (s1.trans s2) hd) (dpAll_ints _)
  have d2 : Dp K (upd H1 p (.tup [])) (.ref p) (.tuple (([] : List Int).map PyData.int)) := .tup (.inl (.inl upd_same)) (dpAll_ints [])
  refine ⟨_, _, d1, d2, shaped_tupI _, shaped_tupI [], ?_⟩
  rw [eqv_tupI]
  exact q _ s2
theorem et_tuple {i : Nat} {a : Addr} {ns : List Int} (h : σ[i]? = some (some (.ref a))) (hd : SqL K H a (ns.map V.int)) : EvT K (tCB (rTup1 K) (tCons (tVar i) tNil)) σ H ns := fun H1 s1 Q q =>
  ⟨_, h, a, _, rfl, .inl (s1.seq hd), fun t H2 s2 ht => q t H2 s2 ht⟩
theorem prm_idx (j : Nat) (hj : j < 6) : (prm.map V.int)[j]? = some (.int (prmAt j)) ∧ eqV (.int (prmAt j)) (.int (prmAt j)) = true ∧ ∀ (m : Nat) (z' : V), m < j → (prm.map V.int)[m]? = some z' → eqV z' (.int (prmAt j)) = false := by
  refine ⟨prm_at j hj, (by decide : ∀ j, j < 6 → eqV (.int (prmAt j)) (.int (prmAt j)) = true) j hj, fun m z' hm hz => ?_⟩
  rw [prm_at m (by omega)] at hz
  cases hz
  exact (by decide : ∀ j, j < 6 → ∀ m, m < j → eqV (.int (prmAt m)) (.int (prmAt j)) = false) j hj m hm
theorem ew_make {wd : W2} {i j : Nat} {p r : Addr} (h1 : σ[i]? = some (some (.ref p))) (h2 : σ[j]? = some (some (.ref r))) (hp : SqL K H p (wd.1.map V.int)) (hr : SqL K H r (wd.2.map V.int)) (hw : WOk wd) : EvW K C (tMake C (spInit K C) [] E (tCons (tVar i) (tCons (tVar j) tNil))) σ H wd := fun H1 s1 Q q =>
  ⟨_, h1, _, h2, make_w (.inl (s1.seq hp)) (.inl (s1.seq hr)) hw fun x H' s' hx => q x H' s' hx⟩
theorem ei_c : EvI (tC (.int n)) σ H n := fun H1 s Q q => q H1 (Same.refl _)
theorem ei_ow (ha : EvW K C te σ H x) (hk : RkOk x) : EvI (tProp C (spRankW K C fun n => ((n / 2 : Nat) : Int)) [] E te) σ H (ow (gW x.1) : Int) := by
  have h := ei_owed (f := fun n => ((n / 2 : Nat) : Int)) (E := E) ha hk
  rw [show ((2 * ow (gW x.1) / 2 : Nat) : Int) = (ow (gW x.1) : Int) by omega] at h
  exact h
theorem eb_fl (ha : EvW K C te σ H x) (hl : x.1.length = 15) : EvB (tProp C (spFlat K C) [] E te) σ H (decide (dueI x.1 = [])) := by
  rw [due_flat hl]
  exact eb_flat ha
theorem eb_third {i j : Nat} {p due : Addr} (h7 : σ[i]? = some (some (.ref p))) (h6 : σ[j]? = some (some (.ref due))) (hx : WAt K C H p x) (hk : RkOk x) (hd : SqT K H due ((dueI x.1).map V.int)) :
    EvB (tCall (spLike K 3) [] E (tCons (tProp C (spRankW K C fun n => ((n / 2 : Nat) : Int)) [] E (tVar i)) (tCons (tOp (rI CDivN fun i j => V.int (i.fdiv j)) (tCB (rLenSq K) (tCons (tVar j) tNil)) (tC (V.int 2))) tNil))) σ H true :=
  eb_likeI (ei_ow (ew_var h7 hx) hk) (ei_half h6 hd (by rw [List.length_map, due_len]))
theorem eb_fourth {i j : Nat} {p due : Addr} (h7 : σ[i]? = some (some (.ref p))) (h6 : σ[j]? = some (some (.ref due))) (hx : WAt K C H p x) (hd : SqT K H due ((dueI x.1).map V.int)) :
    EvB (tCall (spLike K 3) [] E (tCons (tProp C (spFlat K C) [] E (tVar i)) (tCons (tOp (rEqD K) (tVar j) (tTup tNil)) tNil))) σ H true :=
  eb_likeB (eb_fl (ew_var h7 hx) hx.ok.l1) (eb_empty h6 hd)
theorem if_det2 {i : Nat} {p : Addr} {M : List (List Int)} {t rest : TS} {D : Ends} (h : σ[i]? = some (some (.ref p))) (hM : Mat H p M) (hw : RowsW M.length M) (he : Ent 100 M) (hl : M.length ≤ 6) (h0 : detV M ≠ 0) (k : ∀ H', Same H H' → rest D σ H') :
    tSeq (tIfS (tOr (tNot (tB (tCall (spLike K 3) [] E (tCons (tCall spDet [] E (tCons (tVar i) tNil)) (tCons (tCall spLDet [] E (tCons (tVar i) tNil)) tNil))))) (tTest (tOp rEq (tCall spDet [] E (tCons (tVar i) tNil)) (tC (.int 0))))) t tNext) rest D σ H := by
  have h1 : EvI (tCall spDet [] E (tCons (tVar i) tNil)) σ H (detV M) := ei_det (em_var h hM) hw he hl
  have h2 : EvI (tCall spLDet [] E (tCons (tVar i) tNil)) σ H (detV M) := ei_ldet (em_var h hM) hw he hl
  generalize detV M = n at *
  exact if_det (eb_likeI h1 h2) h1 h0 k
theorem if_last2 (T : Tx K mg) {i j : Nat} {p a : Addr} {t : TS} {D : Ends} (h : σ[i]? = some (some (.ref p))) (g : σ[j]? = some (some (.ref a))) (hx : WAt K T.C_Wedge H p x) (ha : SqL K H a (x.1.map V.int)) (hs : Small 0 x) (hk : RkOk (mulW 0 x)) (k : ∀ H', Same H H' → D.nx σ H') :
    tIfS (tOr (tNot (tB (tCall (spLike K 3) [] E (tCons (tCall (spAnchor T) [] E (tCons (tOp (rOwI T.C_Wedge (spMulW K T.C_Wedge) E) (tVar i) (tC (V.int 0))) tNil)) (tCons (tTup tNil) tNil))))) (tNot (tB (tCall (spLike K 3) [] E (tCons (tMeth T.C_Wedge (Str.ofString "pairs") (spGet K T.C_Wedge fun x => x.1) [] E (tVar i) tNil) (tCons (tCB (rTup1 K) (tCons (tVar j) tNil)) tNil)))))) t tNext D σ H :=
  if_last (eb_likeT (et_anchor T (ew_mul (ew_var h hx) ei_c hs) hk (due_zero x.1)) et_nil (by decide)) (eb_likeT (et_pairs (fun a b => wf_no _ _ (by decide +kernel) (by decide +kernel)) (ew_var h hx)) (et_tuple g ha) (by have := hx.ok.l1; omega)) k
end
end
end TL.W
namespace TL.W
open TL
open PySem L2

/-! ### steps of a reading -/
local macro_rules | `(tactic| walk_at "hp") => `(tactic| first | assumption | exact upd_same | (refine (upd_ne (by first | assumption | (exact Ne.symm (by assumption)))).trans ?_; walk_at "hp"))
local macro_rules | `(tactic| walk_at "ok") => `(tactic| first | (exact Or.inr ⟨by decide, by decide⟩) | (exact ⟨by decide, by decide⟩) | (exact ⟨by decide, by decide, by decide⟩) | (show _ ≠ _; omega) | (show _ ≠ _; decide) | (exact Or.inl ⟨by omega, by omega⟩) | decide)
local macro_rules | `(tactic| walk_at "sq") => `(tactic| first | assumption | exact SqL.of (by walk_at "hp") | exact SqT.of (by walk_at "hp"))
local macro_rules | `(tactic| walk_at "ty") => `(tactic| first | refine ⟨_, _, Value.type "int", Value.type "list", false, rfl, ClsV.ty _, TyX.base (TyOf.int _), kt_int_list, ?_⟩ | refine ⟨_, _, Value.type "bool", Value.type "list", false, rfl, ClsV.ty _, TyX.base (TyOf.bl _), kt_bool_list, ?_⟩ | refine ⟨_, _, Value.type "str", Value.type "list", false, rfl, ClsV.ty _, TyX.base (TyOf.str _), kt_str_list, ?_⟩ | refine ⟨_, _, Value.type "NoneType", Value.type "list", false, rfl, ClsV.ty _, TyX.base TyOf.non, kt_NoneType_list, ?_⟩ | refine ⟨_, _, Value.type "list", Value.type "list", true, rfl, ClsV.ty _, tyx_L (by walk_at "sq"), kt_list_list, ?_⟩ | refine ⟨_, _, Value.type "tuple", Value.type "list", false, rfl, ClsV.ty _, tyx_T (by walk_at "sq"), kt_tuple_list, ?_⟩ | refine ⟨_, _, Value.type "int", Value.type "tuple", false, rfl, ClsV.ty _, TyX.base (TyOf.int _), kt_int_tuple, ?_⟩ | refine ⟨_, _, Value.type "bool", Value.type "tuple", false, rfl, ClsV.ty _, TyX.base (TyOf.bl _), kt_bool_tuple, ?_⟩ | refine ⟨_, _, Value.type "str", Value.type "tuple", false, rfl, ClsV.ty _, TyX.base (TyOf.str _), kt_str_tuple, ?_⟩ | refine ⟨_, _, Value.type "NoneType", Value.type "tuple", false, rfl, ClsV.ty _, TyX.base TyOf.non, kt_NoneType_tuple, ?_⟩ | refine ⟨_, _, Value.type "list", Value.type "tuple", false, rfl, ClsV.ty _, tyx_L (by walk_at "sq"), kt_list_tuple, ?_⟩ | refine ⟨_, _, Value.type "tuple", Value.type "tuple", true, rfl, ClsV.ty _, tyx_T (by walk_at "sq"), kt_tuple_tuple, ?_⟩ | refine ⟨_, _, Value.type "int", Value.type "bool", false, rfl, ClsV.ty _, TyX.base (TyOf.int _), kt_int_bool, ?_⟩ | refine ⟨_, _, Value.type "bool", Value.type "bool", true, rfl, ClsV.ty _, TyX.base (TyOf.bl _), kt_bool_bool, ?_⟩ | refine ⟨_, _, Value.type "str", Value.type "bool", false, rfl, ClsV.ty _, TyX.base (TyOf.str _), kt_str_bool, ?_⟩ | refine ⟨_, _, Value.type "NoneType", Value.type "bool", false, rfl, ClsV.ty _, TyX.base TyOf.non, kt_NoneType_bool, ?_⟩ | refine ⟨_, _, Value.type "list", Value.type "bool", false, rfl, ClsV.ty _, tyx_L (by walk_at "sq"), kt_list_bool, ?_⟩ | refine ⟨_, _, Value.type "tuple", Value.type "bool", false, rfl, ClsV.ty _, tyx_T (by walk_at "sq"), kt_tuple_bool, ?_⟩ | refine ⟨_, _, Value.type "int", Value.type "int", true, rfl, ClsV.ty _, TyX.base (TyOf.int _), kt_int_int, ?_⟩ | refine ⟨_, _, Value.type "bool", Value.type "int", true, rfl, ClsV.ty _, TyX.base (TyOf.bl _), kt_bool_int, ?_⟩ | refine ⟨_, _, Value.type "str", Value.type "int", false, rfl, ClsV.ty _, TyX.base (TyOf.str _), kt_str_int, ?_⟩ | refine ⟨_, _, Value.type "NoneType", Value.type "int", false, rfl, ClsV.ty _, TyX.base TyOf.non, kt_NoneType_int, ?_⟩ | refine ⟨_, _, Value.type "list", Value.type "int", false, rfl, ClsV.ty _, tyx_L (by walk_at "sq"), kt_list_int, ?_⟩ | refine ⟨_, _, Value.type "tuple", Value.type "int", false, rfl, ClsV.ty _, tyx_T (by walk_at "sq"), kt_tuple_int, ?_⟩ | refine ⟨_, _, Value.type "int", Value.type "str", false, rfl, ClsV.ty _, TyX.base (TyOf.int _), kt_int_str, ?_⟩ | refine ⟨_, _, Value.type "bool", Value.type "str", false, rfl, ClsV.ty _, TyX.base (TyOf.bl _), kt_bool_str, ?_⟩ | refine ⟨_, _, Value.type "str", Value.type "str", true, rfl, ClsV.ty _, TyX.base (TyOf.str _), kt_str_str, ?_⟩ | refine ⟨_, _, Value.type "NoneType", Value.type "str", false, rfl, ClsV.ty _, TyX.base TyOf.non, kt_NoneType_str, ?_⟩ | refine ⟨_, _, Value.type "list", Value.type "str", false, rfl, ClsV.ty _, tyx_L (by walk_at "sq"), kt_list_str, ?_⟩ | refine ⟨_, _, Value.type "tuple", Value.type "str", false, rfl, ClsV.ty _, tyx_T (by walk_at "sq"), kt_tuple_str, ?_⟩)
local macro_rules | `(tactic| walk_at "go1") => `(tactic| first
  | (refine ⟨_, rfl, ?_⟩)
  | (refine ⟨_, _, rfl, rfl, ?_⟩)
  | (refine ⟨_, _, _, _, rfl, rfl, SqL.of (by walk_at "hp"), rfl, ?_⟩)
  | (refine Or.inl ⟨_, rfl, ?_⟩)
  | (refine ⟨rfl, ?_⟩)
  | (refine ⟨_, _, rfl, .inl (SqL.of (by walk_at "hp")), ?_⟩)
  | (refine ⟨_, _, rfl, Or.inl (by assumption), ?_⟩)
  | (refine ⟨_, _, rfl, Or.inr (by assumption), ?_⟩)
  | (refine ⟨(by walk_at "ok"), ?_⟩)
  | (refine ⟨_, _, _, _, rfl, rfl, (by walk_at "hp"), rfl, ?_⟩))
local macro_rules | `(tactic| walk_at "go") => `(tactic| repeat (walk_at "go1"))
local macro_rules | `(tactic| walk_at "gt") => `(tactic| repeat (first | walk_at "go1" | walk_at "ty"))

section
variable {P : Program} {w : World} {K : PySem.W.Frag} {mg : Str → Option Value} {base : Heap}
theorem o_mulI (T : Tx K mg) {X : Cx} {k : Nat} {sp : Sp} (F : FnOk X.prog X.w X.K X.mg X.base CX0 k T.f_Wedge_mul T.d_Wedge_mul ["self", "k"] sp) (hr : Room k X.A) (hK : X.K = K := by rfl) : OpR X (binaryOp .Mult) (rOwI T.C_Wedge sp E0) := by
  subst hK
  obtain ⟨fo, h1⟩ := T.iM
  obtain ⟨ro, h2⟩ := T.iR
  exact op_owI (op := .Mult) (g := T.f_Wedge_rmul) ⟨T.sfW, by rw [d_mul]; exact T.a_Wedge_mul.at_, T.a_Wedge_mul.fn⟩ (by rw [d_rmul]; exact T.a_Wedge_rmul.at_) (by rw [d_mul]; exact h1) (by rw [d_rmul]; exact h2) T.sI F hr T.b_Wedge_mul pass0
theorem o_rmulI (T : Tx K mg) {X : Cx} {k : Nat} {sp : Sp} (F : FnOk X.prog X.w X.K X.mg X.base CX0 k T.f_Wedge_rmul T.d_Wedge_rmul ["self", "k"] sp) (hr : Room k X.A) (hK : X.K = K := by rfl) : OpR X (binaryOp .Mult) (rIOw T.C_Wedge sp E0) := by
  subst hK
  exact op_IOw (g := T.f_Wedge_mul) ⟨T.sfW, by rw [d_rmul']; exact T.a_Wedge_rmul.at_, T.a_Wedge_rmul.fn⟩ (by rw [d_mul']; exact T.a_Wedge_mul.at_) T.sC F hr T.b_Wedge_rmul pass0
def spLaw (K : PySem.W.Frag) : Sp := fun vs H Q _ => ∃ (a : Addr) (ns : List Int), vs = [.ref a] ∧ SqL K H a (ns.map V.int) ∧ ns.length ≤ 63 ∧ ∀ H', Q (.bl true) H'
-- [0=_law_script, 1=_law_bag_here, 2=_law_lap, 3=_law_table, 4=_law_row, 5=_law_many*, 6=_law_due, 7=_law_mine, 8=_law_primes*, 9=_law_matrix*, 10=_law_places_here*, 11=_law_square_here, 12=_law_one, 13=_law_p, 14=_law_q]
set_option maxHeartbeats 1000000 in
theorem ok_law (T : Tx K mg) : FnOk P w K mg base CX0 7 T.f_law T.d_law ["_law_script"] (spLaw K) := by
  have G_l_bag := ok_bag (P := P) (w := w) (base := base) T
  have G_l_numbers := ok_numbers (P := P) (w := w) (base := base) T
  have G_l_bit_row := ok_bitrow (P := P) (w := w) (base := base) T
  have G_l_of := ok_of (P := P) (w := w) (base := base) T
  have G_l_anchor := ok_lanchor (P := P) (w := w) (base := base) T
  have G_anchor_of := ok_anchor (P := P) (w := w) (base := base) T
  have G_l_like := ok_like (P := P) (w := w) (base := base) T 3
  have G_Wedge_owed := ok_owed (P := P) (w := w) (base := base) T
  have G_Wedge_flat := ok_flat (P := P) (w := w) (base := base) T
  have G_l_square := ok_lsquare (P := P) (w := w) (base := base) T
  have G_square_at := ok_square (P := P) (w := w) (base := base) T
  have G_determinant := ok_det (P := P) (w := w) (base := base) T
  have G_l_determinant := ok_ldet (P := P) (w := w) (base := base) T
  have G_Wedge_pairs := ok_pairs (P := P) (w := w) (base := base) T
  have G_Wedge_init := ok_init (P := P) (w := w) (base := base) T
  have G_Wedge_neg := ok_neg (P := P) (w := w) (base := base) T
  have G_Wedge_mul := ok_mul (P := P) (w := w) (base := base) T
  have G_Wedge_rmul := ok_rmul (P := P) (w := w) (base := base) T
  refine T.F_law.ok sc_law (fun vs H Q E h => ?_) (fun cdv A outer s H vs Q E hr h => ?_)
  · obtain ⟨a, ns, rfl, _⟩ := h
    rfl
  obtain ⟨a, ns, rfl, hS, h63, q⟩ := h
  have nd := sc_law.nd
  refine ⟨_, (pss_cons (ps_set (i := 1) nd rfl (Or.inl rfl) (pe_call G_l_bag (hr.mono (by decide)) (by rfl) T.m_l_bag T.F_l_bag.kp T.b_l_bag .nil pass0 (pa_cons (pv 0) pa_nil)))
    (pss_cons (ps_for PassesOwn.never rfl (pi_range1 (by rfl) T.z_range (pa_cons pe_int pa_nil)) (pg_name (i := 2) nd rfl (Or.inl rfl)) (pss_cons (ps_par (i := 3) (j := 4) rfl nd rfl rfl (by decide) rfl rfl (pa_cons (pe_call G_l_numbers (hr.mono (by decide)) (by rfl) T.m_l_numbers T.F_l_numbers.kp T.b_l_numbers .nil pass0 (pa_cons (pv 1) (pa_cons pe_int pa_nil))) (pa_cons (pe_call G_l_bit_row (hr.mono (by decide)) (by rfl) T.m_l_bit_row T.F_l_bit_row.kp T.b_l_bit_row .nil pass0 (pa_cons (pv 1) pa_nil)) pa_nil)) rfl)
    (pss_cons (ps_set (i := 5) nd rfl (Or.inr rfl) (pe_call G_l_of (hr.mono (by decide)) (by rfl) T.m_l_of T.F_l_of.kp T.b_l_of .nil pass0 (pa_cons (pv 1) (pa_cons (pe_lst (pa_cons pe_int (pa_cons (pe_un un_neg pe_int) (pa_cons pe_int (pa_cons (pe_op op_pow pe_int pe_int) pa_nil))))) pa_nil))))
    (pss_cons (ps_setLc (i := 3) (own := [("_law_one", 12)]) (g := (gName 12)) rfl nd rfl rfl (sw_true rfl rfl rfl (by decide +kernel)) (show PI _ _ _ (iList K _) from pi_list (pv 3)) (blkOk_by (own := [("_law_one", 12)]) (N := N_law) (sc := defScope s_law) (by decide +kernel)) (fun _ _ _ _ _ => by exact (pg_name (i := 12) nd rfl (Or.inl rfl))) (fun _ _ _ _ _ => by exact pts_nil) (fun _ _ _ _ _ => by exact (pe_op op_mul (pv 5) (pv 12))))
    (pss_cons (ps_par (i := 6) (j := 7) rfl nd rfl rfl (by decide) rfl rfl (pa_cons (pe_call G_l_anchor hr (by rfl) T.m_l_anchor T.F_l_anchor.kp T.b_l_anchor .nil pass0 (pa_cons (pv 3) pa_nil)) (pa_cons (pe_make T.k_Wedge G_Wedge_init (hr.mono (by decide)) (by rfl) T.g_Wedge T.b_Wedge_init .nil pass0 (pa_cons (pv 3) (pa_cons (pv 4) pa_nil))) pa_nil)) rfl)
    (pss_cons (ps_if (PW.pt (pw_or (pt_not (pt_val (pe_call G_l_like (hr.mono (by decide)) (by rfl) T.m_l_like T.F_l_like.kp T.b_l_like .nil pass0 (pa_cons (pe_call G_anchor_of hr (by rfl) T.m_anchor_of T.F_anchor_of.kp T.b_anchor_of .nil pass0 (pa_cons (pv 7) pa_nil)) (pa_cons (pv 6) pa_nil))))) (pw_or1 (pt_not (pt_val (pe_call G_l_like (hr.mono (by decide)) (by rfl) T.m_l_like T.F_l_like.kp T.b_l_like .nil pass0 (pa_cons (pe_callK0 G_anchor_of hr (by rfl) T.m_anchor_of T.F_anchor_of.kp T.kb_anchor_of pass0 (pk_cons (pe_un (un_ow T.a_Wedge_neg.at_ T.a_Wedge_neg.fn G_Wedge_neg (hr.mono (by decide)) T.b_Wedge_neg pass0) (pv 7)) pk_nil)) (pa_cons (pv 6) pa_nil)))))))) (pss_one (ps_ret pe_bl)) pss_nil)
    (pss_cons (ps_if (PW.pt (pw_or (pt_not (pt_val (pe_call G_l_like (hr.mono (by decide)) (by rfl) T.m_l_like T.F_l_like.kp T.b_l_like .nil pass0 (pa_cons (pe_call G_anchor_of hr (by rfl) T.m_anchor_of T.F_anchor_of.kp T.b_anchor_of .nil pass0 (pa_cons (pe_op (o_rmulI T G_Wedge_rmul (hr.mono (by decide))) pe_int (pv 7)) pa_nil)) (pa_cons (pv 6) pa_nil))))) (pw_or1 (pt_not (pt_val (pe_call G_l_like (hr.mono (by decide)) (by rfl) T.m_l_like T.F_l_like.kp T.b_l_like .nil pass0 (pa_cons (pe_call G_anchor_of hr (by rfl) T.m_anchor_of T.F_anchor_of.kp T.b_anchor_of .nil pass0 (pa_cons (pv 7) pa_nil)) (pa_cons (pv 6) pa_nil)))))))) (pss_one (ps_ret pe_bl)) pss_nil)
    (pss_cons (ps_if (PW.pt (pw_or (pt_not (pt_val (pe_call G_l_like (hr.mono (by decide)) (by rfl) T.m_l_like T.F_l_like.kp T.b_l_like .nil pass0 (pa_cons (pe_prop (pv 7) T.c_Wedge T.P_Wedge_owed G_Wedge_owed (hr.mono (by decide)) T.b_Wedge_owed .nil pass0 rfl) (pa_cons (pe_op op_fdivN (pe_callB (show CallR _ _ (rLenSq K) from call_len_seq) (by rfl) T.z_len (by decide +kernel) (pa_cons (pv 6) pa_nil)) pe_int) pa_nil))))) (pw_or1 (pt_not (pt_val (pe_call G_l_like (hr.mono (by decide)) (by rfl) T.m_l_like T.F_l_like.kp T.b_l_like .nil pass0 (pa_cons (pe_prop (pv 7) T.c_Wedge T.P_Wedge_flat G_Wedge_flat (hr.mono (by decide)) T.b_Wedge_flat .nil pass0 rfl) (pa_cons (pe_cmpR (show OpR _ _ (rEqD K) from op_eqD hr.units) (pv 6) (pe_tup pa_nil) (nomark _)) pa_nil)))))))) (pss_one (ps_ret pe_bl)) pss_nil)
    (pss_cons (ps_set (i := 8) nd rfl (Or.inr rfl) (pe_lst (pa_cons pe_int (pa_cons pe_int (pa_cons pe_int (pa_cons pe_int (pa_cons pe_int (pa_cons pe_int pa_nil))))))))
    (pss_cons (ps_asg (pe_tup (pa_cons (pe_call G_l_square (hr.mono (by decide)) (by rfl) T.m_l_square T.F_l_square.kp T.b_l_square .nil pass0 (pa_cons (pv 3) pa_nil)) (pa_cons (pe_lc (own := [("_law_one", 12)]) (g := (gName 12)) rfl nd (show PI _ _ _ (iTup K _) from pi_tup (pv 6)) (blkOk_by (own := [("_law_one", 12)]) (N := N_law) (sc := defScope s_law) (by decide +kernel)) (fun _ _ _ _ _ => by exact (pg_name (i := 12) nd rfl (Or.inl rfl))) (fun _ _ _ _ _ => by exact pts_nil) (fun _ _ _ _ _ => by exact (show PE _ _ (tBM K "list" (rIndex K) (tVar 8) (tCons (tVar 12) tNil)) from pe_bm PySem.F.plainAttrs_list PySem.F.slot_list_index PySem.F.type_list_index mt_index (pv 8) (pa_cons (pv 12) pa_nil)))) pa_nil))) (pg_tup rfl (pgs_cons (pg_name (i := 9) nd rfl (Or.inr rfl)) (pgs_cons (pg_name (i := 10) nd rfl (Or.inr rfl)) pgs_nil))))
    (pss_cons (ps_setLc (i := 11) (own := [("_law_p", 13)]) (g := (gName 13)) rfl nd rfl rfl (sw_true rfl rfl rfl (by decide +kernel)) (show PI _ _ _ (iList K _) from pi_list (pv 10)) (blkOk_by (own := [("_law_p", 13)]) (N := N_law) (sc := defScope s_law) (by decide +kernel)) (fun _ _ _ _ _ => by exact (pg_name (i := 13) nd rfl (Or.inr rfl))) (fun _ _ _ _ _ => by exact pts_nil) (fun _ _ _ _ _ => by exact (pe_lc (own := [("_law_q", 14)]) (g := (gName 14)) rfl nd (show PI _ _ _ (iList K _) from pi_list (pv 10)) (show BlkOk N_law { kind := .function, names := [(".0", .local), ("_law_p", .cell), ("_law_matrix", .cell), ("_law_places_here", .cell)], isGenerator := false, isCoroutine := false } { kind := .function, names := [(".0", .local), ("_law_q", .local), ("_law_matrix", .free), ("_law_p", .free)], isGenerator := false, isCoroutine := false } [("_law_q", 14)] from blkOk_by (by decide +kernel)) (fun _ _ _ _ _ => by exact (pg_name (i := 14) nd rfl (Or.inl rfl))) (fun _ _ _ _ _ => by exact pts_nil) (fun _ _ _ _ _ => by exact (pe_ix (show IxR _ (rIxL K) from ix_list) (pe_ix (show IxR _ (rIxL K) from ix_list) (pv 9) (pv 13) (fun _ _ => rfl)) (pv 14) (fun _ _ => rfl))))))
    (pss_cons (ps_if (pt_not (pt_val (pe_call G_l_like (hr.mono (by decide)) (by rfl) T.m_l_like T.F_l_like.kp T.b_l_like .nil pass0 (pa_cons (pe_call G_square_at (hr.mono (by decide)) (by rfl) T.m_square_at T.F_square_at.kp T.b_square_at .nil pass0 (pa_cons (pv 7) (pa_cons (pe_callTy (show CallR _ _ (rListOf K) from call_list_of) (by rfl) T.z_list (by decide +kernel) (pa_cons (pv 6) pa_nil)) pa_nil))) (pa_cons (pv 11) pa_nil))))) (pss_one (ps_ret pe_bl)) pss_nil)
    (pss_cons (ps_if (PW.pt (pw_or (pt_not (pt_val (pe_call G_l_like (hr.mono (by decide)) (by rfl) T.m_l_like T.F_l_like.kp T.b_l_like .nil pass0 (pa_cons (pe_call G_determinant (hr.mono (by decide)) (by rfl) T.m_determinant T.F_determinant.kp T.b_determinant .nil pass0 (pa_cons (pv 11) pa_nil)) (pa_cons (pe_call G_l_determinant (hr.mono (by decide)) (by rfl) T.m_l_determinant T.F_l_determinant.kp T.b_l_determinant .nil pass0 (pa_cons (pv 11) pa_nil)) pa_nil))))) (pw_or1 (pt_cmpR op_eq (pe_call G_determinant (hr.mono (by decide)) (by rfl) T.m_determinant T.F_determinant.kp T.b_determinant .nil pass0 (pa_cons (pv 11) pa_nil)) pe_int (nomark _))))) (pss_one (ps_ret pe_bl)) pss_nil)
    (pss_one (ps_if (PW.pt (pw_or (pt_not (pt_val (pe_call G_l_like (hr.mono (by decide)) (by rfl) T.m_l_like T.F_l_like.kp T.b_l_like .nil pass0 (pa_cons (pe_call G_anchor_of hr (by rfl) T.m_anchor_of T.F_anchor_of.kp T.b_anchor_of .nil pass0 (pa_cons (pe_op (o_mulI T G_Wedge_mul (hr.mono (by decide))) (pv 7) pe_int) pa_nil)) (pa_cons (pe_tup pa_nil) pa_nil))))) (pw_or1 (pt_not (pt_val (pe_call G_l_like (hr.mono (by decide)) (by rfl) T.m_l_like T.F_l_like.kp T.b_l_like .nil pass0 (pa_cons (pe_meth0 (pv 7) T.c_Wedge T.a_Wedge_pairs G_Wedge_pairs (hr.mono (by decide)) T.b_Wedge_pairs .nil pass0) (pa_cons (pe_callTy (show CallR _ _ (rTup1 K) from call_tup1) (by rfl) T.z_tuple (by decide +kernel) (pa_cons (pv 3) pa_nil)) pa_nil)))))))) (pss_one (ps_ret pe_bl)) pss_nil)))))))))))))))
    (pss_one (ps_ret pe_bl)))), ?_⟩
  refine ⟨_, rfl, a, ns, rfl, hS, h63, fun B H1 s1 hB1 _ => ?_⟩
  refine ⟨3, rfl, by decide, by decide, for_it (walk_range (lo := 0) (n := 3)) (fun i σ H' => (∃ a2 a3 a4 a5 a6 a7 a8 a9 a10 a11 a12 a13 a14, σ = [some (.ref a), some (.ref B.b), a2, a3, a4, a5, a6, a7, a8, a9, a10, a11, a12, a13, a14]) ∧ Bag B H') ⟨⟨_, _, _, _, _, _, _, _, _, _, _, _, _, rfl⟩, hB1⟩ (fun _ _ _ _ _ => trivial) ?_ ?_⟩
  · clear hB1 s1
    rintro i v σ H3 H4 hi ⟨⟨a2, a3, a4, a5, a6, a7, a8, a9, a10, a11, a12, a13, a14, rfl⟩, hB3⟩ ⟨rfl, rfl⟩
    refine ⟨_, rfl, B, rfl, hB3, fun N ps0 H5 hB5 kb5 hN0 hN hl hb => ?_⟩
    have nN := hB3.nb hN0
    refine ⟨_, rfl, B, rfl, hB5, fun R bs H6 hB6 kb6 hR0 hR hbl hbb => ?_⟩
    have nR := hB5.nb hR0
    refine ⟨_, _, rfl, ?_⟩
    refine ⟨_, rfl, _, rfl, _, _, rfl, rfl, ⟨by decide, by decide, by decide⟩, (by show 4 ≤ sizeLine; decide), fun p hp => ?_⟩
    have s7 := Same.new (o := .lst (([1, -1, 2, 10 ^ (20 : Int).toNat] : List Int).map V.int)) hp
    refine ⟨B, p, _, rfl, SqL.of upd_same, hB6.nb hp, (by show 0 < 4; decide), (by show 4 ≤ 1000; decide), hB6.new hp, fun j v H7 hv hB7 kb7 => ?_⟩
    obtain ⟨k, rfl, hk⟩ := pick_ints (R := fun u => u.natAbs ≤ 10 ^ 20) (ns := [1, -1, 2, 10 ^ (20 : Int).toNat]) hv (by decide)
    have kb67 := (Kb.same s7).trans kb7
    have hN7 := (kb6.trans kb67) _ _ hN nN
    have hR7 := kb67 _ _ hR nR
    clear hv
    refine ⟨_, rfl, N, rfl, ⟨_, SqL.of hN7⟩, fun D hD => ?_⟩
    refine lc_mapL (f := fun u => k * u) (SqL.of hN7) (by omega) hD (fun u => rfl) (fun u H' kk hu hkk => ⟨_, rfl, _, rfl, k, u, rfl, rfl, .inr (by have := hb u hu; constructor <;> omega), hkk⟩) fun H8 s8 hD8 => ?_
    have hpl : (ps0.map fun u => k * u).length = 15 := by rw [List.length_map, hl]
    have hpb : ∀ u ∈ ps0.map fun u => k * u, u.natAbs < 2 ^ 90 := fun u hu => by
      obtain ⟨v, hv, rfl⟩ := List.mem_map.mp hu
      rw [Int.natAbs_mul]
      exact Nat.lt_of_le_of_lt (Nat.mul_le_mul hk (hb v hv)) (by decide)
    generalize ps0.map (fun u => k * u) = ps at *
    have hpb100 : ∀ u ∈ ps, u.natAbs < 2 ^ 100 := fun u hu => Nat.lt_trans (hpb u hu) (by decide)
    have hok : WOk (ps, bs) := ⟨hpl, hbl, hbb⟩
    have hR8 := s8 _ _ hR7
    have hB8 := hB7.same s8
    clear hN7 hR7 hB7 s8 hD kb67 kb7 s7 hp kb6 kb5 hb hN hl hN0 hR hR0
    refine ⟨_, rfl, D, ps, rfl, SqL.of hD8, hpl, hpb100, fun due H9 s9 hdue => ?_⟩
    refine ew_make (wd := (ps, bs)) (i := 3) (j := 4) rfl rfl (SqL.of (s9 _ _ hD8)) (SqL.of (s9 _ _ hR8)) hok H9 (Same.refl _) _ fun x H10 s10 hx => ?_
    refine ⟨_, _, rfl, ?_⟩
    have hdI : SqT K H10 due ((dueI ps).map V.int) := by
      rw [dueI, ← sq_due]
      exact seqT s10 hdue
    have hdue10 := seqT s10 hdue
    have hdz : (dueI ps).length ≤ 1000 := by
      rw [due_len]
      have := ow_le (gW ps)
      omega
    have hrk : RkOk (ps, bs) := hpb100
    have hrkn : RkOk (negW (ps, bs)) := fun u hu => by
      obtain ⟨v, hv, rfl⟩ := List.mem_map.mp hu
      rw [Int.natAbs_neg]
      exact hpb100 v hv
    have hrk3 : RkOk (mulW 3 (ps, bs)) := fun u hu => by
      obtain ⟨v, hv, rfl⟩ := List.mem_map.mp hu
      rw [Int.natAbs_mul]
      exact Nat.lt_of_lt_of_le (Nat.mul_lt_mul_of_le_of_lt (Nat.le_refl 3) (hpb v hv) (by decide)) (by decide)
    have hrk0 : RkOk (mulW 0 (ps, bs)) := fun u hu => by
      obtain ⟨v, hv, rfl⟩ := List.mem_map.mp hu
      rw [Int.zero_mul]
      exact Nat.pow_pos (by decide)
    have hs3 : Small 3 (ps, bs) := fun u hu => wide_mul (a := 2) (b := 90) (by decide) (hpb u hu) (by decide) (by decide) (by decide)
    have hs0 : Small 0 (ps, bs) := fun u hu => wide_mul (a := 2) (b := 90) (by decide) (hpb u hu) (by decide) (by decide) (by decide)
    have sA := s9.trans s10
    have hDA := sA _ _ hD8
    have hBA := hB8.same sA
    refine if_so2 (eb_likeT (et_anchor T (ew_var rfl hx) hrk rfl) (et_var rfl hdI) hdz) (eb_likeT (et_anchorK T (ew_neg (ew_var rfl hx)) hrkn (due_neg ps)) (et_var rfl hdI) hdz) fun H11 s11 => ?_
    refine if_so2 (eb_likeT (et_anchor T (ew_rmul ei_c (ew_var rfl (hx.same s11)) hs3) hrk3 (due_mul (by decide) ps)) (et_var rfl (seqT s11 hdI)) hdz) (eb_likeT (et_anchor T (ew_var rfl (hx.same s11)) hrk rfl) (et_var rfl (seqT s11 hdI)) hdz) fun H12 s12 => ?_
    have sB := s11.trans s12
    have hwl : ((dueI ps).map V.int).length = 2 * ow (gW ps) := by rw [List.length_map, due_len]
    refine if_so2 (eb_third (x := (ps, bs)) rfl rfl (hx.same sB) hrk (seqT sB hdI)) (eb_fourth (x := (ps, bs)) rfl rfl (hx.same sB) (seqT sB hdI)) fun H13 s13 => ?_
    have sC := sB.trans s13
    refine ⟨by show 6 ≤ sizeLine; decide, fun Pr hPr => ?_⟩
    have s14 := Same.new (o := .lst (prm.map V.int)) hPr
    have hPr14 : (upd H13 Pr (.lst (prm.map V.int))) Pr = some (.lst (prm.map V.int)) := upd_same
    have s10_14 := sC.trans s14
    dsimp only [prm, List.map] at s14 hPr14 s10_14
    generalize upd H13 Pr (.lst [.int 2, .int 3, .int 5, .int 7, .int 11, .int 13]) = H14 at *
    have hLm := anch_in (gW ps)
    obtain ⟨hLl, hL6⟩ := ch_len (2 * ow (gW ps)) (by have := ow_le (gW ps); omega) _ hLm.1
    have ho4 := ow4 (gW ps)
    have hdue14 := seqT s10_14 hdue10
    refine ⟨_, rfl, D, ps, rfl, SqL.of (s10_14 _ _ hDA), hpl, fun Mt H15 s15 hM => ?_⟩
    refine ⟨_, rfl, due, rfl, ⟨_, seqT s15 hdue14⟩, fun D2 hD2 => ?_⟩
    refine lc_mapST (ys := natsV (anch (gW ps))) (seqT s15 hdue14) (by rw [natsV_len, List.length_map]) (by rw [List.length_map, hLl]; omega) hD2 (fun u => rfl) (fun j u y H16 kk hu hy s16 hkk => ?_) fun H16 s16 hD16 => ?_
    · obtain ⟨qq, hq, rfl⟩ := natsV_at hy
      rw [List.getElem?_map, hq] at hu
      obtain rfl := Option.some.inj hu
      have hPr16 := s16 _ _ (s15 _ _ hPr14)
      obtain ⟨i1, i2, i3⟩ := prm_idx qq (hL6 _ (List.mem_of_getElem? hq))
      exact ⟨_, rfl, .inl ⟨rfl, _, SqL.of hPr16⟩, _, rfl, Pr, prm.map V.int, _, qq, _, rfl, rfl, SqL.of hPr16, rfl, by decide, i1, i2, i3, hkk _ (Same.refl _)⟩
    refine ⟨by show 2 ≤ sizeLine; decide, fun tt htt => ?_⟩
    have s17 := Same.new (o := .tup [.ref Mt, .ref D2]) htt
    refine ⟨tt, _, rfl, SqT.of upd_same, rfl, _, _, rfl, _, _, rfl, rfl, ?_⟩
    have hD17 := s17 _ _ hD16
    have hM17 := (hM.same s16).same s17
    have s10_17 := ((s10_14.trans s15).trans s16).trans s17
    generalize upd H16 tt (.tup [.ref Mt, .ref D2]) = H17 at *
    have hL100 : (anch (gW ps)).length ≤ 100 := by omega
    dsimp only [List.set_cons_succ, List.set_cons_zero]
    refine ⟨_, rfl, D2, rfl, ⟨_, SqL.of hD17⟩, fun D3 hD3 => ?_⟩
    refine sq_goal hM17 (by rw [wmat, wmatN_len]) (wmatN_row _ _) hL6 hL100 (SqL.of hD17) hD3 (fun u => rfl) (fun pp H18 kk hp s18 hkk => ?_) fun H18 s18 hM18 => ?_
    · obtain ⟨rsM, g1, g2⟩ := (hM17.same s18).ex
      have hD18 := s18 _ _ hD17
      refine ⟨_, rfl, D2, rfl, ⟨_, SqL.of hD18⟩, fun D4 hD4 => ?_⟩
      refine lc_mapSL (ys := ((anch (gW ps)).map fun qq => cell (wmat ps) pp qq).map V.int) (SqL.of hD18) (by rw [natsV_len, List.length_map, List.length_map]) (by rw [natsV_len]; omega) hD4 (fun u => rfl) (fun j u y H19 k3 hu hy s19 hk3 => ?_) fun H19 s19 hD19 => hkk D4 H19 s19 (fun zs hzs => (ne_of_none hzs hD4).symm) hD19
      obtain ⟨qq, hq, rfl⟩ := natsV_at hu
      rw [List.getElem?_map, List.getElem?_map, hq] at hy
      obtain rfl := Option.some.inj hy
      exact ev_cellN (s19 _ _ g1) (g2.same s19) (by rw [wmat, wmatN_len]) (wmatN_row _ _) (hL6 _ hp) (hL6 _ (List.mem_of_getElem? hq)) rfl rfl rfl (hk3 _ (Same.refl _))
    have s10_18 := s10_17.trans s18
    have hMr : RowsW (subG (wmat ps) (anch (gW ps))).length (subG (wmat ps) (anch (gW ps))) := sub_rows6 _ _
    have hMe : Ent 100 (subG (wmat ps) (anch (gW ps))) := sub_ent (wmat_ent hpb100 15)
    have hMl : (subG (wmat ps) (anch (gW ps))).length ≤ 6 := by
      rw [subG, List.length_map]
      omega
    have hMw : ∀ row ∈ subG (wmat ps) (anch (gW ps)), row.length ≤ 6 := fun row hr => by
      rw [hMr row hr]
      exact hMl
    have hnz : detV (subG (wmat ps) (anch (gW ps))) ≠ 0 := by
      rw [wmat_gW hpl]
      have h1 := det_pf (gW_skew ps) ho4 hLm.1
      rw [bne_iff_ne.mpr hLm.2] at h1
      exact bne_iff_ne.mp h1
    refine if_so (eb_likeM (em_sqat (E := E0) (x := (ps, bs)) (ew_var rfl (hx.same s10_18)) rfl (seqT s10_18 hdue10) hL6 hL100) (em_var rfl hM18) hMl hMw) fun H19 s19 => ?_
    refine if_det2 rfl (hM18.same s19) hMr hMe hMl hnz fun H20 s20 => ?_
    have s10_20 := (s10_18.trans s19).trans s20
    refine if_last2 T (x := (ps, bs)) rfl rfl (hx.same s10_20) (SqL.of (s10_20 _ _ hDA)) hs0 hrk0 fun H21 s21 => ?_
    exact ⟨⟨_, _, _, _, _, _, _, _, _, _, _, _, _, rfl⟩, hBA.same (s10_20.trans s21)⟩
  · rintro σ' H' ⟨⟨a2, a3, a4, a5, a6, a7, a8, a9, a10, a11, a12, a13, a14, rfl⟩, hB'⟩
    exact q H'
end
end TL.W
namespace TL.W
open TL
open PySem L2
/-! ### the end -/
def TupO (o : Obj) (xs : List V) : Prop := ∃ (its : Array Value) (n : Nat), o.cls = .type "tuple" ∧ o.data = .seq its n ∧ its.size ≤ sizeLine ∧ Vals xs its.toList
theorem tupO_sq {K : PySem.W.Frag} {H : Hp} {a : Addr} {o : Obj} {xs : List V} (l : K.lookup a = some o) (v : TupO o xs) : SqT K H a xs := by
  obtain ⟨its, n, h1, h2, h3, h4⟩ := v
  exact .inr ⟨o, its, n, l, h1, h2, h3, h4⟩
set_option maxHeartbeats 0 in
theorem all_mk {P : Program} {w : World} {K : PySem.W.Frag} {h : Heap} {mg : Str → Option Value} {fa : Addr} {C_Wedge : Addr} {e_PRIMES : Addr} {o_PRIMES : Obj} {e_PAIRS : Addr} {o_PAIRS : Obj} {ap0 : Addr} {op0 : Obj} {ap1 : Addr} {op1 : Obj} {ap2 : Addr} {op2 : Obj} {ap3 : Addr} {op3 : Obj} {ap4 : Addr} {op4 : Obj} {ap5 : Addr} {op5 : Obj} {ap6 : Addr} {op6 : Obj} {ap7 : Addr} {op7 : Obj} {ap8 : Addr} {op8 : Obj} {ap9 : Addr} {op9 : Obj} {ap10 : Addr} {op10 : Obj} {ap11 : Addr} {op11 : Obj} {ap12 : Addr} {op12 : Obj} {ap13 : Addr} {op13 : Obj} {ap14 : Addr} {op14 : Obj} {f1 : Addr} {od1 an1 : Option Addr} {sl1 : Array (Option Value)} {oc1 kV1 dc1 pm1 cd1 ct1 : Value} {f2 : Addr} {od2 an2 : Option Addr} {sl2 : Array (Option Value)} {oc2 kV2 dc2 pm2 cd2 ct2 : Value} {f3 : Addr} {od3 an3 : Option Addr} {sl3 : Array (Option Value)} {oc3 kV3 dc3 pm3 cd3 ct3 : Value} {f4 : Addr} {od4 an4 : Option Addr} {sl4 : Array (Option Value)} {oc4 kV4 dc4 pm4 cd4 ct4 : Value} {f5 : Addr} {od5 an5 : Option Addr} {sl5 : Array (Option Value)} {oc5 kV5 dc5 pm5 cd5 ct5 : Value} {f6 : Addr} {od6 an6 : Option Addr} {sl6 : Array (Option Value)} {oc6 kV6 dc6 pm6 cd6 ct6 : Value} {f7 : Addr} {od7 an7 : Option Addr} {sl7 : Array (Option Value)} {oc7 kV7 dc7 pm7 cd7 ct7 : Value} {f8 : Addr} {od8 an8 : Option Addr} {sl8 : Array (Option Value)} {oc8 kV8 dc8 pm8 cd8 ct8 : Value} {f9 : Addr} {od9 an9 : Option Addr} {sl9 : Array (Option Value)} {oc9 kV9 dc9 pm9 cd9 ct9 : Value} {dT9 : Addr} {oT9 : Obj} {e_bits : Addr} {o_bits : Obj} {f10 : Addr} {od10 an10 : Option Addr} {sl10 : Array (Option Value)} {oc10 kV10 dc10 pm10 cd10 ct10 : Value} {f11 : Addr} {od11 an11 : Option Addr} {sl11 : Array (Option Value)} {oc11 kV11 dc11 pm11 cd11 ct11 : Value} {f12 : Addr} {od12 an12 : Option Addr} {sl12 : Array (Option Value)} {oc12 kV12 dc12 pm12 cd12 ct12 : Value} {p12 : Addr} {rs12 : List Value} {f13 : Addr} {od13 an13 : Option Addr} {sl13 : Array (Option Value)} {oc13 kV13 dc13 pm13 cd13 ct13 : Value} {p13 : Addr} {rs13 : List Value} {f14 : Addr} {od14 an14 : Option Addr} {sl14 : Array (Option Value)} {oc14 kV14 dc14 pm14 cd14 ct14 : Value} {p14 : Addr} {rs14 : List Value} {f15 : Addr} {od15 an15 : Option Addr} {sl15 : Array (Option Value)} {oc15 kV15 dc15 pm15 cd15 ct15 : Value} {f16 : Addr} {od16 an16 : Option Addr} {sl16 : Array (Option Value)} {oc16 kV16 dc16 pm16 cd16 ct16 : Value} {f17 : Addr} {od17 an17 : Option Addr} {sl17 : Array (Option Value)} {oc17 kV17 dc17 pm17 cd17 ct17 : Value} {f18 : Addr} {od18 an18 : Option Addr} {sl18 : Array (Option Value)} {oc18 kV18 dc18 pm18 cd18 ct18 : Value} {f19 : Addr} {od19 an19 : Option Addr} {sl19 : Array (Option Value)} {oc19 kV19 dc19 pm19 cd19 ct19 : Value} {f20 : Addr} {od20 an20 : Option Addr} {sl20 : Array (Option Value)} {oc20 kV20 dc20 pm20 cd20 ct20 : Value} {f21 : Addr} {od21 an21 : Option Addr} {sl21 : Array (Option Value)} {oc21 kV21 dc21 pm21 cd21 ct21 : Value} {f22 : Addr} {od22 an22 : Option Addr} {sl22 : Array (Option Value)} {oc22 kV22 dc22 pm22 cd22 ct22 : Value} {f23 : Addr} {od23 an23 : Option Addr} {sl23 : Array (Option Value)} {oc23 kV23 dc23 pm23 cd23 ct23 : Value} {f24 : Addr} {od24 an24 : Option Addr} {sl24 : Array (Option Value)} {oc24 kV24 dc24 pm24 cd24 ct24 : Value} {f25 : Addr} {od25 an25 : Option Addr} {sl25 : Array (Option Value)} {oc25 kV25 dc25 pm25 cd25 ct25 : Value} {f26 : Addr} {od26 an26 : Option Addr} {sl26 : Array (Option Value)} {oc26 kV26 dc26 pm26 cd26 ct26 : Value} {f27 : Addr} {od27 an27 : Option Addr} {sl27 : Array (Option Value)} {oc27 kV27 dc27 pm27 cd27 ct27 : Value} {f28 : Addr} {od28 an28 : Option Addr} {sl28 : Array (Option Value)} {oc28 kV28 dc28 pm28 cd28 ct28 : Value} {f29 : Addr} {od29 an29 : Option Addr} {sl29 : Array (Option Value)} {oc29 kV29 dc29 pm29 cd29 ct29 : Value} {f30 : Addr} {od30 an30 : Option Addr} {sl30 : Array (Option Value)} {oc30 kV30 dc30 pm30 cd30 ct30 : Value} {f31 : Addr} {od31 an31 : Option Addr} {sl31 : Array (Option Value)} {oc31 kV31 dc31 pm31 cd31 ct31 : Value} {f32 : Addr} {od32 an32 : Option Addr} {sl32 : Array (Option Value)} {oc32 kV32 dc32 pm32 cd32 ct32 : Value} {f33 : Addr} {od33 an33 : Option Addr} {sl33 : Array (Option Value)} {oc33 kV33 dc33 pm33 cd33 ct33 : Value} {f34 : Addr} {od34 an34 : Option Addr} {sl34 : Array (Option Value)} {oc34 kV34 dc34 pm34 cd34 ct34 : Value} {f35 : Addr} {od35 an35 : Option Addr} {sl35 : Array (Option Value)} {oc35 kV35 dc35 pm35 cd35 ct35 : Value} {f36 : Addr} {od36 an36 : Option Addr} {sl36 : Array (Option Value)} {oc36 kV36 dc36 pm36 cd36 ct36 : Value} {f37 : Addr} {od37 an37 : Option Addr} {sl37 : Array (Option Value)} {oc37 kV37 dc37 pm37 cd37 ct37 : Value} {x_iM : Option Value} {x_iR : Option Value} (X : K.In h) (G : h.Ns mainGlobals mg) (hfa : mg "law" = some (.ref fa))
    (z_str : PySem.W.nsIn K mainGlobals "str" = some none)
    (z_len : PySem.W.nsIn K mainGlobals "len" = some none)
    (z_int : PySem.W.nsIn K mainGlobals "int" = some none)
    (z_isinstance : PySem.W.nsIn K mainGlobals "isinstance" = some none)
    (z_list : PySem.W.nsIn K mainGlobals "list" = some none)
    (z_tuple : PySem.W.nsIn K mainGlobals "tuple" = some none)
    (z_bool : PySem.W.nsIn K mainGlobals "bool" = some none)
    (z_all : PySem.W.nsIn K mainGlobals "all" = some none)
    (z_any : PySem.W.nsIn K mainGlobals "any" = some none)
    (z_zip : PySem.W.nsIn K mainGlobals "zip" = some none)
    (z_range : PySem.W.nsIn K mainGlobals "range" = some none)
    (aC_Wedge : PySem.W.nsIn K mainGlobals "Wedge" = some (some (.ref C_Wedge)))
    (pg_Wedge : PySem.W.plainGet K C_Wedge Str.empty = true)
    (hd_Wedge : PySem.W.hasDictIn K C_Wedge = true)
    (po_Wedge : PySem.W.plainOver K C_Wedge = true)
    (sa_Wedge : PySem.W.findIn K (.ref C_Wedge) "__setattr__" = some (some (.builtin "object.__setattr__")))
    (n_Wedge_pairs : PySem.W.findIn K (.ref C_Wedge) "_pairs" = some none)
    (n_Wedge_bits : PySem.W.findIn K (.ref C_Wedge) "_bits" = some none)
    (ca_Wedge : PySem.W.findIn K (.ref C_Wedge) "__class__" = some (some (.builtin "object.__class__")))
    (cm_Wedge : PySem.W.mroIn K C_Wedge (.type "object") = some true)
    (cn_Wedge : PySem.W.specialIn K (.builtin "object.__class__") "__get__" = some (some (.builtin "getset_descriptor.__get__")))
    (ct_Wedge : PySem.W.takesIn K (.builtin "object.__class__") = some true)
    (aE_PRIMES : PySem.W.nsIn K mainGlobals "PRIMES" = some (some (.ref e_PRIMES)))
    (lE_PRIMES : K.lookup e_PRIMES = some o_PRIMES)
    (vE_PRIMES : TupO o_PRIMES [.int 2, .int 3, .int 5, .int 7, .int 11, .int 13])
    (gi_combinations : PySem.W.nsIn K mainGlobals "combinations" = some (some (.type "itertools.combinations")))
    (aE_PAIRS : PySem.W.nsIn K mainGlobals "PAIRS" = some (some (.ref e_PAIRS)))
    (lE_PAIRS : K.lookup e_PAIRS = some o_PAIRS)
    (vE_PAIRS : TupO o_PAIRS [V.ref ap0, V.ref ap1, V.ref ap2, V.ref ap3, V.ref ap4, V.ref ap5, V.ref ap6, V.ref ap7, V.ref ap8, V.ref ap9, V.ref ap10, V.ref ap11, V.ref ap12, V.ref ap13, V.ref ap14])
    (lP0 : K.lookup ap0 = some op0)
    (vP0 : TupO op0 [V.int 0, V.int 1])
    (lP1 : K.lookup ap1 = some op1)
    (vP1 : TupO op1 [V.int 0, V.int 2])
    (lP2 : K.lookup ap2 = some op2)
    (vP2 : TupO op2 [V.int 0, V.int 3])
    (lP3 : K.lookup ap3 = some op3)
    (vP3 : TupO op3 [V.int 0, V.int 4])
    (lP4 : K.lookup ap4 = some op4)
    (vP4 : TupO op4 [V.int 0, V.int 5])
    (lP5 : K.lookup ap5 = some op5)
    (vP5 : TupO op5 [V.int 1, V.int 2])
    (lP6 : K.lookup ap6 = some op6)
    (vP6 : TupO op6 [V.int 1, V.int 3])
    (lP7 : K.lookup ap7 = some op7)
    (vP7 : TupO op7 [V.int 1, V.int 4])
    (lP8 : K.lookup ap8 = some op8)
    (vP8 : TupO op8 [V.int 1, V.int 5])
    (lP9 : K.lookup ap9 = some op9)
    (vP9 : TupO op9 [V.int 2, V.int 3])
    (lP10 : K.lookup ap10 = some op10)
    (vP10 : TupO op10 [V.int 2, V.int 4])
    (lP11 : K.lookup ap11 = some op11)
    (vP11 : TupO op11 [V.int 2, V.int 5])
    (lP12 : K.lookup ap12 = some op12)
    (vP12 : TupO op12 [V.int 3, V.int 4])
    (lP13 : K.lookup ap13 = some op13)
    (vP13 : TupO op13 [V.int 3, V.int 5])
    (lP14 : K.lookup ap14 = some op14)
    (vP14 : TupO op14 [V.int 4, V.int 5])
    (tyE_PRIMES : o_PRIMES.cls = .type "tuple" ∧ o_PRIMES.dict = none)
    (a1 : PySem.W.nsIn K mainGlobals "is_number" = some (some (.ref f1)))
    (l1 : K.lookup f1 = some ⟨oc1, od1, .func (PySem.W.fnOf "is_number" "is_number" (defArgs s_is_number) (defBody s_is_number) (defScope s_is_number) .none kV1 dc1 pm1 an1 cd1 ct1), sl1⟩)
    (c1 : PySem.W.codeIn K cd1 "is_number" = true)
    (k1 : PySem.W.keepIn K (.ref f1) = true)
    (a2 : PySem.W.nsIn K mainGlobals "is_listed" = some (some (.ref f2)))
    (l2 : K.lookup f2 = some ⟨oc2, od2, .func (PySem.W.fnOf "is_listed" "is_listed" (defArgs s_is_listed) (defBody s_is_listed) (defScope s_is_listed) .none kV2 dc2 pm2 an2 cd2 ct2), sl2⟩)
    (c2 : PySem.W.codeIn K cd2 "is_listed" = true)
    (k2 : PySem.W.keepIn K (.ref f2) = true)
    (a3 : PySem.W.nsIn K mainGlobals "are_numbers" = some (some (.ref f3)))
    (l3 : K.lookup f3 = some ⟨oc3, od3, .func (PySem.W.fnOf "are_numbers" "are_numbers" (defArgs s_are_numbers) (defBody s_are_numbers) (defScope s_are_numbers) .none kV3 dc3 pm3 an3 cd3 ct3), sl3⟩)
    (c3 : PySem.W.codeIn K cd3 "are_numbers" = true)
    (k3 : PySem.W.keepIn K (.ref f3) = true)
    (a4 : PySem.W.nsIn K mainGlobals "are_bits" = some (some (.ref f4)))
    (l4 : K.lookup f4 = some ⟨oc4, od4, .func (PySem.W.fnOf "are_bits" "are_bits" (defArgs s_are_bits) (defBody s_are_bits) (defScope s_are_bits) .none kV4 dc4 pm4 an4 cd4 ct4), sl4⟩)
    (c4 : PySem.W.codeIn K cd4 "are_bits" = true)
    (k4 : PySem.W.keepIn K (.ref f4) = true)
    (a5 : PySem.W.nsIn K mainGlobals "_filled_from" = some (some (.ref f5)))
    (l5 : K.lookup f5 = some ⟨oc5, od5, .func (PySem.W.fnOf "_filled_from" "_filled_from" (defArgs s__filled_from) (defBody s__filled_from) (defScope s__filled_from) .none kV5 dc5 pm5 an5 cd5 ct5), sl5⟩)
    (c5 : PySem.W.codeIn K cd5 "_filled_from" = true)
    (k5 : PySem.W.keepIn K (.ref f5) = true)
    (a6 : PySem.W.nsIn K mainGlobals "_cleared" = some (some (.ref f6)))
    (l6 : K.lookup f6 = some ⟨oc6, od6, .func (PySem.W.fnOf "_cleared" "_cleared" (defArgs s__cleared) (defBody s__cleared) (defScope s__cleared) .none kV6 dc6 pm6 an6 cd6 ct6), sl6⟩)
    (c6 : PySem.W.codeIn K cd6 "_cleared" = true)
    (k6 : PySem.W.keepIn K (.ref f6) = true)
    (a7 : PySem.W.nsIn K mainGlobals "determinant" = some (some (.ref f7)))
    (l7 : K.lookup f7 = some ⟨oc7, od7, .func (PySem.W.fnOf "determinant" "determinant" (defArgs s_determinant) (defBody s_determinant) (defScope s_determinant) .none kV7 dc7 pm7 an7 cd7 ct7), sl7⟩)
    (c7 : PySem.W.codeIn K cd7 "determinant" = true)
    (k7 : PySem.W.keepIn K (.ref f7) = true)
    (a8 : PySem.W.nsIn K mainGlobals "rank_of" = some (some (.ref f8)))
    (l8 : K.lookup f8 = some ⟨oc8, od8, .func (PySem.W.fnOf "rank_of" "rank_of" (defArgs s_rank_of) (defBody s_rank_of) (defScope s_rank_of) .none kV8 dc8 pm8 an8 cd8 ct8), sl8⟩)
    (c8 : PySem.W.codeIn K cd8 "rank_of" = true)
    (k8 : PySem.W.keepIn K (.ref f8) = true)
    (a9 : PySem.W.findIn K (.ref C_Wedge) "__init__" = some (some (.ref f9)))
    (i9 : PySem.W.isFn K (.ref f9) = true)
    (l9 : K.lookup f9 = some ⟨oc9, od9, .func (PySem.W.fnOf "__init__" "Wedge.__init__" (defArgs s_Wedge_init) (defBody s_Wedge_init) (defScope s_Wedge_init) (.ref dT9) kV9 dc9 pm9 an9 cd9 ct9), sl9⟩)
    (c9 : PySem.W.codeIn K cd9 "Wedge.__init__" = true)
    (k9 : PySem.W.keepIn K (.ref f9) = true)
    (lT9 : K.lookup dT9 = some oT9)
    (vT9 : ∃ its n, oT9.data = .seq (List.toArray its) n ∧ Vals [V.ref e_bits] its)
    (lE_bits : K.lookup e_bits = some o_bits)
    (vE_bits : TupO o_bits [.int 0, .int 0, .int 0, .int 0, .int 0, .int 0])
    (mk_Wedge : PySem.W.makesIn K C_Wedge = true)
    (kc_Wedge : PySem.W.keepIn K (.ref C_Wedge) = true)
    (a10 : PySem.W.findIn K (.ref C_Wedge) "pairs" = some (some (.ref f10)))
    (i10 : PySem.W.isFn K (.ref f10) = true)
    (l10 : K.lookup f10 = some ⟨oc10, od10, .func (PySem.W.fnOf "pairs" "Wedge.pairs" (defArgs s_Wedge_pairs) (defBody s_Wedge_pairs) (defScope s_Wedge_pairs) .none kV10 dc10 pm10 an10 cd10 ct10), sl10⟩)
    (c10 : PySem.W.codeIn K cd10 "Wedge.pairs" = true)
    (k10 : PySem.W.keepIn K (.ref f10) = true)
    (a11 : PySem.W.findIn K (.ref C_Wedge) "matrix" = some (some (.ref f11)))
    (i11 : PySem.W.isFn K (.ref f11) = true)
    (l11 : K.lookup f11 = some ⟨oc11, od11, .func (PySem.W.fnOf "matrix" "Wedge.matrix" (defArgs s_Wedge_matrix) (defBody s_Wedge_matrix) (defScope s_Wedge_matrix) .none kV11 dc11 pm11 an11 cd11 ct11), sl11⟩)
    (c11 : PySem.W.codeIn K cd11 "Wedge.matrix" = true)
    (k11 : PySem.W.keepIn K (.ref f11) = true)
    (a12 : PySem.W.findIn K (.ref C_Wedge) "flat" = some (some (.ref p12)))
    (pg12 : PySem.W.specialIn K (.ref p12) "__get__" = some (some (.builtin "property.__get__")))
    (pt12 : PySem.W.takesIn K (.ref p12) = some true)
    (i12 : PySem.W.recIn K p12 "property" = some (.ref f12 :: rs12))
    (l12 : K.lookup f12 = some ⟨oc12, od12, .func (PySem.W.fnOf "flat" "Wedge.flat" (defArgs s_Wedge_flat) (defBody s_Wedge_flat) (defScope s_Wedge_flat) .none kV12 dc12 pm12 an12 cd12 ct12), sl12⟩)
    (c12 : PySem.W.codeIn K cd12 "Wedge.flat" = true)
    (k12 : PySem.W.keepIn K (.ref f12) = true)
    (a13 : PySem.W.findIn K (.ref C_Wedge) "rank" = some (some (.ref p13)))
    (pg13 : PySem.W.specialIn K (.ref p13) "__get__" = some (some (.builtin "property.__get__")))
    (pt13 : PySem.W.takesIn K (.ref p13) = some true)
    (i13 : PySem.W.recIn K p13 "property" = some (.ref f13 :: rs13))
    (l13 : K.lookup f13 = some ⟨oc13, od13, .func (PySem.W.fnOf "rank" "Wedge.rank" (defArgs s_Wedge_rank) (defBody s_Wedge_rank) (defScope s_Wedge_rank) .none kV13 dc13 pm13 an13 cd13 ct13), sl13⟩)
    (c13 : PySem.W.codeIn K cd13 "Wedge.rank" = true)
    (k13 : PySem.W.keepIn K (.ref f13) = true)
    (a14 : PySem.W.findIn K (.ref C_Wedge) "owed" = some (some (.ref p14)))
    (pg14 : PySem.W.specialIn K (.ref p14) "__get__" = some (some (.builtin "property.__get__")))
    (pt14 : PySem.W.takesIn K (.ref p14) = some true)
    (i14 : PySem.W.recIn K p14 "property" = some (.ref f14 :: rs14))
    (l14 : K.lookup f14 = some ⟨oc14, od14, .func (PySem.W.fnOf "owed" "Wedge.owed" (defArgs s_Wedge_owed) (defBody s_Wedge_owed) (defScope s_Wedge_owed) .none kV14 dc14 pm14 an14 cd14 ct14), sl14⟩)
    (c14 : PySem.W.codeIn K cd14 "Wedge.owed" = true)
    (k14 : PySem.W.keepIn K (.ref f14) = true)
    (a15 : PySem.W.findIn K (.ref C_Wedge) "__neg__" = some (some (.ref f15)))
    (i15 : PySem.W.isFn K (.ref f15) = true)
    (l15 : K.lookup f15 = some ⟨oc15, od15, .func (PySem.W.fnOf "__neg__" "Wedge.__neg__" (defArgs s_Wedge_neg) (defBody s_Wedge_neg) (defScope s_Wedge_neg) .none kV15 dc15 pm15 an15 cd15 ct15), sl15⟩)
    (c15 : PySem.W.codeIn K cd15 "Wedge.__neg__" = true)
    (k15 : PySem.W.keepIn K (.ref f15) = true)
    (a16 : PySem.W.findIn K (.ref C_Wedge) "__mul__" = some (some (.ref f16)))
    (i16 : PySem.W.isFn K (.ref f16) = true)
    (l16 : K.lookup f16 = some ⟨oc16, od16, .func (PySem.W.fnOf "__mul__" "Wedge.__mul__" (defArgs s_Wedge_mul) (defBody s_Wedge_mul) (defScope s_Wedge_mul) .none kV16 dc16 pm16 an16 cd16 ct16), sl16⟩)
    (c16 : PySem.W.codeIn K cd16 "Wedge.__mul__" = true)
    (k16 : PySem.W.keepIn K (.ref f16) = true)
    (a17 : PySem.W.findIn K (.ref C_Wedge) "__rmul__" = some (some (.ref f17)))
    (i17 : PySem.W.isFn K (.ref f17) = true)
    (l17 : K.lookup f17 = some ⟨oc17, od17, .func (PySem.W.fnOf "__rmul__" "Wedge.__rmul__" (defArgs s_Wedge_rmul) (defBody s_Wedge_rmul) (defScope s_Wedge_rmul) .none kV17 dc17 pm17 an17 cd17 ct17), sl17⟩)
    (c17 : PySem.W.codeIn K cd17 "Wedge.__rmul__" = true)
    (k17 : PySem.W.keepIn K (.ref f17) = true)
    (a18 : PySem.W.nsIn K mainGlobals "_place_of" = some (some (.ref f18)))
    (l18 : K.lookup f18 = some ⟨oc18, od18, .func (PySem.W.fnOf "_place_of" "_place_of" (defArgs s__place_of) (defBody s__place_of) (defScope s__place_of) .none kV18 dc18 pm18 an18 cd18 ct18), sl18⟩)
    (c18 : PySem.W.codeIn K cd18 "_place_of" = true)
    (k18 : PySem.W.keepIn K (.ref f18) = true)
    (a19 : PySem.W.nsIn K mainGlobals "square_at" = some (some (.ref f19)))
    (l19 : K.lookup f19 = some ⟨oc19, od19, .func (PySem.W.fnOf "square_at" "square_at" (defArgs s_square_at) (defBody s_square_at) (defScope s_square_at) .none kV19 dc19 pm19 an19 cd19 ct19), sl19⟩)
    (c19 : PySem.W.codeIn K cd19 "square_at" = true)
    (k19 : PySem.W.keepIn K (.ref f19) = true)
    (a20 : PySem.W.nsIn K mainGlobals "_first_anchor" = some (some (.ref f20)))
    (l20 : K.lookup f20 = some ⟨oc20, od20, .func (PySem.W.fnOf "_first_anchor" "_first_anchor" (defArgs s__first_anchor) (defBody s__first_anchor) (defScope s__first_anchor) .none kV20 dc20 pm20 an20 cd20 ct20), sl20⟩)
    (c20 : PySem.W.codeIn K cd20 "_first_anchor" = true)
    (k20 : PySem.W.keepIn K (.ref f20) = true)
    (a21 : PySem.W.nsIn K mainGlobals "anchor_of" = some (some (.ref f21)))
    (l21 : K.lookup f21 = some ⟨oc21, od21, .func (PySem.W.fnOf "anchor_of" "anchor_of" (defArgs s_anchor_of) (defBody s_anchor_of) (defScope s_anchor_of) .none kV21 dc21 pm21 an21 cd21 ct21), sl21⟩)
    (c21 : PySem.W.codeIn K cd21 "anchor_of" = true)
    (k21 : PySem.W.keepIn K (.ref f21) = true)
    (a22 : PySem.W.nsIn K mainGlobals "_law_bag" = some (some (.ref f22)))
    (l22 : K.lookup f22 = some ⟨oc22, od22, .func (PySem.W.fnOf "_law_bag" "_law_bag" (defArgs s_l_bag) (defBody s_l_bag) (defScope s_l_bag) .none kV22 dc22 pm22 an22 cd22 ct22), sl22⟩)
    (c22 : PySem.W.codeIn K cd22 "_law_bag" = true)
    (k22 : PySem.W.keepIn K (.ref f22) = true)
    (a23 : PySem.W.nsIn K mainGlobals "_law_draw" = some (some (.ref f23)))
    (l23 : K.lookup f23 = some ⟨oc23, od23, .func (PySem.W.fnOf "_law_draw" "_law_draw" (defArgs s_l_draw) (defBody s_l_draw) (defScope s_l_draw) .none kV23 dc23 pm23 an23 cd23 ct23), sl23⟩)
    (c23 : PySem.W.codeIn K cd23 "_law_draw" = true)
    (k23 : PySem.W.keepIn K (.ref f23) = true)
    (a24 : PySem.W.nsIn K mainGlobals "_law_of" = some (some (.ref f24)))
    (l24 : K.lookup f24 = some ⟨oc24, od24, .func (PySem.W.fnOf "_law_of" "_law_of" (defArgs s_l_of) (defBody s_l_of) (defScope s_l_of) .none kV24 dc24 pm24 an24 cd24 ct24), sl24⟩)
    (c24 : PySem.W.codeIn K cd24 "_law_of" = true)
    (k24 : PySem.W.keepIn K (.ref f24) = true)
    (a25 : PySem.W.nsIn K mainGlobals "_law_mixed" = some (some (.ref f25)))
    (l25 : K.lookup f25 = some ⟨oc25, od25, .func (PySem.W.fnOf "_law_mixed" "_law_mixed" (defArgs s_l_mixed) (defBody s_l_mixed) (defScope s_l_mixed) .none kV25 dc25 pm25 an25 cd25 ct25), sl25⟩)
    (c25 : PySem.W.codeIn K cd25 "_law_mixed" = true)
    (k25 : PySem.W.keepIn K (.ref f25) = true)
    (a26 : PySem.W.nsIn K mainGlobals "_law_like" = some (some (.ref f26)))
    (l26 : K.lookup f26 = some ⟨oc26, od26, .func (PySem.W.fnOf "_law_like" "_law_like" (defArgs s_l_like) (defBody s_l_like) (defScope s_l_like) .none kV26 dc26 pm26 an26 cd26 ct26), sl26⟩)
    (c26 : PySem.W.codeIn K cd26 "_law_like" = true)
    (k26 : PySem.W.keepIn K (.ref f26) = true)
    (a27 : PySem.W.nsIn K mainGlobals "_law_places" = some (some (.ref f27)))
    (l27 : K.lookup f27 = some ⟨oc27, od27, .func (PySem.W.fnOf "_law_places" "_law_places" (defArgs s_l_places) (defBody s_l_places) (defScope s_l_places) .none kV27 dc27 pm27 an27 cd27 ct27), sl27⟩)
    (c27 : PySem.W.codeIn K cd27 "_law_places" = true)
    (k27 : PySem.W.keepIn K (.ref f27) = true)
    (a28 : PySem.W.nsIn K mainGlobals "_law_choices" = some (some (.ref f28)))
    (l28 : K.lookup f28 = some ⟨oc28, od28, .func (PySem.W.fnOf "_law_choices" "_law_choices" (defArgs s_l_choices) (defBody s_l_choices) (defScope s_l_choices) .none kV28 dc28 pm28 an28 cd28 ct28), sl28⟩)
    (c28 : PySem.W.codeIn K cd28 "_law_choices" = true)
    (k28 : PySem.W.keepIn K (.ref f28) = true)
    (a29 : PySem.W.nsIn K mainGlobals "_law_square" = some (some (.ref f29)))
    (l29 : K.lookup f29 = some ⟨oc29, od29, .func (PySem.W.fnOf "_law_square" "_law_square" (defArgs s_l_square) (defBody s_l_square) (defScope s_l_square) .none kV29 dc29 pm29 an29 cd29 ct29), sl29⟩)
    (c29 : PySem.W.codeIn K cd29 "_law_square" = true)
    (k29 : PySem.W.keepIn K (.ref f29) = true)
    (a30 : PySem.W.nsIn K mainGlobals "_law_pfaffian" = some (some (.ref f30)))
    (l30 : K.lookup f30 = some ⟨oc30, od30, .func (PySem.W.fnOf "_law_pfaffian" "_law_pfaffian" (defArgs s_l_pfaffian) (defBody s_l_pfaffian) (defScope s_l_pfaffian) .none kV30 dc30 pm30 an30 cd30 ct30), sl30⟩)
    (c30 : PySem.W.codeIn K cd30 "_law_pfaffian" = true)
    (k30 : PySem.W.keepIn K (.ref f30) = true)
    (a31 : PySem.W.nsIn K mainGlobals "_law_owed" = some (some (.ref f31)))
    (l31 : K.lookup f31 = some ⟨oc31, od31, .func (PySem.W.fnOf "_law_owed" "_law_owed" (defArgs s_l_owed) (defBody s_l_owed) (defScope s_l_owed) .none kV31 dc31 pm31 an31 cd31 ct31), sl31⟩)
    (c31 : PySem.W.codeIn K cd31 "_law_owed" = true)
    (k31 : PySem.W.keepIn K (.ref f31) = true)
    (a32 : PySem.W.nsIn K mainGlobals "_law_vector" = some (some (.ref f32)))
    (l32 : K.lookup f32 = some ⟨oc32, od32, .func (PySem.W.fnOf "_law_vector" "_law_vector" (defArgs s_l_vector) (defBody s_l_vector) (defScope s_l_vector) .none kV32 dc32 pm32 an32 cd32 ct32), sl32⟩)
    (c32 : PySem.W.codeIn K cd32 "_law_vector" = true)
    (k32 : PySem.W.keepIn K (.ref f32) = true)
    (a33 : PySem.W.nsIn K mainGlobals "_law_numbers" = some (some (.ref f33)))
    (l33 : K.lookup f33 = some ⟨oc33, od33, .func (PySem.W.fnOf "_law_numbers" "_law_numbers" (defArgs s_l_numbers) (defBody s_l_numbers) (defScope s_l_numbers) .none kV33 dc33 pm33 an33 cd33 ct33), sl33⟩)
    (c33 : PySem.W.codeIn K cd33 "_law_numbers" = true)
    (k33 : PySem.W.keepIn K (.ref f33) = true)
    (a34 : PySem.W.nsIn K mainGlobals "_law_bit_row" = some (some (.ref f34)))
    (l34 : K.lookup f34 = some ⟨oc34, od34, .func (PySem.W.fnOf "_law_bit_row" "_law_bit_row" (defArgs s_l_bit_row) (defBody s_l_bit_row) (defScope s_l_bit_row) .none kV34 dc34 pm34 an34 cd34 ct34), sl34⟩)
    (c34 : PySem.W.codeIn K cd34 "_law_bit_row" = true)
    (k34 : PySem.W.keepIn K (.ref f34) = true)
    (a35 : PySem.W.nsIn K mainGlobals "_law_determinant" = some (some (.ref f35)))
    (l35 : K.lookup f35 = some ⟨oc35, od35, .func (PySem.W.fnOf "_law_determinant" "_law_determinant" (defArgs s_l_determinant) (defBody s_l_determinant) (defScope s_l_determinant) .none kV35 dc35 pm35 an35 cd35 ct35), sl35⟩)
    (c35 : PySem.W.codeIn K cd35 "_law_determinant" = true)
    (k35 : PySem.W.keepIn K (.ref f35) = true)
    (a36 : PySem.W.nsIn K mainGlobals "_law_anchor" = some (some (.ref f36)))
    (l36 : K.lookup f36 = some ⟨oc36, od36, .func (PySem.W.fnOf "_law_anchor" "_law_anchor" (defArgs s_l_anchor) (defBody s_l_anchor) (defScope s_l_anchor) .none kV36 dc36 pm36 an36 cd36 ct36), sl36⟩)
    (c36 : PySem.W.codeIn K cd36 "_law_anchor" = true)
    (k36 : PySem.W.keepIn K (.ref f36) = true)
    (a37 : PySem.W.nsIn K mainGlobals "law" = some (some (.ref f37)))
    (l37 : K.lookup f37 = some ⟨oc37, od37, .func (PySem.W.fnOf "law" "law" (defArgs s_law) (defBody s_law) (defScope s_law) .none kV37 dc37 pm37 an37 cd37 ct37), sl37⟩)
    (c37 : PySem.W.codeIn K cd37 "law" = true)
    (k37 : PySem.W.keepIn K (.ref f37) = true)
    (h_sfW : PySem.W.selfFirst K C_Wedge = true)
    (h_sI : PySem.W.subIn K (.type "int") (.ref C_Wedge) = some false)
    (h_sC : PySem.W.subIn K (.ref C_Wedge) (.type "int") = some false)
    (h_iM : PySem.W.findIn K (.type "int") ("__mul__" : Str) = some x_iM)
    (h_iR : PySem.W.findIn K (.type "int") ("__rmul__" : Str) = some x_iR)
    (h_jInt : PySem.W.mroIn K C_Wedge (.type "int") = some false)
    (h_jBool : PySem.W.mroIn K C_Wedge (.type "bool") = some false)
    (h_jList : PySem.W.mroIn K C_Wedge (.type "list") = some false)
    (h_jStr : PySem.W.mroIn K C_Wedge (.type "str") = some false)
    (h_jTuple : PySem.W.mroIn K C_Wedge (.type "tuple") = some false)
    : ∃ fd : FuncData, (∀ (s : Shared) (v : Value), BindsTo s fd ⟨[v], []⟩ [("_law_script", v)]) ∧ ∀ base : Heap, K.In base → base.Ns mainGlobals mg → FnOk P w K mg base CX0 7 fa fd ["_law_script"] (spLaw K) := by
  have e := hfa.symm.trans (PySem.W.mg_of X G a37)
  cases e
  have F1 := fun_mk (st := s_is_number) l1 c1 k1
  have b1 := F1.binds (ps := ["value"]) fun _ _ _ _ _ _ us hl => match us, hl with | [_], _ => rfl
  have F2 := fun_mk (st := s_is_listed) l2 c2 k2
  have b2 := F2.binds (ps := ["value"]) fun _ _ _ _ _ _ us hl => match us, hl with | [_], _ => rfl
  have F3 := fun_mk (st := s_are_numbers) l3 c3 k3
  have b3 := F3.binds (ps := ["value", "many"]) fun _ _ _ _ _ _ us hl => match us, hl with | [_, _], _ => rfl
  have F4 := fun_mk (st := s_are_bits) l4 c4 k4
  have b4 := F4.binds (ps := ["value", "many"]) fun _ _ _ _ _ _ us hl => match us, hl with | [_, _], _ => rfl
  have F5 := fun_mk (st := s__filled_from) l5 c5 k5
  have b5 := F5.binds (ps := ["rows", "first", "column"]) fun _ _ _ _ _ _ us hl => match us, hl with | [_, _, _], _ => rfl
  have F6 := fun_mk (st := s__cleared) l6 c6 k6
  have b6 := F6.binds (ps := ["matrix"]) fun _ _ _ _ _ _ us hl => match us, hl with | [_], _ => rfl
  have F7 := fun_mk (st := s_determinant) l7 c7 k7
  have b7 := F7.binds (ps := ["matrix"]) fun _ _ _ _ _ _ us hl => match us, hl with | [_], _ => rfl
  have F8 := fun_mk (st := s_rank_of) l8 c8 k8
  have b8 := F8.binds (ps := ["matrix"]) fun _ _ _ _ _ _ us hl => match us, hl with | [_], _ => rfl
  have F9 : FunD K "__init__" "Wedge.__init__" (defArgs s_Wedge_init) (defBody s_Wedge_init) (defScope s_Wedge_init) [V.ref e_bits] [] f9 (PySem.W.fnOf "__init__" "Wedge.__init__" (defArgs s_Wedge_init) (defBody s_Wedge_init) (defScope s_Wedge_init) (.ref dT9) kV9 dc9 pm9 an9 cd9 ct9) := by
    obtain ⟨its, n, e1, e2⟩ := vT9
    exact ⟨⟨_, _, _, _, _, _, _, _, _, _, rfl, l9, c9, .inr ⟨by simp, dT9, _, its, n, rfl, lT9, e1, e2⟩, .inl rfl⟩, k9⟩
  obtain ⟨ds0_9, v0_9, b9⟩ := F9.binds1 (ps := ["self", "pairs", "bits"]) 3 1 (by simp) rfl fun _ _ _ _ _ _ _ us its hu hi => match us, its, hu, hi with | [_, _, _], [_], _, _ => ⟨_, rfl, rfl⟩
  cases v0_9
  obtain ⟨ds1_9, v1_9, bb9⟩ := F9.binds1 (ps := ["self", "pairs", "bits"]) 2 0 (by simp) rfl fun _ _ _ _ _ _ _ us its hu hi => match us, its, hu, hi with | [_, _], [_], _, _ => ⟨_, rfl, rfl⟩
  have F10 := fun_mk (st := s_Wedge_pairs) l10 c10 k10
  have b10 := F10.binds (ps := ["self"]) fun _ _ _ _ _ _ us hl => match us, hl with | [_], _ => rfl
  have F11 := fun_mk (st := s_Wedge_matrix) l11 c11 k11
  have b11 := F11.binds (ps := ["self"]) fun _ _ _ _ _ _ us hl => match us, hl with | [_], _ => rfl
  have F12 := fun_mk (st := s_Wedge_flat) l12 c12 k12
  have b12 := F12.binds (ps := ["self"]) fun _ _ _ _ _ _ us hl => match us, hl with | [_], _ => rfl
  have F13 := fun_mk (st := s_Wedge_rank) l13 c13 k13
  have b13 := F13.binds (ps := ["self"]) fun _ _ _ _ _ _ us hl => match us, hl with | [_], _ => rfl
  have F14 := fun_mk (st := s_Wedge_owed) l14 c14 k14
  have b14 := F14.binds (ps := ["self"]) fun _ _ _ _ _ _ us hl => match us, hl with | [_], _ => rfl
  have F15 := fun_mk (st := s_Wedge_neg) l15 c15 k15
  have b15 := F15.binds (ps := ["self"]) fun _ _ _ _ _ _ us hl => match us, hl with | [_], _ => rfl
  have F16 := fun_mk (st := s_Wedge_mul) l16 c16 k16
  have b16 := F16.binds (ps := ["self", "k"]) fun _ _ _ _ _ _ us hl => match us, hl with | [_, _], _ => rfl
  have F17 := fun_mk (st := s_Wedge_rmul) l17 c17 k17
  have b17 := F17.binds (ps := ["self", "k"]) fun _ _ _ _ _ _ us hl => match us, hl with | [_, _], _ => rfl
  have F18 := fun_mk (st := s__place_of) l18 c18 k18
  have b18 := F18.binds (ps := ["value"]) fun _ _ _ _ _ _ us hl => match us, hl with | [_], _ => rfl
  have F19 := fun_mk (st := s_square_at) l19 c19 k19
  have b19 := F19.binds (ps := ["wedge", "primes"]) fun _ _ _ _ _ _ us hl => match us, hl with | [_, _], _ => rfl
  have F20 := fun_mk (st := s__first_anchor) l20 c20 k20
  have b20 := F20.binds (ps := ["wedge", "many"]) fun _ _ _ _ _ _ us hl => match us, hl with | [_, _], _ => rfl
  have F21 := fun_mk (st := s_anchor_of) l21 c21 k21
  have b21 := F21.binds (ps := ["wedge"]) fun _ _ _ _ _ _ us hl => match us, hl with | [_], _ => rfl
  have F22 := fun_mk (st := s_l_bag) l22 c22 k22
  have b22 := F22.binds (ps := ["_law_script"]) fun _ _ _ _ _ _ us hl => match us, hl with | [_], _ => rfl
  have F23 := fun_mk (st := s_l_draw) l23 c23 k23
  have b23 := F23.binds (ps := ["_law_bag_here", "_law_many"]) fun _ _ _ _ _ _ us hl => match us, hl with | [_, _], _ => rfl
  have F24 := fun_mk (st := s_l_of) l24 c24 k24
  have b24 := F24.binds (ps := ["_law_bag_here", "_law_things"]) fun _ _ _ _ _ _ us hl => match us, hl with | [_, _], _ => rfl
  have F25 := fun_mk (st := s_l_mixed) l25 c25 k25
  have b25 := F25.binds (ps := ["_law_bag_here", "_law_things"]) fun _ _ _ _ _ _ us hl => match us, hl with | [_, _], _ => rfl
  have F26 := fun_mk (st := s_l_like) l26 c26 k26
  have b26 := F26.binds (ps := ["_law_found", "_law_due"]) fun _ _ _ _ _ _ us hl => match us, hl with | [_, _], _ => rfl
  have F27 := fun_mk (st := s_l_places) l27 c27 k27
  have b27 := F27.binds (ps := []) fun _ _ _ _ _ _ us hl => match us, hl with | [], _ => rfl
  have F28 := fun_mk (st := s_l_choices) l28 c28 k28
  have b28 := F28.binds (ps := ["_law_size"]) fun _ _ _ _ _ _ us hl => match us, hl with | [_], _ => rfl
  have F29 := fun_mk (st := s_l_square) l29 c29 k29
  have b29 := F29.binds (ps := ["_law_table"]) fun _ _ _ _ _ _ us hl => match us, hl with | [_], _ => rfl
  have F30 := fun_mk (st := s_l_pfaffian) l30 c30 k30
  have b30 := F30.binds (ps := ["_law_matrix", "_law_places_here"]) fun _ _ _ _ _ _ us hl => match us, hl with | [_, _], _ => rfl
  have F31 := fun_mk (st := s_l_owed) l31 c31 k31
  have b31 := F31.binds (ps := ["_law_table"]) fun _ _ _ _ _ _ us hl => match us, hl with | [_], _ => rfl
  have F32 := fun_mk (st := s_l_vector) l32 c32 k32
  have b32 := F32.binds (ps := ["_law_bag_here"]) fun _ _ _ _ _ _ us hl => match us, hl with | [_], _ => rfl
  have F33 := fun_mk (st := s_l_numbers) l33 c33 k33
  have b33 := F33.binds (ps := ["_law_bag_here", "_law_size"]) fun _ _ _ _ _ _ us hl => match us, hl with | [_, _], _ => rfl
  have F34 := fun_mk (st := s_l_bit_row) l34 c34 k34
  have b34 := F34.binds (ps := ["_law_bag_here"]) fun _ _ _ _ _ _ us hl => match us, hl with | [_], _ => rfl
  have F35 := fun_mk (st := s_l_determinant) l35 c35 k35
  have b35 := F35.binds (ps := ["_law_matrix"]) fun _ _ _ _ _ _ us hl => match us, hl with | [_], _ => rfl
  have F36 := fun_mk (st := s_l_anchor) l36 c36 k36
  have b36 := F36.binds (ps := ["_law_table"]) fun _ _ _ _ _ _ us hl => match us, hl with | [_], _ => rfl
  have F37 := fun_mk (st := s_law) l37 c37 k37
  have b37 := F37.binds (ps := ["_law_script"]) fun _ _ _ _ _ _ us hl => match us, hl with | [_], _ => rfl
  have kb_anchor_of : KBinds K _ ["wedge"] ["wedge"] g01 g01 := Fun.kb01 F21 fun _ _ _ _ _ _ _ => rfl
  exact ⟨PySem.W.fnOf "law" "law" (defArgs s_law) (defBody s_law) (defScope s_law) .none kV37 dc37 pm37 an37 cd37 ct37, fun s v => .of_eq rfl, fun base _ _ => ok_law (T := {
    z_str := PySem.W.mg_none_of X G z_str
    z_len := PySem.W.mg_none_of X G z_len
    z_int := PySem.W.mg_none_of X G z_int
    z_isinstance := PySem.W.mg_none_of X G z_isinstance
    z_list := PySem.W.mg_none_of X G z_list
    z_tuple := PySem.W.mg_none_of X G z_tuple
    z_bool := PySem.W.mg_none_of X G z_bool
    z_all := PySem.W.mg_none_of X G z_all
    z_any := PySem.W.mg_none_of X G z_any
    z_zip := PySem.W.mg_none_of X G z_zip
    z_range := PySem.W.mg_none_of X G z_range
    C_Wedge := C_Wedge
    c_Wedge := ⟨pg_Wedge, hd_Wedge, po_Wedge, sa_Wedge⟩
    g_Wedge := PySem.W.mg_of X G aC_Wedge
    n_Wedge_pairs := n_Wedge_pairs
    n_Wedge_bits := n_Wedge_bits
    i_Wedge := ⟨ca_Wedge, cn_Wedge, ct_Wedge, cm_Wedge, if_pos (beq_self_eq_true _)⟩
    e_PRIMES := e_PRIMES
    m_PRIMES := PySem.W.mg_of X G aE_PRIMES
    q_PRIMES := fun H => tupO_sq lE_PRIMES vE_PRIMES
    m_combinations := PySem.W.mg_of X G gi_combinations
    e_PAIRS := e_PAIRS
    m_PAIRS := PySem.W.mg_of X G aE_PAIRS
    l_PAIRS := ⟨_, rfl, fun H => tupO_sq lE_PAIRS vE_PAIRS⟩
    p_PAIRS := ⟨[ap0, ap1, ap2, ap3, ap4, ap5, ap6, ap7, ap8, ap9, ap10, ap11, ap12, ap13, ap14], rfl, fun H => tupO_sq lE_PAIRS vE_PAIRS, fun k a h => match k, h with | 0, rfl => ⟨0, 1, rfl, fun H => tupO_sq lP0 vP0⟩ | 1, rfl => ⟨0, 2, rfl, fun H => tupO_sq lP1 vP1⟩ | 2, rfl => ⟨0, 3, rfl, fun H => tupO_sq lP2 vP2⟩ | 3, rfl => ⟨0, 4, rfl, fun H => tupO_sq lP3 vP3⟩ | 4, rfl => ⟨0, 5, rfl, fun H => tupO_sq lP4 vP4⟩ | 5, rfl => ⟨1, 2, rfl, fun H => tupO_sq lP5 vP5⟩ | 6, rfl => ⟨1, 3, rfl, fun H => tupO_sq lP6 vP6⟩ | 7, rfl => ⟨1, 4, rfl, fun H => tupO_sq lP7 vP7⟩ | 8, rfl => ⟨1, 5, rfl, fun H => tupO_sq lP8 vP8⟩ | 9, rfl => ⟨2, 3, rfl, fun H => tupO_sq lP9 vP9⟩ | 10, rfl => ⟨2, 4, rfl, fun H => tupO_sq lP10 vP10⟩ | 11, rfl => ⟨2, 5, rfl, fun H => tupO_sq lP11 vP11⟩ | 12, rfl => ⟨3, 4, rfl, fun H => tupO_sq lP12 vP12⟩ | 13, rfl => ⟨3, 5, rfl, fun H => tupO_sq lP13 vP13⟩ | 14, rfl => ⟨4, 5, rfl, fun H => tupO_sq lP14 vP14⟩ | k + 15, h => nomatch h⟩
    e_bits := e_bits
    q_bits := fun H => tupO_sq lE_bits vE_bits
    f_is_number := f1
    d_is_number := PySem.W.fnOf "is_number" "is_number" (defArgs s_is_number) (defBody s_is_number) (defScope s_is_number) .none kV1 dc1 pm1 an1 cd1 ct1
    F_is_number := F1
    b_is_number := b1
    m_is_number := PySem.W.mg_of X G a1
    f_is_listed := f2
    d_is_listed := PySem.W.fnOf "is_listed" "is_listed" (defArgs s_is_listed) (defBody s_is_listed) (defScope s_is_listed) .none kV2 dc2 pm2 an2 cd2 ct2
    F_is_listed := F2
    b_is_listed := b2
    m_is_listed := PySem.W.mg_of X G a2
    f_are_numbers := f3
    d_are_numbers := PySem.W.fnOf "are_numbers" "are_numbers" (defArgs s_are_numbers) (defBody s_are_numbers) (defScope s_are_numbers) .none kV3 dc3 pm3 an3 cd3 ct3
    F_are_numbers := F3
    b_are_numbers := b3
    m_are_numbers := PySem.W.mg_of X G a3
    f_are_bits := f4
    d_are_bits := PySem.W.fnOf "are_bits" "are_bits" (defArgs s_are_bits) (defBody s_are_bits) (defScope s_are_bits) .none kV4 dc4 pm4 an4 cd4 ct4
    F_are_bits := F4
    b_are_bits := b4
    m_are_bits := PySem.W.mg_of X G a4
    f__filled_from := f5
    d__filled_from := PySem.W.fnOf "_filled_from" "_filled_from" (defArgs s__filled_from) (defBody s__filled_from) (defScope s__filled_from) .none kV5 dc5 pm5 an5 cd5 ct5
    F__filled_from := F5
    b__filled_from := b5
    m__filled_from := PySem.W.mg_of X G a5
    f__cleared := f6
    d__cleared := PySem.W.fnOf "_cleared" "_cleared" (defArgs s__cleared) (defBody s__cleared) (defScope s__cleared) .none kV6 dc6 pm6 an6 cd6 ct6
    F__cleared := F6
    b__cleared := b6
    m__cleared := PySem.W.mg_of X G a6
    f_determinant := f7
    d_determinant := PySem.W.fnOf "determinant" "determinant" (defArgs s_determinant) (defBody s_determinant) (defScope s_determinant) .none kV7 dc7 pm7 an7 cd7 ct7
    F_determinant := F7
    b_determinant := b7
    m_determinant := PySem.W.mg_of X G a7
    f_rank_of := f8
    d_rank_of := PySem.W.fnOf "rank_of" "rank_of" (defArgs s_rank_of) (defBody s_rank_of) (defScope s_rank_of) .none kV8 dc8 pm8 an8 cd8 ct8
    F_rank_of := F8
    b_rank_of := b8
    m_rank_of := PySem.W.mg_of X G a8
    f_Wedge_init := f9
    d_Wedge_init := PySem.W.fnOf "__init__" "Wedge.__init__" (defArgs s_Wedge_init) (defBody s_Wedge_init) (defScope s_Wedge_init) (.ref dT9) kV9 dc9 pm9 an9 cd9 ct9
    F_Wedge_init := F9
    ds_Wedge_init := ds1_9
    v_Wedge_init := v1_9
    b_Wedge_init := b9
    b1_Wedge_init := bb9
    k_Wedge := ⟨mk_Wedge, a9, i9, kc_Wedge⟩
    f_Wedge_pairs := f10
    d_Wedge_pairs := PySem.W.fnOf "pairs" "Wedge.pairs" (defArgs s_Wedge_pairs) (defBody s_Wedge_pairs) (defScope s_Wedge_pairs) .none kV10 dc10 pm10 an10 cd10 ct10
    F_Wedge_pairs := F10
    b_Wedge_pairs := b10
    a_Wedge_pairs := ⟨a10, i10, k10⟩
    f_Wedge_matrix := f11
    d_Wedge_matrix := PySem.W.fnOf "matrix" "Wedge.matrix" (defArgs s_Wedge_matrix) (defBody s_Wedge_matrix) (defScope s_Wedge_matrix) .none kV11 dc11 pm11 an11 cd11 ct11
    F_Wedge_matrix := F11
    b_Wedge_matrix := b11
    a_Wedge_matrix := ⟨a11, i11, k11⟩
    f_Wedge_flat := f12
    d_Wedge_flat := PySem.W.fnOf "flat" "Wedge.flat" (defArgs s_Wedge_flat) (defBody s_Wedge_flat) (defScope s_Wedge_flat) .none kV12 dc12 pm12 an12 cd12 ct12
    F_Wedge_flat := F12
    b_Wedge_flat := b12
    p_Wedge_flat := p12
    P_Wedge_flat := ⟨a12, pg12, pt12, ⟨_, i12⟩⟩
    f_Wedge_rank := f13
    d_Wedge_rank := PySem.W.fnOf "rank" "Wedge.rank" (defArgs s_Wedge_rank) (defBody s_Wedge_rank) (defScope s_Wedge_rank) .none kV13 dc13 pm13 an13 cd13 ct13
    F_Wedge_rank := F13
    b_Wedge_rank := b13
    p_Wedge_rank := p13
    P_Wedge_rank := ⟨a13, pg13, pt13, ⟨_, i13⟩⟩
    f_Wedge_owed := f14
    d_Wedge_owed := PySem.W.fnOf "owed" "Wedge.owed" (defArgs s_Wedge_owed) (defBody s_Wedge_owed) (defScope s_Wedge_owed) .none kV14 dc14 pm14 an14 cd14 ct14
    F_Wedge_owed := F14
    b_Wedge_owed := b14
    p_Wedge_owed := p14
    P_Wedge_owed := ⟨a14, pg14, pt14, ⟨_, i14⟩⟩
    f_Wedge_neg := f15
    d_Wedge_neg := PySem.W.fnOf "__neg__" "Wedge.__neg__" (defArgs s_Wedge_neg) (defBody s_Wedge_neg) (defScope s_Wedge_neg) .none kV15 dc15 pm15 an15 cd15 ct15
    F_Wedge_neg := F15
    b_Wedge_neg := b15
    a_Wedge_neg := ⟨a15, i15, k15⟩
    f_Wedge_mul := f16
    d_Wedge_mul := PySem.W.fnOf "__mul__" "Wedge.__mul__" (defArgs s_Wedge_mul) (defBody s_Wedge_mul) (defScope s_Wedge_mul) .none kV16 dc16 pm16 an16 cd16 ct16
    F_Wedge_mul := F16
    b_Wedge_mul := b16
    a_Wedge_mul := ⟨a16, i16, k16⟩
    f_Wedge_rmul := f17
    d_Wedge_rmul := PySem.W.fnOf "__rmul__" "Wedge.__rmul__" (defArgs s_Wedge_rmul) (defBody s_Wedge_rmul) (defScope s_Wedge_rmul) .none kV17 dc17 pm17 an17 cd17 ct17
    F_Wedge_rmul := F17
    b_Wedge_rmul := b17
    a_Wedge_rmul := ⟨a17, i17, k17⟩
    f__place_of := f18
    d__place_of := PySem.W.fnOf "_place_of" "_place_of" (defArgs s__place_of) (defBody s__place_of) (defScope s__place_of) .none kV18 dc18 pm18 an18 cd18 ct18
    F__place_of := F18
    b__place_of := b18
    m__place_of := PySem.W.mg_of X G a18
    f_square_at := f19
    d_square_at := PySem.W.fnOf "square_at" "square_at" (defArgs s_square_at) (defBody s_square_at) (defScope s_square_at) .none kV19 dc19 pm19 an19 cd19 ct19
    F_square_at := F19
    b_square_at := b19
    m_square_at := PySem.W.mg_of X G a19
    f__first_anchor := f20
    d__first_anchor := PySem.W.fnOf "_first_anchor" "_first_anchor" (defArgs s__first_anchor) (defBody s__first_anchor) (defScope s__first_anchor) .none kV20 dc20 pm20 an20 cd20 ct20
    F__first_anchor := F20
    b__first_anchor := b20
    m__first_anchor := PySem.W.mg_of X G a20
    f_anchor_of := f21
    d_anchor_of := PySem.W.fnOf "anchor_of" "anchor_of" (defArgs s_anchor_of) (defBody s_anchor_of) (defScope s_anchor_of) .none kV21 dc21 pm21 an21 cd21 ct21
    F_anchor_of := F21
    b_anchor_of := b21
    m_anchor_of := PySem.W.mg_of X G a21
    f_l_bag := f22
    d_l_bag := PySem.W.fnOf "_law_bag" "_law_bag" (defArgs s_l_bag) (defBody s_l_bag) (defScope s_l_bag) .none kV22 dc22 pm22 an22 cd22 ct22
    F_l_bag := F22
    b_l_bag := b22
    m_l_bag := PySem.W.mg_of X G a22
    f_l_draw := f23
    d_l_draw := PySem.W.fnOf "_law_draw" "_law_draw" (defArgs s_l_draw) (defBody s_l_draw) (defScope s_l_draw) .none kV23 dc23 pm23 an23 cd23 ct23
    F_l_draw := F23
    b_l_draw := b23
    m_l_draw := PySem.W.mg_of X G a23
    f_l_of := f24
    d_l_of := PySem.W.fnOf "_law_of" "_law_of" (defArgs s_l_of) (defBody s_l_of) (defScope s_l_of) .none kV24 dc24 pm24 an24 cd24 ct24
    F_l_of := F24
    b_l_of := b24
    m_l_of := PySem.W.mg_of X G a24
    f_l_mixed := f25
    d_l_mixed := PySem.W.fnOf "_law_mixed" "_law_mixed" (defArgs s_l_mixed) (defBody s_l_mixed) (defScope s_l_mixed) .none kV25 dc25 pm25 an25 cd25 ct25
    F_l_mixed := F25
    b_l_mixed := b25
    m_l_mixed := PySem.W.mg_of X G a25
    f_l_like := f26
    d_l_like := PySem.W.fnOf "_law_like" "_law_like" (defArgs s_l_like) (defBody s_l_like) (defScope s_l_like) .none kV26 dc26 pm26 an26 cd26 ct26
    F_l_like := F26
    b_l_like := b26
    m_l_like := PySem.W.mg_of X G a26
    f_l_places := f27
    d_l_places := PySem.W.fnOf "_law_places" "_law_places" (defArgs s_l_places) (defBody s_l_places) (defScope s_l_places) .none kV27 dc27 pm27 an27 cd27 ct27
    F_l_places := F27
    b_l_places := b27
    m_l_places := PySem.W.mg_of X G a27
    f_l_choices := f28
    d_l_choices := PySem.W.fnOf "_law_choices" "_law_choices" (defArgs s_l_choices) (defBody s_l_choices) (defScope s_l_choices) .none kV28 dc28 pm28 an28 cd28 ct28
    F_l_choices := F28
    b_l_choices := b28
    m_l_choices := PySem.W.mg_of X G a28
    f_l_square := f29
    d_l_square := PySem.W.fnOf "_law_square" "_law_square" (defArgs s_l_square) (defBody s_l_square) (defScope s_l_square) .none kV29 dc29 pm29 an29 cd29 ct29
    F_l_square := F29
    b_l_square := b29
    m_l_square := PySem.W.mg_of X G a29
    f_l_pfaffian := f30
    d_l_pfaffian := PySem.W.fnOf "_law_pfaffian" "_law_pfaffian" (defArgs s_l_pfaffian) (defBody s_l_pfaffian) (defScope s_l_pfaffian) .none kV30 dc30 pm30 an30 cd30 ct30
    F_l_pfaffian := F30
    b_l_pfaffian := b30
    m_l_pfaffian := PySem.W.mg_of X G a30
    f_l_owed := f31
    d_l_owed := PySem.W.fnOf "_law_owed" "_law_owed" (defArgs s_l_owed) (defBody s_l_owed) (defScope s_l_owed) .none kV31 dc31 pm31 an31 cd31 ct31
    F_l_owed := F31
    b_l_owed := b31
    m_l_owed := PySem.W.mg_of X G a31
    f_l_vector := f32
    d_l_vector := PySem.W.fnOf "_law_vector" "_law_vector" (defArgs s_l_vector) (defBody s_l_vector) (defScope s_l_vector) .none kV32 dc32 pm32 an32 cd32 ct32
    F_l_vector := F32
    b_l_vector := b32
    m_l_vector := PySem.W.mg_of X G a32
    f_l_numbers := f33
    d_l_numbers := PySem.W.fnOf "_law_numbers" "_law_numbers" (defArgs s_l_numbers) (defBody s_l_numbers) (defScope s_l_numbers) .none kV33 dc33 pm33 an33 cd33 ct33
    F_l_numbers := F33
    b_l_numbers := b33
    m_l_numbers := PySem.W.mg_of X G a33
    f_l_bit_row := f34
    d_l_bit_row := PySem.W.fnOf "_law_bit_row" "_law_bit_row" (defArgs s_l_bit_row) (defBody s_l_bit_row) (defScope s_l_bit_row) .none kV34 dc34 pm34 an34 cd34 ct34
    F_l_bit_row := F34
    b_l_bit_row := b34
    m_l_bit_row := PySem.W.mg_of X G a34
    f_l_determinant := f35
    d_l_determinant := PySem.W.fnOf "_law_determinant" "_law_determinant" (defArgs s_l_determinant) (defBody s_l_determinant) (defScope s_l_determinant) .none kV35 dc35 pm35 an35 cd35 ct35
    F_l_determinant := F35
    b_l_determinant := b35
    m_l_determinant := PySem.W.mg_of X G a35
    f_l_anchor := f36
    d_l_anchor := PySem.W.fnOf "_law_anchor" "_law_anchor" (defArgs s_l_anchor) (defBody s_l_anchor) (defScope s_l_anchor) .none kV36 dc36 pm36 an36 cd36 ct36
    F_l_anchor := F36
    b_l_anchor := b36
    m_l_anchor := PySem.W.mg_of X G a36
    f_law := fa
    d_law := PySem.W.fnOf "law" "law" (defArgs s_law) (defBody s_law) (defScope s_law) .none kV37 dc37 pm37 an37 cd37 ct37
    F_law := F37
    b_law := b37
    m_law := PySem.W.mg_of X G a37
    sfW := h_sfW
    sI := h_sI
    sC := h_sC
    iM := ⟨_, h_iM⟩
    iR := ⟨_, h_iR⟩
    jInt := h_jInt
    jBool := h_jBool
    jList := h_jList
    jStr := h_jStr
    jTuple := h_jTuple
    ty_PRIMES := ⟨_, lE_PRIMES, tyE_PRIMES⟩
    kb_anchor_of := kb_anchor_of
  } )⟩
theorem walk {l : PySem.W.OpenLaw} {q : Program} {loose : List Str} {XP : (Str → Option Value) → Heap → Prop} {YP : World → Heap → Prop} {d : DefRec} {K : Params → PySem.W.Frag} (hn : l.most = some 63) (hdf : d.params.defaults = [])
    (hY : ∀ (w : World) (h : Heap), YP w h → (K w.params).In h)
    (F : ∀ (w : World) (mg : Str → Option Value) (fa : Addr) (h : Heap), (K w.params).In h → h.Ns mainGlobals mg → mg d.name = some (.ref fa) →
      ∃ fd : FuncData, (∀ (s : Shared) (u : Value), BindsTo s fd ⟨[u], []⟩ [("_law_script", u)]) ∧ ∀ base : Heap, (K w.params).In base → base.Ns mainGlobals mg → FnOk l.prog w (K w.params) mg base CX0 7 fa fd ["_law_script"] (spLaw (K w.params))) :
    PySem.W.WalkO q loose XP YP l.row.toRowW d [] (fun f vs => PySem.call f vs) :=
  L2.walk_of (n := 63) (k := 7) (x := "_law_script") (CX := fun _ => CX0) (sp := fun w => spLaw (K w.params)) hn (by decide) hdf ⟨rfl, by decide, by decide⟩ hY F (fun _ _ a ns hl _ hS => ⟨a, ns, rfl, hS, hl, fun _ => rfl⟩) fun _ _ _ _ _ z => z
end TL.W
open PySem PySem.W PyProof.Rows
set_option maxRecDepth 100000 in
set_option maxHeartbeats 0 in
theorem PySem.Challenge.cw_turnsleft_k34_anchors_told_holds : PySem.Challenge.rw_turnsleft_k34_anchors_told.Holds := by
  w_on; o_law; k_head; (case hw => w_witness2)
  k_fill
  refine TL.W.walk (l := PySem.Challenge.rw_turnsleft_k34_anchors_told) rfl rfl (fun w h Y => PySem.W.kIn_of Y) ?F
  case F =>
    intro w mg fa h KX G hmg
    refine' TL.W.all_mk KX G hmg ?z_str ?z_len ?z_int ?z_isinstance ?z_list ?z_tuple ?z_bool ?z_all ?z_any ?z_zip ?z_range ?aC_Wedge ?pg_Wedge ?hd_Wedge ?po_Wedge ?sa_Wedge ?n_Wedge_pairs ?n_Wedge_bits ?ca_Wedge ?cm_Wedge ?cn_Wedge ?ct_Wedge ?aE_PRIMES ?lE_PRIMES ?vE_PRIMES ?gi_combinations ?aE_PAIRS ?lE_PAIRS ?vE_PAIRS ?lP0 ?vP0 ?lP1 ?vP1 ?lP2 ?vP2 ?lP3 ?vP3 ?lP4 ?vP4 ?lP5 ?vP5 ?lP6 ?vP6 ?lP7 ?vP7 ?lP8 ?vP8 ?lP9 ?vP9 ?lP10 ?vP10 ?lP11 ?vP11 ?lP12 ?vP12 ?lP13 ?vP13 ?lP14 ?vP14 ?tyE_PRIMES ?a1 ?l1 ?c1 ?k1 ?a2 ?l2 ?c2 ?k2 ?a3 ?l3 ?c3 ?k3 ?a4 ?l4 ?c4 ?k4 ?a5 ?l5 ?c5 ?k5 ?a6 ?l6 ?c6 ?k6 ?a7 ?l7 ?c7 ?k7 ?a8 ?l8 ?c8 ?k8 ?a9 ?i9 ?l9 ?c9 ?k9 ?lT9 ?vT9 ?lE_bits ?vE_bits ?mk_Wedge ?kc_Wedge ?a10 ?i10 ?l10 ?c10 ?k10 ?a11 ?i11 ?l11 ?c11 ?k11 ?a12 ?pg12 ?pt12 ?i12 ?l12 ?c12 ?k12 ?a13 ?pg13 ?pt13 ?i13 ?l13 ?c13 ?k13 ?a14 ?pg14 ?pt14 ?i14 ?l14 ?c14 ?k14 ?a15 ?i15 ?l15 ?c15 ?k15 ?a16 ?i16 ?l16 ?c16 ?k16 ?a17 ?i17 ?l17 ?c17 ?k17 ?a18 ?l18 ?c18 ?k18 ?a19 ?l19 ?c19 ?k19 ?a20 ?l20 ?c20 ?k20 ?a21 ?l21 ?c21 ?k21 ?a22 ?l22 ?c22 ?k22 ?a23 ?l23 ?c23 ?k23 ?a24 ?l24 ?c24 ?k24 ?a25 ?l25 ?c25 ?k25 ?a26 ?l26 ?c26 ?k26 ?a27 ?l27 ?c27 ?k27 ?a28 ?l28 ?c28 ?k28 ?a29 ?l29 ?c29 ?k29 ?a30 ?l30 ?c30 ?k30 ?a31 ?l31 ?c31 ?k31 ?a32 ?l32 ?c32 ?k32 ?a33 ?l33 ?c33 ?k33 ?a34 ?l34 ?c34 ?k34 ?a35 ?l35 ?c35 ?k35 ?a36 ?l36 ?c36 ?k36 ?a37 ?l37 ?c37 ?k37 ?h_sfW ?h_sI ?h_sC ?h_iM ?h_iR ?h_jInt ?h_jBool ?h_jList ?h_jStr ?h_jTuple
    (case z_str => k_is)
    (case z_len => k_is)
    (case z_int => k_is)
    (case z_isinstance => k_is)
    (case z_list => k_is)
    (case z_tuple => k_is)
    (case z_bool => k_is)
    (case z_all => k_is)
    (case z_any => k_is)
    (case z_zip => k_is)
    (case z_range => k_is)
    (case aC_Wedge => k_is)
    (case pg_Wedge => k_is)
    (case hd_Wedge => k_is)
    (case po_Wedge => k_is)
    (case sa_Wedge => k_is)
    (case n_Wedge_pairs => k_is)
    (case n_Wedge_bits => k_is)
    (case ca_Wedge => k_is)
    (case cm_Wedge => k_is)
    (case cn_Wedge => k_is)
    (case ct_Wedge => k_is)
    (case aE_PRIMES => k_is)
    (case lE_PRIMES => k_is)
    (case vE_PRIMES => exact ⟨_, _, rfl, rfl, by decide, .cons ⟨_, rfl⟩ (.cons ⟨_, rfl⟩ (.cons ⟨_, rfl⟩ (.cons ⟨_, rfl⟩ (.cons ⟨_, rfl⟩ (.cons ⟨_, rfl⟩ (.nil))))))⟩)
    (case gi_combinations => k_is)
    (case aE_PAIRS => k_is)
    (case lE_PAIRS => k_is)
    (case vE_PAIRS => exact ⟨_, _, rfl, rfl, by decide, .cons (show L2.RelV (L2.V.ref _) _ from rfl) (.cons (show L2.RelV (L2.V.ref _) _ from rfl) (.cons (show L2.RelV (L2.V.ref _) _ from rfl) (.cons (show L2.RelV (L2.V.ref _) _ from rfl) (.cons (show L2.RelV (L2.V.ref _) _ from rfl) (.cons (show L2.RelV (L2.V.ref _) _ from rfl) (.cons (show L2.RelV (L2.V.ref _) _ from rfl) (.cons (show L2.RelV (L2.V.ref _) _ from rfl) (.cons (show L2.RelV (L2.V.ref _) _ from rfl) (.cons (show L2.RelV (L2.V.ref _) _ from rfl) (.cons (show L2.RelV (L2.V.ref _) _ from rfl) (.cons (show L2.RelV (L2.V.ref _) _ from rfl) (.cons (show L2.RelV (L2.V.ref _) _ from rfl) (.cons (show L2.RelV (L2.V.ref _) _ from rfl) (.cons (show L2.RelV (L2.V.ref _) _ from rfl) (.nil)))))))))))))))⟩)
    (case lP0 => k_is)
    (case vP0 => exact ⟨_, _, rfl, rfl, by decide, .cons ⟨_, rfl⟩ (.cons ⟨_, rfl⟩ .nil)⟩)
    (case lP1 => k_is)
    (case vP1 => exact ⟨_, _, rfl, rfl, by decide, .cons ⟨_, rfl⟩ (.cons ⟨_, rfl⟩ .nil)⟩)
    (case lP2 => k_is)
    (case vP2 => exact ⟨_, _, rfl, rfl, by decide, .cons ⟨_, rfl⟩ (.cons ⟨_, rfl⟩ .nil)⟩)
    (case lP3 => k_is)
    (case vP3 => exact ⟨_, _, rfl, rfl, by decide, .cons ⟨_, rfl⟩ (.cons ⟨_, rfl⟩ .nil)⟩)
    (case lP4 => k_is)
    (case vP4 => exact ⟨_, _, rfl, rfl, by decide, .cons ⟨_, rfl⟩ (.cons ⟨_, rfl⟩ .nil)⟩)
    (case lP5 => k_is)
    (case vP5 => exact ⟨_, _, rfl, rfl, by decide, .cons ⟨_, rfl⟩ (.cons ⟨_, rfl⟩ .nil)⟩)
    (case lP6 => k_is)
    (case vP6 => exact ⟨_, _, rfl, rfl, by decide, .cons ⟨_, rfl⟩ (.cons ⟨_, rfl⟩ .nil)⟩)
    (case lP7 => k_is)
    (case vP7 => exact ⟨_, _, rfl, rfl, by decide, .cons ⟨_, rfl⟩ (.cons ⟨_, rfl⟩ .nil)⟩)
    (case lP8 => k_is)
    (case vP8 => exact ⟨_, _, rfl, rfl, by decide, .cons ⟨_, rfl⟩ (.cons ⟨_, rfl⟩ .nil)⟩)
    (case lP9 => k_is)
    (case vP9 => exact ⟨_, _, rfl, rfl, by decide, .cons ⟨_, rfl⟩ (.cons ⟨_, rfl⟩ .nil)⟩)
    (case lP10 => k_is)
    (case vP10 => exact ⟨_, _, rfl, rfl, by decide, .cons ⟨_, rfl⟩ (.cons ⟨_, rfl⟩ .nil)⟩)
    (case lP11 => k_is)
    (case vP11 => exact ⟨_, _, rfl, rfl, by decide, .cons ⟨_, rfl⟩ (.cons ⟨_, rfl⟩ .nil)⟩)
    (case lP12 => k_is)
    (case vP12 => exact ⟨_, _, rfl, rfl, by decide, .cons ⟨_, rfl⟩ (.cons ⟨_, rfl⟩ .nil)⟩)
    (case lP13 => k_is)
    (case vP13 => exact ⟨_, _, rfl, rfl, by decide, .cons ⟨_, rfl⟩ (.cons ⟨_, rfl⟩ .nil)⟩)
    (case lP14 => k_is)
    (case vP14 => exact ⟨_, _, rfl, rfl, by decide, .cons ⟨_, rfl⟩ (.cons ⟨_, rfl⟩ .nil)⟩)
    (case tyE_PRIMES => exact ⟨rfl, rfl⟩)
    (case a1 => k_is)
    (case l1 => k_is)
    (case c1 => k_is)
    (case k1 => k_is)
    (case a2 => k_is)
    (case l2 => k_is)
    (case c2 => k_is)
    (case k2 => k_is)
    (case a3 => k_is)
    (case l3 => k_is)
    (case c3 => k_is)
    (case k3 => k_is)
    (case a4 => k_is)
    (case l4 => k_is)
    (case c4 => k_is)
    (case k4 => k_is)
    (case a5 => k_is)
    (case l5 => k_is)
    (case c5 => k_is)
    (case k5 => k_is)
    (case a6 => k_is)
    (case l6 => k_is)
    (case c6 => k_is)
    (case k6 => k_is)
    (case a7 => k_is)
    (case l7 => k_is)
    (case c7 => k_is)
    (case k7 => k_is)
    (case a8 => k_is)
    (case l8 => k_is)
    (case c8 => k_is)
    (case k8 => k_is)
    (case a9 => k_is)
    (case i9 => k_is)
    (case l9 => k_is)
    (case c9 => k_is)
    (case k9 => k_is)
    (case lT9 => k_is)
    (case vT9 => exact ⟨[_], _, rfl, .cons rfl .nil⟩)
    (case lE_bits => k_is)
    (case vE_bits => exact ⟨_, _, rfl, rfl, by decide, .cons ⟨_, rfl⟩ (.cons ⟨_, rfl⟩ (.cons ⟨_, rfl⟩ (.cons ⟨_, rfl⟩ (.cons ⟨_, rfl⟩ (.cons ⟨_, rfl⟩ (.nil))))))⟩)
    (case mk_Wedge => k_is)
    (case kc_Wedge => k_is)
    (case a10 => k_is)
    (case i10 => k_is)
    (case l10 => k_is)
    (case c10 => k_is)
    (case k10 => k_is)
    (case a11 => k_is)
    (case i11 => k_is)
    (case l11 => k_is)
    (case c11 => k_is)
    (case k11 => k_is)
    (case a12 => k_is)
    (case pg12 => k_is)
    (case pt12 => k_is)
    (case i12 => k_is)
    (case l12 => k_is)
    (case c12 => k_is)
    (case k12 => k_is)
    (case a13 => k_is)
    (case pg13 => k_is)
    (case pt13 => k_is)
    (case i13 => k_is)
    (case l13 => k_is)
    (case c13 => k_is)
    (case k13 => k_is)
    (case a14 => k_is)
    (case pg14 => k_is)
    (case pt14 => k_is)
    (case i14 => k_is)
    (case l14 => k_is)
    (case c14 => k_is)
    (case k14 => k_is)
    (case a15 => k_is)
    (case i15 => k_is)
    (case l15 => k_is)
    (case c15 => k_is)
    (case k15 => k_is)
    (case a16 => k_is)
    (case i16 => k_is)
    (case l16 => k_is)
    (case c16 => k_is)
    (case k16 => k_is)
    (case a17 => k_is)
    (case i17 => k_is)
    (case l17 => k_is)
    (case c17 => k_is)
    (case k17 => k_is)
    (case a18 => k_is)
    (case l18 => k_is)
    (case c18 => k_is)
    (case k18 => k_is)
    (case a19 => k_is)
    (case l19 => k_is)
    (case c19 => k_is)
    (case k19 => k_is)
    (case a20 => k_is)
    (case l20 => k_is)
    (case c20 => k_is)
    (case k20 => k_is)
    (case a21 => k_is)
    (case l21 => k_is)
    (case c21 => k_is)
    (case k21 => k_is)
    (case a22 => k_is)
    (case l22 => k_is)
    (case c22 => k_is)
    (case k22 => k_is)
    (case a23 => k_is)
    (case l23 => k_is)
    (case c23 => k_is)
    (case k23 => k_is)
    (case a24 => k_is)
    (case l24 => k_is)
    (case c24 => k_is)
    (case k24 => k_is)
    (case a25 => k_is)
    (case l25 => k_is)
    (case c25 => k_is)
    (case k25 => k_is)
    (case a26 => k_is)
    (case l26 => k_is)
    (case c26 => k_is)
    (case k26 => k_is)
    (case a27 => k_is)
    (case l27 => k_is)
    (case c27 => k_is)
    (case k27 => k_is)
    (case a28 => k_is)
    (case l28 => k_is)
    (case c28 => k_is)
    (case k28 => k_is)
    (case a29 => k_is)
    (case l29 => k_is)
    (case c29 => k_is)
    (case k29 => k_is)
    (case a30 => k_is)
    (case l30 => k_is)
    (case c30 => k_is)
    (case k30 => k_is)
    (case a31 => k_is)
    (case l31 => k_is)
    (case c31 => k_is)
    (case k31 => k_is)
    (case a32 => k_is)
    (case l32 => k_is)
    (case c32 => k_is)
    (case k32 => k_is)
    (case a33 => k_is)
    (case l33 => k_is)
    (case c33 => k_is)
    (case k33 => k_is)
    (case a34 => k_is)
    (case l34 => k_is)
    (case c34 => k_is)
    (case k34 => k_is)
    (case a35 => k_is)
    (case l35 => k_is)
    (case c35 => k_is)
    (case k35 => k_is)
    (case a36 => k_is)
    (case l36 => k_is)
    (case c36 => k_is)
    (case k36 => k_is)
    (case a37 => k_is)
    (case l37 => k_is)
    (case c37 => k_is)
    (case k37 => k_is)
    (case h_sfW => first | rfl | k_is)
    (case h_sI => first | rfl | k_is)
    (case h_sC => first | rfl | k_is)
    (case h_iM => k_is)
    (case h_iR => k_is)
    (case h_jInt => first | rfl | k_is)
    (case h_jBool => first | rfl | k_is)
    (case h_jList => first | rfl | k_is)
    (case h_jStr => first | rfl | k_is)
    (case h_jTuple => first | rfl | k_is)
