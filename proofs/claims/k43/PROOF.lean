import PyProof.Rows.All
import Wide.All
import OpenK.AllK
import Wide.FinOn
import HandS.ForMost
import HandS.OwnEq
import HandS.SlotsOwn
import KE.KOpsOwn
import PyProof.ListMulAny
import PyProof.ConsumeWalk
import PyProof.WalksMore
import HandS.IsInst
import HandS.Wide
import HandS.Zip
import HandS.Defaults
import HandS.Walk
import KE.BitLaws
import HandS.Ends
import KE.KCallOwn
import HandS.ClsMeth
import HandS.MakeKwOnly
import PyProof.InstEq
import KE.KFmtOwn
import HandS.List
import PyProof.WalkInts
import HandS.ForExc
import HandS.ExcInit
import HandS.ExcIs
import HandS.ExcField
import HandS.RevRange
import HandS.Conv
import HandS.SortInts
import PyProof.CollectIter
import PyProof.ListNew
import PyProof.FactsAll.range_iterator_1
import HandS.ExcOwn
import HandS.Star
import HandS.Words
import HandS.Iter
import KE.GoesEnum
import HandS.Sort
import HandS.Gcd
import HandS.Property
import HandS.WideBits
import KE.GoesZip
import KE.DataAny
import HandS.Style
import HandS.IterVal
import PySem.Challenge.RW_turnsleft_k43_whole_staircases
set_option Elab.async false
set_option linter.all false
set_option maxRecDepth 100000
namespace TL
open PySem PySem.Spec PyProof.Rows L2
section
variable {X : Cx} {pins : List (Addr × Obj)} {σ : L2.St} {H : Hp} {s : Shared} {a b C dx dy f : Addr} {fs gs : List (Str × V)} {k : Nat} {fd : FuncData} {ps : List Str} {sp : Sp} {CX : CXT} {E : XK}
theorem inst_at (I : Inv X pins σ H s) (h : H a = some (.ins C dx fs)) : ∃ od, PySem.W.InstAt s.heap a (PySem.W.instObj C dx) C (some od) := by
  obtain ⟨mA, J, _⟩ := ins_get I.hok h
  obtain ⟨od, J, _⟩ := J.look
  exact ⟨od, J⟩
/-- what an own operator's def asks: the def that stands at f in the class at C under a name -/
structure OpAt (K : PySem.W.Frag) (C f : Addr) (name : Str) : Prop where
  sf : PySem.W.selfFirst K C = true
  at_ : PySem.W.findIn K (.ref C) name = some (some (.ref f))
  fn : PySem.W.isFn K (.ref f) = true
/-- x op y, both instances of the class at C -/
def rOw (C : Addr) (sp : Sp) (E : XK) : R2 := fun x y H Q => ∃ a dx fs b dy gs, x = .ref a ∧ y = .ref b ∧ H a = some (.ins C dx fs) ∧ H b = some (.ins C dy gs) ∧ sp [x, y] H Q E
theorem cb {P : Value → Shared → Prop} {z : V} {v : Value} {s' : Shared} (r : RelV z v) (h : P v s') : PySem.W.CmpBack P v s' := by
  cases z with
  | non => cases (show v = Value.none from r); exact h
  | bl b => cases (show v = Value.bool b from r); exact h
  | int i => obtain ⟨t, e⟩ := (show ∃ t, v = Value.int i t from r); cases e; exact h
  | str x => obtain ⟨t, e⟩ := (show ∃ t, v = Value.str x t from r); cases e; exact h
  | byt b => obtain ⟨t, e⟩ := (show ∃ t, v = Value.bytes b t from r); cases e; exact h
  | flt b => obtain ⟨t, e⟩ := (show ∃ t, v = Value.float b t from r); cases e; exact h
  | ref a => cases (show v = Value.ref a from r); exact h
  | ty n => cases (show v = Value.type n from r); exact h
theorem op_ow {op : Operator} (o : OpAt X.K C f (PySem.dunder op.info.2)) (F : FnOk X.prog X.w X.K X.mg X.base CX k f fd ps sp) (hr : Room k X.A) (hb : Binds X.K fd ps []) (hx : Passes CX X E) : OpR X (binaryOp op) (rOw C sp E) := by
  intro pins s σ H x y v u Q I rx ry h
  obtain ⟨a, dx, fs, b, dy, gs, rfl, rfl, ha, hb', q⟩ := h
  cases (show v = Value.ref a from rx)
  cases (show u = Value.ref b from ry)
  obtain ⟨od, J⟩ := inst_at I ha
  obtain ⟨od', J'⟩ := inst_at I hb'
  obtain ⟨m, hF⟩ := I.fr
  refine PySem.W.binop_K hF I.ok.mod.kin J J'.type o.sf o.at_ o.fn ?_
  refine wpAny_mono (run_fn (us := [.ref a, .ref b]) (vs := [.ref a, .ref b]) F hr hb .nil hx I (.cons rfl (.cons rfl .nil)) q) (fun w s' z => ?_) fun _ _ x => x
  obtain ⟨z', H', I', rz, qz⟩ := z
  exact cb rz ⟨z', H', I', rz, qz⟩
/-- x op n, x an instance of the class at C, n a whole number -/
def rOwI (C : Addr) (sp : Sp) (E : XK) : R2 := fun x y H Q => ∃ a dx fs n, x = .ref a ∧ y = .int n ∧ H a = some (.ins C dx fs) ∧ sp [x, y] H Q E
theorem op_owI {op : Operator} {g : Addr} {fo ro : Option Value} (o : OpAt X.K C f (PySem.dunder op.info.2)) (hr1 : PySem.W.findIn X.K (.ref C) (PySem.dunderR op.info.2) = some (some (.ref g)))
    (h1 : PySem.W.findIn X.K (.type "int") (PySem.dunder op.info.2) = some fo) (h2 : PySem.W.findIn X.K (.type "int") (PySem.dunderR op.info.2) = some ro) (hsub : PySem.W.subIn X.K (.type "int") (.ref C) = some false)
    (F : FnOk X.prog X.w X.K X.mg X.base CX k f fd ps sp) (hr : Room k X.A) (hb : Binds X.K fd ps []) (hx : Passes CX X E) : OpR X (binaryOp op) (rOwI C sp E) := by
  intro pins s σ H x y v u Q I rx ry h
  obtain ⟨a, dx, fs, n, rfl, rfl, ha, q⟩ := h
  cases (show v = Value.ref a from rx)
  obtain ⟨t, rfl⟩ := (show ∃ t, u = Value.int n t from ry)
  obtain ⟨od, J⟩ := inst_at I ha
  obtain ⟨m, hF⟩ := I.fr
  refine PySem.W.ksp_binT (T := "int") hF I.ok.mod.kin J rfl o.sf o.at_ o.fn hr1 (.inr ⟨_, rfl⟩) h1 h2 hsub ?_
  refine wpAny_mono (run_fn (us := [.ref a, .int n t]) (vs := [.ref a, .int n]) F hr hb .nil hx I (.cons rfl (.cons ⟨_, rfl⟩ .nil)) q) (fun w s' z => ?_) fun _ _ x => x
  obtain ⟨z', H', I', rz, qz⟩ := z
  exact cb rz ⟨z', H', I', rz, qz⟩
/-- -x -/
def rNeg (C : Addr) (sp : Sp) (E : XK) : V → Hp → VK → Prop := fun x H Q => ∃ a dx fs, x = .ref a ∧ H a = some (.ins C dx fs) ∧ sp [x] H Q E
theorem un_ow (at_ : PySem.W.findIn X.K (.ref C) "__neg__" = some (some (.ref f))) (fn : PySem.W.isFn X.K (.ref f) = true) (F : FnOk X.prog X.w X.K X.mg X.base CX k f fd ps sp) (hr : Room k X.A) (hb : Binds X.K fd ps []) (hx : Passes CX X E) :
    UnR X (unaryOp .USub) (rNeg C sp E) := by
  intro pins s σ H x v Q I rx h
  obtain ⟨a, dx, fs, rfl, ha, q⟩ := h
  cases (show v = Value.ref a from rx)
  obtain ⟨od, J⟩ := inst_at I ha
  obtain ⟨m, hF⟩ := I.fr
  refine PySem.W.ksp_neg hF I.ok.mod.kin J at_ fn ?_
  exact run_fn (us := [.ref a]) (vs := [.ref a]) F hr hb .nil hx I (.cons rfl .nil) q
/-- x == y, both instances of the class at C -/
theorem op_owEq (at_ : PySem.W.findIn X.K (.ref C) "__eq__" = some (some (.ref f))) (fn : PySem.W.isFn X.K (.ref f) = true) (F : FnOk X.prog X.w X.K X.mg X.base CX k f fd ps sp) (hr : Room k X.A) (hb : Binds X.K fd ps []) (hx : Passes CX X E) :
    OpR X (compareOp .Eq) (rOw C sp E) := by
  intro pins s σ H x y v u Q I rx ry h
  obtain ⟨a, dx, fs, b, dy, gs, rfl, rfl, ha, hb', q⟩ := h
  cases (show v = Value.ref a from rx)
  cases (show u = Value.ref b from ry)
  obtain ⟨od, J⟩ := inst_at I ha
  obtain ⟨od', J'⟩ := inst_at I hb'
  obtain ⟨m, hF⟩ := I.fr
  refine PySem.W.cmp_K (op := .Eq) (tb := .ref C) hr.units0 hF I.ok.mod.kin J J'.type (by simp [PySem.W.notFirst]) at_ fn ?_
  refine wpAny_mono (run_fn (us := [.ref a, .ref b]) (vs := [.ref a, .ref b]) F hr hb .nil hx I (.cons rfl (.cons rfl .nil)) q) (fun w s' z => ?_) fun _ _ x => x
  obtain ⟨z', H', I', rz, qz⟩ := z
  exact cb rz ⟨z', H', I', rz, qz⟩
/-- any(t), t a tuple of whole numbers -/
theorem iter_anyT {prog : Program} {w : World} {A : Around} {E : Value → Shared → Prop} {s : Shared} {l : Addr} {items : Array Value} {Q : Value → Shared → Prop} (hl : s.heap.IsTuple l items)
    (h : ∀ s₂ : Shared, s₂ = { s with heap := s.heap.push { cls := .type "tuple_iterator", data := .fields #[.ref l, .int 0 0] } } →
      (s₂.heap.IsTupleIter s.heap.objs.size l 0 ∧ s₂.heap.IsTuple l items) → l ≠ s.heap.objs.size → Q (.ref s.heap.objs.size) s₂) : wpAny (model prog w) A (pyIter (.ref l)) Q E s := by
  have hlt : l < s.heap.objs.size := by obtain ⟨_, e, _⟩ := hl; exact Heap.lt_size e
  exact wpAny_pyIter_tuple hl (h _ rfl ⟨⟨_, Heap.get?_push_size _ rfl, rfl, rfl⟩, hl.push _⟩ (Nat.ne_of_lt hlt))
theorem truth_ints {prog : Program} {w : World} {A : Around} {ns : List Int} {its : List Value} (e : Vals (ns.map V.int) its) :
    TruthOf prog w A (fun i v => its.toArray[i]? = some v) (fun i => ns.getD i 0 != 0) := fun i v s Q E hv hq => by
  have hv' : its[i]? = some v := by simpa using hv
  have hl := e.length
  rw [List.length_map] at hl
  have hi : i < its.length := (List.getElem?_eq_some_iff.mp hv').1
  have hi2 : i < ns.length := by omega
  obtain ⟨u, hu, ru⟩ := e.get (i := i) (x := V.int ns[i]) (by rw [List.getElem?_map, List.getElem?_eq_getElem hi2]; rfl)
  rw [hv'] at hu
  cases hu
  obtain ⟨t, rfl⟩ := ru
  have hg : ns.getD i 0 = ns[i] := by rw [List.getD_eq_getElem?_getD, List.getElem?_eq_getElem hi2]; rfl
  have hq' : Q (ns.getD i 0 != 0) s := hq
  rw [hg] at hq'
  exact PyProof.Rows.truthy_int hq'
theorem any_rangeI : ∀ ns : List Int, (List.range ns.length).any (fun i => ns.getD i 0 != 0) = ns.any (fun n => n != 0)
  | [] => rfl
  | b :: bs => by
    rw [List.length_cons, List.range_succ_eq_map, List.any_cons, List.any_map, List.any_cons, ← any_rangeI bs]
    all_goals rfl
def rAnyT (K : PySem.W.Frag) : List V → Hp → VK → Prop := fun vs H Q => ∃ (a : Addr) (ns : List Int), vs = [V.ref a] ∧ SqT K H a (ns.map V.int) ∧ Q (.bl (ns.any fun n => n != 0)) H
theorem cr_anyT (hc : X.calm = true) : CallR X (.builtin "any") (rAnyT X.K) := by
  intro pins s σ H vs us Q I r h
  obtain ⟨a, ns, rfl, hs, q⟩ := h
  obtain ⟨its, rv, hl, _⟩ := I.tuple hs
  rw [Vals.ref1 r]
  have hlen := rv.length
  rw [List.length_map] at hlen
  refine call_any_walk (iter_anyT (items := its.toArray) (show s.heap.IsTuple a its.toArray from hl) fun s₂ e2 st hne => ?_)
  subst e2
  refine ⟨_, _, _, _, _, _, _, rfl, Walks.tuple (A := X.A.in1) (I.ok.hd hc) _ a hne its.toArray, st, truth_ints rv, fun h' tk hk => ?_⟩
  refine ⟨.bl _, H, I.kept fun b o eo => hk b o (fun hmem => ?_) (Heap.get?_push_of_some _ eo), ?_, q⟩
  · rcases List.mem_cons.mp hmem with e1 | hmem
    · exact absurd (e1 ▸ Heap.lt_size eo) (Nat.lt_irrefl _)
    · cases hmem
  · show Value.bool _ = Value.bool _
    rw [← any_rangeI, List.size_toArray, ← hlen]
/-- bool(x), x an instance with its own __bool__ -/
theorem truthy_X {M : Model} {A : Around} {E' : Value → Shared → Prop} {s : Shared} {K : PySem.W.Frag} {x C f : Addr} {ox : Obj} {od : Option Obj} {Q : Bool → Shared → Prop} (X₀ : K.In s.heap) (I : PySem.W.InstAt s.heap x ox C od) (hs : PySem.W.findIn K (.ref C) "__bool__" = some (some (.ref f))) (hf : PySem.W.isFn K (.ref f) = true)
    (h : wpAny M A (call (.ref f) [.ref x]) (fun r s' => ∃ b, r = Value.bool b ∧ Q b s') E' s) : wpAny M A (truthy (.ref x)) Q E' s := by
  unfold truthy
  refine wpAny_bind (m := callSpecial? (.ref x) (Str.ofString "__bool__")) (PySem.W.special_fn X₀ I hs (beq_iff_eq.mp hf) (wpAny_mono h (fun r s' hr => ?_) fun _ _ y => y))
  obtain ⟨b, rfl, hr⟩ := hr
  exact wpAny_pure hr
theorem bool_own {prog : Program} {w : World} {A : Around} {E' : Value → Shared → Prop} {s : Shared} {K : PySem.W.Frag} {x C f : Addr} {ox : Obj} {od : Option Obj} {Q : Value → Shared → Prop} (X₀ : K.In s.heap) (I : PySem.W.InstAt s.heap x ox C od) (hs : PySem.W.findIn K (.ref C) "__bool__" = some (some (.ref f))) (hf : PySem.W.isFn K (.ref f) = true)
    (h : wpAny (model prog w) A.in1.in1 (call (.ref f) [.ref x]) (fun r s' => ∃ b, r = Value.bool b ∧ Q r s') E' s) : wpAny (model prog w) A (call (.type "bool") [.ref x]) Q E' s := by
  refine callType_codes (T := "bool") (Bi := Builtin.«object.__init__») (Q₁ := fun r s₁ => ∃ b, r = Value.bool b ∧ Q r s₁) PySem.F.called_bool (PySem.F.typeCall_bool_1 _) PySem.F.entry_object_init ?_ ?_
  · refine codeAny_of_tree ?_
    show wpAny _ A.in1.in1 (do checkBuiltinCall "bool.__new__" ⟨[.type "bool", .ref x], []⟩; again (.builtin "bool.__new__" ⟨[.type "bool", .ref x], []⟩)) _ _ s
    refine wpAny_bind (wpAny_of_eq (PySem.F.newCall_bool_1 _) (wpAny_pure ⟨plainId_quiet (by decide +kernel) _, codeAny_builtin PySem.F.entry_bool_new ?_⟩))
    rw [Around.under_plainId (by decide +kernel) _]
    unfold Builtin.«bool.__new__»
    refine wpAny_bind (wpAny_of_eq (a := true) rfl ?_)
    refine PySem.W.KFB.if_not rfl ?_
    refine wpAny_bind (wpAny_of_eq (a := true) PySem.F.conv_sub_bool ?_)
    refine PySem.W.KFB.if_not rfl ?_
    refine wpAny_bind (wpAny_of_eq (a := [Value.ref x]) rfl ?_)
    refine wpAny_bind (truthy_X X₀ I hs hf (wpAny_mono h (fun r s₁ hr => ?_) fun _ _ y => y))
    obtain ⟨b, rfl, hq⟩ := hr
    exact ⟨b, rfl, wpAny_pure ⟨b, rfl, hq⟩⟩
  · rintro obj s₁ ⟨b, rfl, hq⟩
    exact ⟨PySem.typeIs_bool _ _, PySem.F.args_object_init_2 _ _, object_init_meets PySem.F.called_bool.init.lookup PySem.F.called_bool.made (by decide) prog w A.in1 _ s₁ ⟨PySem.typeIs_bool _ _, rfl, hq⟩⟩
def rBoolOw (C : Addr) (sp : Sp) (E : XK) : List V → Hp → VK → Prop := fun vs H Q => ∃ a dx fs, vs = [.ref a] ∧ H a = some (.ins C dx fs) ∧ sp [.ref a] H (fun v H' => ∃ b, v = .bl b ∧ Q v H') E
theorem run_at2 {A : Around} {Q : VK} {us : List Value} {ws : List V} (F : FnOk X.prog X.w X.K X.mg X.base CX k f fd ps sp) (hr : Room k A) (e0 : Env0 X.prog X.w X.K X.mg X.base A X.stack s H) (hb : Binds X.K fd ps []) (hx : Passes CX X E) (I : Inv X pins σ H s) (r : Vals ws us) (h : sp ws H Q E) :
    wpAny (model X.prog X.w) A (call (.ref f) us) (EP X pins σ Q) X.xe s := by
  have hl : us.length = ps.length := by rw [← r.length]; exact F.len _ _ _ _ h
  refine wpAny_call (codeAny_mono (F.run A X.stack s H ⟨us, []⟩ us ws Q E hr e0 (by have := hb s us I.kIn (by simpa using hl); simpa using this) r h) fun r s' hq => ?_)
  cases r with
  | error e => exact hx pins σ H s e s' I hq
  | ok fl =>
    cases fl with
    | ret u => exact I.after hq
    | next => exact False.elim hq
    | brk => exact False.elim hq
    | cont => exact False.elim hq
theorem call_boolOw (at_ : PySem.W.findIn X.K (.ref C) "__bool__" = some (some (.ref f))) (fn : PySem.W.isFn X.K (.ref f) = true) (F : FnOk X.prog X.w X.K X.mg X.base CX k f fd ps sp) (hr : Room (k + 2) X.A) (hb : Binds X.K fd ps []) (hx : Passes CX X E) :
    CallR X (.type "bool") (rBoolOw C sp E) := by
  intro pins s σ H vs us Q I r h
  obtain ⟨a, dx, fs, rfl, ha, q⟩ := h
  obtain rfl := Vals.ref1 r
  obtain ⟨od, J⟩ := inst_at I ha
  have hr2 : Room k X.A.in1.in1 := (show Room (k + 1) X.A.in1 from Room.in1 hr).in1
  refine bool_own I.kIn J at_ fn (wpAny_mono (run_at2 (us := [.ref a]) (ws := [.ref a]) F hr2 I.env0.in1.in1 hb hx I (.cons rfl .nil) q) (fun w s' z => ?_) fun _ _ x => x)
  obtain ⟨z', H', I', rz, b, rfl, qz⟩ := z
  cases (show w = Value.bool b from rz)
  exact ⟨b, rfl, .bl b, H', I', rfl, qz⟩
/-- n op x, n a whole number, x an instance of the class at C with the reflected def -/
theorem int_mul_ref (a : Int) (t : Tok) (x C dx : Addr) :
    Meets (Builtin.«int.__mul__» ⟨[.int a t, .ref x], []⟩) (fun _ R s => (∃ od, s.heap.get? x = some (PySem.W.instObj C dx) ∧ od = dx) ∧ R (.ok (.ret Value.notImplemented)) s) :=
  .of_wp fun prog w A R s h => by obtain ⟨hp, g, d, tk, os⟩ := s; obtain ⟨⟨_, hl, _⟩, h⟩ := h; wp_walk; exact ⟨_, rfl, h⟩
def rIOw (C : Addr) (sp : Sp) (E : XK) : R2 := fun x y H Q => ∃ a dx fs n, x = .int n ∧ y = .ref a ∧ H a = some (.ins C dx fs) ∧ sp [y, x] H Q E
set_option maxHeartbeats 2000000 in
theorem binR {prog : Program} {w : World} {A : Around} {E' : Value → Shared → Prop} {s : Shared} {K : PySem.W.Frag} {x C f g : Addr} {dx : Addr} {od : Option Obj} {n : Int} {t : Tok} {Q : Value → Shared → Prop}
    (X : K.In s.heap) (I : PySem.W.InstAt s.heap x (PySem.W.instObj C dx) C od) (hc : PySem.W.selfFirst K C = true) (hs : PySem.W.findIn K (.ref C) (PySem.dunder "mul") = some (some (.ref g)))
    (hr : PySem.W.findIn K (.ref C) (PySem.dunderR "mul") = some (some (.ref f))) (hf : PySem.W.isFn K (.ref f) = true) (hsub : PySem.W.subIn K (.ref C) (.type "int") = some false) (hx : s.heap.get? x = some (PySem.W.instObj C dx))
    (h : wpAny (model prog w) A (call (.ref f) [.ref x, .int n t]) (PySem.W.CmpBack Q) E' s) : wpAny (model prog w) A (binaryOp .Mult (.int n t) (.ref x)) Q E' s := by
  obtain ⟨cd, rest, hcd, hm⟩ := PySem.W.ksp_first hc
  have one := PySem.W.ksp_try (name := PySem.dunderR "mul") X I hr hf h
  obtain ⟨hh, gg, d, tt, os⟩ := s
  have L1 : PySem.W.Looks (model prog w) hh (typeOf (.ref x)) (.ref C) := I.type
  have L2 : PySem.W.Looks (model prog w) hh (typeOf (.int n t)) (.type "int") := PySem.W.Looks.of_pure rfl
  have L3 : PySem.W.Looks (model prog w) hh (fillsNumberSlot (.ref C) "mul") true := PySem.W.fills_K (nm := "mul") X hcd hm hs
  have L4 : PySem.W.Looks (model prog w) hh (fillsNumberSlot (.type "int") "mul") true := PySem.W.Looks.of_pure PySem.F.fills_int_mul
  have L5 : PySem.W.Looks (model prog w) hh (isSubtype (.ref C) (.type "int")) false := PySem.W.looks_subIn X hsub
  have L7 : PySem.W.Looks (model prog w) hh (numberSlotInPython (.type "int") "mul") false := PySem.W.Looks.of_pure rfl
  have hne : (Value.type "int" == Value.ref C) = false := Bool.eq_false_iff.mpr fun q => by cases beq_iff_eq.mp q
  show wpAny _ _ (binaryOp .Mult (.int n t) (.ref x)) _ _ _
  simp only [binaryOp, Operator.info]
  refine wpAny_holding (wpAny_bind ?_)
  unfold binaryOp1
  refine wpAny_bind (L2.at (wpAny_bind (L1.at (wpAny_bind (L4.at ?_)))))
  simp only [hne, Bool.false_eq_true, if_false]
  refine wpAny_bind (L3.at ?_)
  simp only [Bool.and_self, if_true]
  refine wpAny_bind (L5.at ?_)
  simp only [Bool.false_eq_true, if_false, Bool.not_false, Bool.and_self, if_true, pure_bind]
  refine wpAny_bind (L7.at ?_)
  simp only [Bool.false_eq_true, if_false, pure_bind]
  refine wpAny_bind (wpAny_tryMethod_declines (PySem.typeIs_int _ n t) PySem.F.slot_int_mul (call_meets PySem.F.slot_int_mul (PySem.typeIs_int _ n t) PySem.F.entry_int_mul (PySem.F.args_int_mul_2 _ _) (int_mul_ref n t x C dx) ⟨⟨dx, hx, rfl⟩, rfl, ?_⟩))
  simp only [Bool.false_eq_true, if_false, pure_bind]
  refine wpAny_bind (wpAny_mono one (fun r s' hr' => ?_) fun _ _ e => e)
  obtain ⟨v, rfl, hq⟩ := hr'
  exact wpAny_bind (wpAny_rule (wpAny_pure (wpAny_pure hq)))
theorem op_IOw (o : OpAt X.K C f (PySem.dunderR "mul")) {g : Addr} (hm : PySem.W.findIn X.K (.ref C) (PySem.dunder "mul") = some (some (.ref g))) (hsub : PySem.W.subIn X.K (.ref C) (.type "int") = some false)
    (F : FnOk X.prog X.w X.K X.mg X.base CX k f fd ps sp) (hr : Room k X.A) (hb : Binds X.K fd ps []) (hx : Passes CX X E) : OpR X (binaryOp .Mult) (rIOw C sp E) := by
  intro pins s σ H x y v u Q I rx ry h
  obtain ⟨a, dx, fs, n, rfl, rfl, ha, q⟩ := h
  obtain ⟨t, rfl⟩ := (show ∃ t, v = Value.int n t from rx)
  cases (show u = Value.ref a from ry)
  obtain ⟨mA, O, _⟩ := ins_get I.hok ha
  obtain ⟨od, J, _⟩ := O.look
  refine binR I.kIn J o.sf hm o.at_ o.fn hsub O.obj ?_
  refine wpAny_mono (run_fn (us := [.ref a, .int n t]) (vs := [.ref a, .int n]) F hr hb .nil hx I (.cons rfl (.cons ⟨_, rfl⟩ .nil)) q) (fun w s' z => ?_) fun _ _ x => x
  obtain ⟨z', H', I', rz, qz⟩ := z
  exact cb rz ⟨z', H', I', rz, qz⟩
end
theorem d_add : PySem.dunder Operator.Add.info.2 = ("__add__" : Str) := by decide +kernel
theorem d_sub : PySem.dunder Operator.Sub.info.2 = ("__sub__" : Str) := by decide +kernel
theorem d_mul : PySem.dunder Operator.Mult.info.2 = ("__mul__" : Str) := by decide +kernel
theorem d_mul' : PySem.dunder "mul" = ("__mul__" : Str) := by decide +kernel
theorem d_rmul : PySem.dunderR Operator.Mult.info.2 = ("__rmul__" : Str) := by decide +kernel
theorem d_rmul' : PySem.dunderR "mul" = ("__rmul__" : Str) := by decide +kernel
end TL
namespace TL
open PySem L2
/-! ### heaps -/
theorem Same.new {H : Hp} {p : Addr} {o : HO} (h : H p = none) : Same H (upd H p o) := fun b u q => by rw [upd_ne (ne_of_none q h)]; exact q
theorem seqT {K : PySem.W.Frag} {H H' : Hp} {a : Addr} {xs : List V} (e : Same H H') (h : SqT K H a xs) : SqT K H' a xs := by
  rcases h with (h | ⟨o, h⟩) | h
  · exact .inl (.inl (e _ _ h))
  · exact .inl (.inr ⟨o, e _ _ h⟩)
  · exact .inr h
/-- but for what stands at g, all that was tracked is as it was -/
def Kb (g : Addr) (H H' : Hp) : Prop := ∀ a o, H a = some o → a ≠ g → H' a = some o
theorem Kb.refl (g : Addr) (H : Hp) : Kb g H H := fun _ _ h _ => h
theorem Kb.trans {g : Addr} {H H1 H2 : Hp} (a : Kb g H H1) (b : Kb g H1 H2) : Kb g H H2 := fun c o h n => b c o (a c o h n) n
theorem Kb.same {g : Addr} {H H' : Hp} (a : Same H H') : Kb g H H' := fun c o h _ => a c o h
theorem Kb.at {g : Addr} {H : Hp} {o : HO} : Kb g H (upd H g o) := fun c u h n => by rw [upd_ne n]; exact h
theorem Kb.new {g p : Addr} {H H' : Hp} {o : HO} (a : Kb g H H') (h : H' p = none) : Kb g H (upd H' p o) := a.trans (Kb.same (Same.new h))
theorem tyx_L {K : PySem.W.Frag} {H : Hp} {a : Addr} {xs : List V} (h : SqL K H a xs) : TyX K H (.ref a) (.type "list") := by
  rcases h with (h | ⟨o, h⟩) | ⟨o, its, n, h, c, _⟩
  · exact .base (.lst h)
  · exact .base (.frz h)
  · exact .kList h c
theorem tyx_T {K : PySem.W.Frag} {H : Hp} {a : Addr} {xs : List V} (h : SqT K H a xs) : TyX K H (.ref a) (.type "tuple") := by
  rcases h with (h | ⟨o, h⟩) | ⟨o, its, n, h, c, _⟩
  · exact .base (.tup h)
  · exact .fTuple h
  · exact .kTuple h c
theorem fm {i j : Int} (h : 0 < j) : 0 ≤ i.fmod j ∧ i.fmod j < j := ⟨Int.fmod_nonneg_of_pos _ h, Int.fmod_lt_of_pos _ h⟩
theorem kt_int_list {K : PySem.W.Frag} : PySem.W.kitOne K (.type "int") (.type "list") = some false := kit_ty (by decide +kernel)
theorem kt_int_tuple {K : PySem.W.Frag} : PySem.W.kitOne K (.type "int") (.type "tuple") = some false := kit_ty (by decide +kernel)
theorem kt_int_bool {K : PySem.W.Frag} : PySem.W.kitOne K (.type "int") (.type "bool") = some false := kit_ty (by decide +kernel)
theorem kt_int_int {K : PySem.W.Frag} : PySem.W.kitOne K (.type "int") (.type "int") = some true := kit_ty (by decide +kernel)
theorem kt_int_str {K : PySem.W.Frag} : PySem.W.kitOne K (.type "int") (.type "str") = some false := kit_ty (by decide +kernel)
theorem kt_int_dict {K : PySem.W.Frag} : PySem.W.kitOne K (.type "int") (.type "dict") = some false := kit_ty (by decide +kernel)
theorem kt_bool_list {K : PySem.W.Frag} : PySem.W.kitOne K (.type "bool") (.type "list") = some false := kit_ty (by decide +kernel)
theorem kt_bool_tuple {K : PySem.W.Frag} : PySem.W.kitOne K (.type "bool") (.type "tuple") = some false := kit_ty (by decide +kernel)
theorem kt_bool_bool {K : PySem.W.Frag} : PySem.W.kitOne K (.type "bool") (.type "bool") = some true := kit_ty (by decide +kernel)
theorem kt_bool_int {K : PySem.W.Frag} : PySem.W.kitOne K (.type "bool") (.type "int") = some true := kit_ty (by decide +kernel)
theorem kt_bool_str {K : PySem.W.Frag} : PySem.W.kitOne K (.type "bool") (.type "str") = some false := kit_ty (by decide +kernel)
theorem kt_bool_dict {K : PySem.W.Frag} : PySem.W.kitOne K (.type "bool") (.type "dict") = some false := kit_ty (by decide +kernel)
theorem kt_str_list {K : PySem.W.Frag} : PySem.W.kitOne K (.type "str") (.type "list") = some false := kit_ty (by decide +kernel)
theorem kt_str_tuple {K : PySem.W.Frag} : PySem.W.kitOne K (.type "str") (.type "tuple") = some false := kit_ty (by decide +kernel)
theorem kt_str_bool {K : PySem.W.Frag} : PySem.W.kitOne K (.type "str") (.type "bool") = some false := kit_ty (by decide +kernel)
theorem kt_str_int {K : PySem.W.Frag} : PySem.W.kitOne K (.type "str") (.type "int") = some false := kit_ty (by decide +kernel)
theorem kt_str_str {K : PySem.W.Frag} : PySem.W.kitOne K (.type "str") (.type "str") = some true := kit_ty (by decide +kernel)
theorem kt_str_dict {K : PySem.W.Frag} : PySem.W.kitOne K (.type "str") (.type "dict") = some false := kit_ty (by decide +kernel)
theorem kt_NoneType_list {K : PySem.W.Frag} : PySem.W.kitOne K (.type "NoneType") (.type "list") = some false := kit_ty (by decide +kernel)
theorem kt_NoneType_tuple {K : PySem.W.Frag} : PySem.W.kitOne K (.type "NoneType") (.type "tuple") = some false := kit_ty (by decide +kernel)
theorem kt_NoneType_bool {K : PySem.W.Frag} : PySem.W.kitOne K (.type "NoneType") (.type "bool") = some false := kit_ty (by decide +kernel)
theorem kt_NoneType_int {K : PySem.W.Frag} : PySem.W.kitOne K (.type "NoneType") (.type "int") = some false := kit_ty (by decide +kernel)
theorem kt_NoneType_str {K : PySem.W.Frag} : PySem.W.kitOne K (.type "NoneType") (.type "str") = some false := kit_ty (by decide +kernel)
theorem kt_NoneType_dict {K : PySem.W.Frag} : PySem.W.kitOne K (.type "NoneType") (.type "dict") = some false := kit_ty (by decide +kernel)
theorem kt_list_list {K : PySem.W.Frag} : PySem.W.kitOne K (.type "list") (.type "list") = some true := kit_ty (by decide +kernel)
theorem kt_list_tuple {K : PySem.W.Frag} : PySem.W.kitOne K (.type "list") (.type "tuple") = some false := kit_ty (by decide +kernel)
theorem kt_list_bool {K : PySem.W.Frag} : PySem.W.kitOne K (.type "list") (.type "bool") = some false := kit_ty (by decide +kernel)
theorem kt_list_int {K : PySem.W.Frag} : PySem.W.kitOne K (.type "list") (.type "int") = some false := kit_ty (by decide +kernel)
theorem kt_list_str {K : PySem.W.Frag} : PySem.W.kitOne K (.type "list") (.type "str") = some false := kit_ty (by decide +kernel)
theorem kt_list_dict {K : PySem.W.Frag} : PySem.W.kitOne K (.type "list") (.type "dict") = some false := kit_ty (by decide +kernel)
theorem kt_tuple_list {K : PySem.W.Frag} : PySem.W.kitOne K (.type "tuple") (.type "list") = some false := kit_ty (by decide +kernel)
theorem kt_tuple_tuple {K : PySem.W.Frag} : PySem.W.kitOne K (.type "tuple") (.type "tuple") = some true := kit_ty (by decide +kernel)
theorem kt_tuple_bool {K : PySem.W.Frag} : PySem.W.kitOne K (.type "tuple") (.type "bool") = some false := kit_ty (by decide +kernel)
theorem kt_tuple_int {K : PySem.W.Frag} : PySem.W.kitOne K (.type "tuple") (.type "int") = some false := kit_ty (by decide +kernel)
theorem kt_tuple_str {K : PySem.W.Frag} : PySem.W.kitOne K (.type "tuple") (.type "str") = some false := kit_ty (by decide +kernel)
theorem kt_tuple_dict {K : PySem.W.Frag} : PySem.W.kitOne K (.type "tuple") (.type "dict") = some false := kit_ty (by decide +kernel)
theorem rIsi_mk {K : PySem.W.Frag} {H : Hp} {Q : VK} {x c : V} {t u : Value} {b : Bool} (ty : TyX K H x t) (cl : ClsV c u) (e : PySem.W.kitOne K t u = some b) (q : Q (.bl b) H) : rIsi K [x, c] H Q := ⟨x, c, t, u, b, rfl, cl, ty, e, q⟩
theorem ri_int_list {K : PySem.W.Frag} {H : Hp} {Q : VK} {i : Int} (q : Q (.bl false) H) : rIsi K [.int i, .ty "list"] H Q := rIsi_mk (TyX.base (TyOf.int _)) (ClsV.ty _) kt_int_list q
theorem ri_int_tuple {K : PySem.W.Frag} {H : Hp} {Q : VK} {i : Int} (q : Q (.bl false) H) : rIsi K [.int i, .ty "tuple"] H Q := rIsi_mk (TyX.base (TyOf.int _)) (ClsV.ty _) kt_int_tuple q
theorem ri_int_bool {K : PySem.W.Frag} {H : Hp} {Q : VK} {i : Int} (q : Q (.bl false) H) : rIsi K [.int i, .ty "bool"] H Q := rIsi_mk (TyX.base (TyOf.int _)) (ClsV.ty _) kt_int_bool q
theorem ri_int_int {K : PySem.W.Frag} {H : Hp} {Q : VK} {i : Int} (q : Q (.bl true) H) : rIsi K [.int i, .ty "int"] H Q := rIsi_mk (TyX.base (TyOf.int _)) (ClsV.ty _) kt_int_int q
theorem ri_int_str {K : PySem.W.Frag} {H : Hp} {Q : VK} {i : Int} (q : Q (.bl false) H) : rIsi K [.int i, .ty "str"] H Q := rIsi_mk (TyX.base (TyOf.int _)) (ClsV.ty _) kt_int_str q
theorem ri_int_dict {K : PySem.W.Frag} {H : Hp} {Q : VK} {i : Int} (q : Q (.bl false) H) : rIsi K [.int i, .ty "dict"] H Q := rIsi_mk (TyX.base (TyOf.int _)) (ClsV.ty _) kt_int_dict q
theorem ri_bool_list {K : PySem.W.Frag} {H : Hp} {Q : VK} {c : Bool} (q : Q (.bl false) H) : rIsi K [.bl c, .ty "list"] H Q := rIsi_mk (TyX.base (TyOf.bl _)) (ClsV.ty _) kt_bool_list q
theorem ri_bool_tuple {K : PySem.W.Frag} {H : Hp} {Q : VK} {c : Bool} (q : Q (.bl false) H) : rIsi K [.bl c, .ty "tuple"] H Q := rIsi_mk (TyX.base (TyOf.bl _)) (ClsV.ty _) kt_bool_tuple q
theorem ri_bool_bool {K : PySem.W.Frag} {H : Hp} {Q : VK} {c : Bool} (q : Q (.bl true) H) : rIsi K [.bl c, .ty "bool"] H Q := rIsi_mk (TyX.base (TyOf.bl _)) (ClsV.ty _) kt_bool_bool q
theorem ri_bool_int {K : PySem.W.Frag} {H : Hp} {Q : VK} {c : Bool} (q : Q (.bl true) H) : rIsi K [.bl c, .ty "int"] H Q := rIsi_mk (TyX.base (TyOf.bl _)) (ClsV.ty _) kt_bool_int q
theorem ri_bool_str {K : PySem.W.Frag} {H : Hp} {Q : VK} {c : Bool} (q : Q (.bl false) H) : rIsi K [.bl c, .ty "str"] H Q := rIsi_mk (TyX.base (TyOf.bl _)) (ClsV.ty _) kt_bool_str q
theorem ri_bool_dict {K : PySem.W.Frag} {H : Hp} {Q : VK} {c : Bool} (q : Q (.bl false) H) : rIsi K [.bl c, .ty "dict"] H Q := rIsi_mk (TyX.base (TyOf.bl _)) (ClsV.ty _) kt_bool_dict q
theorem ri_str_list {K : PySem.W.Frag} {H : Hp} {Q : VK} {z : Str} (q : Q (.bl false) H) : rIsi K [.str z, .ty "list"] H Q := rIsi_mk (TyX.base (TyOf.str _)) (ClsV.ty _) kt_str_list q
theorem ri_str_tuple {K : PySem.W.Frag} {H : Hp} {Q : VK} {z : Str} (q : Q (.bl false) H) : rIsi K [.str z, .ty "tuple"] H Q := rIsi_mk (TyX.base (TyOf.str _)) (ClsV.ty _) kt_str_tuple q
theorem ri_str_bool {K : PySem.W.Frag} {H : Hp} {Q : VK} {z : Str} (q : Q (.bl false) H) : rIsi K [.str z, .ty "bool"] H Q := rIsi_mk (TyX.base (TyOf.str _)) (ClsV.ty _) kt_str_bool q
theorem ri_str_int {K : PySem.W.Frag} {H : Hp} {Q : VK} {z : Str} (q : Q (.bl false) H) : rIsi K [.str z, .ty "int"] H Q := rIsi_mk (TyX.base (TyOf.str _)) (ClsV.ty _) kt_str_int q
theorem ri_str_str {K : PySem.W.Frag} {H : Hp} {Q : VK} {z : Str} (q : Q (.bl true) H) : rIsi K [.str z, .ty "str"] H Q := rIsi_mk (TyX.base (TyOf.str _)) (ClsV.ty _) kt_str_str q
theorem ri_str_dict {K : PySem.W.Frag} {H : Hp} {Q : VK} {z : Str} (q : Q (.bl false) H) : rIsi K [.str z, .ty "dict"] H Q := rIsi_mk (TyX.base (TyOf.str _)) (ClsV.ty _) kt_str_dict q
theorem ri_NoneType_list {K : PySem.W.Frag} {H : Hp} {Q : VK}  (q : Q (.bl false) H) : rIsi K [.non, .ty "list"] H Q := rIsi_mk (TyX.base TyOf.non) (ClsV.ty _) kt_NoneType_list q
theorem ri_NoneType_tuple {K : PySem.W.Frag} {H : Hp} {Q : VK}  (q : Q (.bl false) H) : rIsi K [.non, .ty "tuple"] H Q := rIsi_mk (TyX.base TyOf.non) (ClsV.ty _) kt_NoneType_tuple q
theorem ri_NoneType_bool {K : PySem.W.Frag} {H : Hp} {Q : VK}  (q : Q (.bl false) H) : rIsi K [.non, .ty "bool"] H Q := rIsi_mk (TyX.base TyOf.non) (ClsV.ty _) kt_NoneType_bool q
theorem ri_NoneType_int {K : PySem.W.Frag} {H : Hp} {Q : VK}  (q : Q (.bl false) H) : rIsi K [.non, .ty "int"] H Q := rIsi_mk (TyX.base TyOf.non) (ClsV.ty _) kt_NoneType_int q
theorem ri_NoneType_str {K : PySem.W.Frag} {H : Hp} {Q : VK}  (q : Q (.bl false) H) : rIsi K [.non, .ty "str"] H Q := rIsi_mk (TyX.base TyOf.non) (ClsV.ty _) kt_NoneType_str q
theorem ri_NoneType_dict {K : PySem.W.Frag} {H : Hp} {Q : VK}  (q : Q (.bl false) H) : rIsi K [.non, .ty "dict"] H Q := rIsi_mk (TyX.base TyOf.non) (ClsV.ty _) kt_NoneType_dict q
theorem ri_list_list {K : PySem.W.Frag} {H : Hp} {Q : VK} {a : Addr} {xs : List V} (h : SqL K H a xs) (q : Q (.bl true) H) : rIsi K [.ref a, .ty "list"] H Q := rIsi_mk (tyx_L h) (ClsV.ty _) kt_list_list q
theorem ri_list_tuple {K : PySem.W.Frag} {H : Hp} {Q : VK} {a : Addr} {xs : List V} (h : SqL K H a xs) (q : Q (.bl false) H) : rIsi K [.ref a, .ty "tuple"] H Q := rIsi_mk (tyx_L h) (ClsV.ty _) kt_list_tuple q
theorem ri_list_bool {K : PySem.W.Frag} {H : Hp} {Q : VK} {a : Addr} {xs : List V} (h : SqL K H a xs) (q : Q (.bl false) H) : rIsi K [.ref a, .ty "bool"] H Q := rIsi_mk (tyx_L h) (ClsV.ty _) kt_list_bool q
theorem ri_list_int {K : PySem.W.Frag} {H : Hp} {Q : VK} {a : Addr} {xs : List V} (h : SqL K H a xs) (q : Q (.bl false) H) : rIsi K [.ref a, .ty "int"] H Q := rIsi_mk (tyx_L h) (ClsV.ty _) kt_list_int q
theorem ri_list_str {K : PySem.W.Frag} {H : Hp} {Q : VK} {a : Addr} {xs : List V} (h : SqL K H a xs) (q : Q (.bl false) H) : rIsi K [.ref a, .ty "str"] H Q := rIsi_mk (tyx_L h) (ClsV.ty _) kt_list_str q
theorem ri_list_dict {K : PySem.W.Frag} {H : Hp} {Q : VK} {a : Addr} {xs : List V} (h : SqL K H a xs) (q : Q (.bl false) H) : rIsi K [.ref a, .ty "dict"] H Q := rIsi_mk (tyx_L h) (ClsV.ty _) kt_list_dict q
theorem ri_tuple_list {K : PySem.W.Frag} {H : Hp} {Q : VK} {a : Addr} {xs : List V} (h : SqT K H a xs) (q : Q (.bl false) H) : rIsi K [.ref a, .ty "list"] H Q := rIsi_mk (tyx_T h) (ClsV.ty _) kt_tuple_list q
theorem ri_tuple_tuple {K : PySem.W.Frag} {H : Hp} {Q : VK} {a : Addr} {xs : List V} (h : SqT K H a xs) (q : Q (.bl true) H) : rIsi K [.ref a, .ty "tuple"] H Q := rIsi_mk (tyx_T h) (ClsV.ty _) kt_tuple_tuple q
theorem ri_tuple_bool {K : PySem.W.Frag} {H : Hp} {Q : VK} {a : Addr} {xs : List V} (h : SqT K H a xs) (q : Q (.bl false) H) : rIsi K [.ref a, .ty "bool"] H Q := rIsi_mk (tyx_T h) (ClsV.ty _) kt_tuple_bool q
theorem ri_tuple_int {K : PySem.W.Frag} {H : Hp} {Q : VK} {a : Addr} {xs : List V} (h : SqT K H a xs) (q : Q (.bl false) H) : rIsi K [.ref a, .ty "int"] H Q := rIsi_mk (tyx_T h) (ClsV.ty _) kt_tuple_int q
theorem ri_tuple_str {K : PySem.W.Frag} {H : Hp} {Q : VK} {a : Addr} {xs : List V} (h : SqT K H a xs) (q : Q (.bl false) H) : rIsi K [.ref a, .ty "str"] H Q := rIsi_mk (tyx_T h) (ClsV.ty _) kt_tuple_str q
theorem ri_tuple_dict {K : PySem.W.Frag} {H : Hp} {Q : VK} {a : Addr} {xs : List V} (h : SqT K H a xs) (q : Q (.bl false) H) : rIsi K [.ref a, .ty "dict"] H Q := rIsi_mk (tyx_T h) (ClsV.ty _) kt_tuple_dict q
def rLenSq (K : PySem.W.Frag) : List V → Hp → VK → Prop := fun xs H Q => ∃ p ys, xs = [.ref p] ∧ (SqL K H p ys ∨ SqT K H p ys) ∧ Q (.int ys.length) H
def rListOf (K : PySem.W.Frag) : List V → Hp → VK → Prop := fun xs H Q => ∃ p ys, xs = [.ref p] ∧ (SqL K H p ys ∨ SqT K H p ys) ∧ ∀ l, H l = none → Q (.ref l) (upd H l (.lst ys))
def rTupOf (K : PySem.W.Frag) : List V → Hp → VK → Prop := fun xs H Q => ∃ p ys, xs = [.ref p] ∧ ((SqL K H p ys ∧ ∀ l, H l = none → Q (.ref l) (upd H l (.tup ys))) ∨ (SqT K H p ys ∧ Q (.ref p) H))
/-- a list or a tuple -/
def Sq (K : PySem.W.Frag) (H : Hp) (a : Addr) (xs : List V) : Prop := SqL K H a xs ∨ SqT K H a xs
theorem Sq.same {K : PySem.W.Frag} {H H' : Hp} {a : Addr} {xs : List V} (h : Sq K H a xs) (s : Same H H') : Sq K H' a xs := h.elim (fun q => .inl (s.seq q)) fun q => .inr (seqT s q)
theorem seqL_ins {K : PySem.W.Frag} {H : Hp} {a p C dx : Addr} {fs : List (Str × V)} {o : HO} {xs : List V} (hp : H p = some (.ins C dx fs)) (h : SqL K H a xs) : SqL K (upd H p o) a xs := by
  rcases h with (h | ⟨u, h⟩) | h
  · exact .inl (.inl (by rw [upd_ne (ne_of h hp (by intro z; cases z))]; exact h))
  · exact .inl (.inr ⟨u, by rw [upd_ne (ne_of h hp (by intro z; cases z))]; exact h⟩)
  · exact .inr h
theorem seqT_ins {K : PySem.W.Frag} {H : Hp} {a p C dx : Addr} {fs : List (Str × V)} {o : HO} {xs : List V} (hp : H p = some (.ins C dx fs)) (h : SqT K H a xs) : SqT K (upd H p o) a xs := by
  rcases h with (h | ⟨u, h⟩) | h
  · exact .inl (.inl (by rw [upd_ne (ne_of h hp (by intro z; cases z))]; exact h))
  · exact .inl (.inr ⟨u, by rw [upd_ne (ne_of h hp (by intro z; cases z))]; exact h⟩)
  · exact .inr h
theorem Sq.ins {K : PySem.W.Frag} {H : Hp} {a p C dx : Addr} {fs : List (Str × V)} {o : HO} {xs : List V} (h : Sq K H a xs) (hp : H p = some (.ins C dx fs)) : Sq K (upd H p o) a xs := h.elim (fun q => .inl (seqL_ins hp q)) fun q => .inr (seqT_ins hp q)
/-- tuple(x) of either -/
def rTup1 (K : PySem.W.Frag) : List V → Hp → VK → Prop := fun vs H Q => ∃ p xs, vs = [.ref p] ∧ Sq K H p xs ∧ ∀ t H', Same H H' → SqT K H' t xs → Q (.ref t) H'
theorem call_tup1 {X : Cx} : CallR X (.type "tuple") (rTup1 X.K) := by
  intro pins s σ H xs us Q I r h
  obtain ⟨p, ys, rfl, hq, q⟩ := h
  refine call_tuple_of pins s σ H _ us Q I r ⟨p, ys, rfl, ?_⟩
  rcases hq with hq | hq
  · exact .inl ⟨hq, fun l hl => q l _ (Same.new hl) (SqT.of upd_same)⟩
  · exact .inr ⟨hq, q p H (Same.refl H) hq⟩
/-! ### a statement, then the rest, with a word between them -/
def tCut (t u : TS) : TS := fun D σ H => ∃ Mid : L2.St → Hp → Prop, t { D with nx := Mid } σ H ∧ ∀ σ' H', Mid σ' H' → u D σ' H'
theorem pss_cut {X : Cx} {st : Stmt} {rest : List Stmt} {t u : TS} (h1 : PS X st t) (h2 : PSs X rest u) : PSs X (st :: rest) (tCut t u) := by
  refine ⟨fun pins s σ H D I h => ?_⟩
  obtain ⟨Mid, hm, hu⟩ := h
  refine wpAny_execs_cons (thn (h1.run pins s σ H { D with nx := Mid } I hm) fun f s1 q => ?_)
  cases f with
  | next =>
    obtain ⟨σ', H', I', q⟩ := q
    exact h2.run pins s1 σ' H' D I' (hu σ' H' q)
  | ret v => exact q
  | brk => exact q
  | cont => exact q
/-! ### the law's bag: the cells, how many were taken, the rest of a great cell, a mixed number, a count -/
structure Bg where
  b : Addr
  L : Addr
  ns : List Int
structure Bag (B : Bg) (H : Hp) : Prop where
  ex : ∃ (i r s c : Int), H B.b = some (.lst [.ref B.L, .int i, .int r, .int s, .int c]) ∧ 0 ≤ i ∧ 0 ≤ r ∧ 0 ≤ s ∧ s < 2147483648
  cells : H B.L = some (.lst (B.ns.map V.int))
  ne : B.L ≠ B.b
theorem Bag.same {B : Bg} {H H' : Hp} (h : Bag B H) (s : Same H H') : Bag B H' := by
  obtain ⟨i, r, z, c, h1, h2⟩ := h.ex
  exact ⟨⟨i, r, z, c, s _ _ h1, h2⟩, s _ _ h.cells, h.ne⟩
theorem Bag.nb {B : Bg} {H : Hp} {p : Addr} (h : Bag B H) (hp : H p = none) : p ≠ B.b := by
  obtain ⟨i, r, z, c, h1, h2⟩ := h.ex
  exact Ne.symm (ne_of_none h1 hp)
theorem Bag.nL {B : Bg} {H : Hp} {p : Addr} (h : Bag B H) (hp : H p = none) : p ≠ B.L := Ne.symm (ne_of_none h.cells hp)
theorem Bag.upd {B : Bg} {H : Hp} {p : Addr} {o : HO} (h : Bag B H) (h1 : p ≠ B.b) (h2 : p ≠ B.L) : Bag B (L2.upd H p o) := by
  obtain ⟨i, r, z, c, e1, e2⟩ := h.ex
  exact ⟨⟨i, r, z, c, by rw [upd_ne (Ne.symm h1)]; exact e1, e2⟩, by rw [upd_ne (Ne.symm h2)]; exact h.cells, h.ne⟩
theorem Bag.new {B : Bg} {H : Hp} {p : Addr} {o : HO} (h : Bag B H) (hp : H p = none) : Bag B (L2.upd H p o) := h.upd (h.nb hp) (h.nL hp)
/-! ### comprehensions: what each turn gives is known (Same), or only bounded, while the bag changes (Kb) -/
section
variable {J : It} {n : Nat} {G : Hp → Prop} {Y : Nat → Hp → V → Hp → Prop} {K : PySem.W.Frag} {a b D : Addr} {xs ys : List V} {g : TG} {te : TE} {vs : List Nat} {σ : L2.St} {H0 : Hp} {Qd : Hp → Prop} {j : Nat}
theorem take_app {ys : List V} {i : Nat} {y : V} (h : ys[i]? = some y) : ys.take i ++ [y] = ys.take (i + 1) := by
  rw [List.take_add_one, h]
  rfl
/-- what is to be shown of a comprehension -/
def LcGoal (J : It) (g : TG) (te : TE) (vs : List Nat) (σ : L2.St) (H0 : Hp) (D : Addr) (Qd : Hp → Prop) : Prop :=
  ∃ W : Nat → Nat → Hp → Prop, (∃ m, W 0 m (upd H0 D (.lst []))) ∧ ∀ i m H, W i m H →
      (J.stop i H ∧ Qd H) ∨ (J.go i H ∧ ∃ Nx : Hp → Prop, (∀ H', Nx H' → ∃ m', m' < m ∧ W (i + 1) m' H') ∧ ∀ x H', J.yld i H x H' → g x (wipe σ vs) H' fun σ2 H2 => wipe σ2 vs = wipe σ vs ∧ tYes σ2 H2 fun b H3 =>
        if b = true then te σ2 H3 fun y H4 => ∃ acc, H4 D = some (.lst acc) ∧ acc.length < sizeLine ∧ Nx (upd H4 D (.lst (acc ++ [y]))) else Nx H3)
theorem lcm (w : Walk J n G Y) (ys : List V) (hn : ys.length = n) (hz : n ≤ 100000) (hD : H0 D = none) (hG : ∀ H, Same H0 H → G H)
    (hs : ∀ i y x H H', i < n → ys[i]? = some y → Same H0 H → Y i H x H' → ∀ k : VK, (∀ H4, Same H H4 → k y H4) → g x (wipe σ vs) H' fun σ2 H2 => wipe σ2 vs = wipe σ vs ∧ te σ2 H2 k)
    (hd : ∀ H, Same H0 H → H D = some (.lst ys) → Qd H) : LcGoal J g te vs σ H0 D Qd := by
  refine lc_it w (fun i H => Same H0 H ∧ H D = some (.lst (ys.take i))) ⟨Same.new hD, upd_same⟩ (fun i H _ h => hG H h.1) (fun i x H H' hi h hy => ?_) (fun H h => ?_)
  · have hi2 : i < ys.length := by omega
    refine hs i ys[i] x H H' hi (List.getElem?_eq_getElem hi2) h.1 hy _ fun H4 s4 => ⟨ys.take i, s4 _ _ h.2, ?_, fun c u q => ?_, ?_⟩
    · refine Nat.lt_of_le_of_lt (Nat.le_trans (List.length_take_le' _ _) (by omega : ys.length ≤ 100000)) (by decide)
    · rw [upd_ne (ne_of_none q hD)]
      exact s4 _ _ (h.1 _ _ q)
    · rw [upd_same, take_app (List.getElem?_eq_getElem hi2)]
  · refine hd H h.1 ?_
    rw [h.2, ← hn, List.take_length]
theorem lcb {B : Bg} (w : Walk J n G Y) (P : V → Prop) (hz : n ≤ 100000) (hB : Bag B H0) (hD : H0 D = none) (hG : ∀ H, Kb B.b H0 H → G H)
    (hs : ∀ i x H H', i < n → Kb B.b H0 H → Bag B H → Y i H x H' → ∀ k : VK, (∀ y H4, P y → Kb B.b H H4 → Bag B H4 → k y H4) → g x (wipe σ vs) H' fun σ2 H2 => wipe σ2 vs = wipe σ vs ∧ te σ2 H2 k)
    (hd : ∀ ys H, ys.length = n → (∀ y ∈ ys, P y) → Kb B.b H0 H → Bag B H → H D = some (.lst ys) → Qd H) : LcGoal J g te vs σ H0 D Qd := by
  have nb := hB.nb hD
  have nL := hB.nL hD
  refine lc_it w (fun i H => Kb B.b H0 H ∧ Bag B H ∧ ∃ ys, H D = some (.lst ys) ∧ ys.length = i ∧ ∀ y ∈ ys, P y) ⟨Kb.same (Same.new hD), hB.new hD, [], upd_same, rfl, fun y hy => by cases hy⟩ (fun i H _ h => hG H h.1) (fun i x H H' hi h hy => ?_) (fun H h => ?_)
  · obtain ⟨h1, h2, ys, h3, h4, h5⟩ := h
    refine hs i x H H' hi h1 h2 hy _ fun y H4 p kb b4 => ⟨ys, kb _ _ h3 nb, ?_, fun c u q ne => ?_, b4.upd nb nL, ys ++ [y], upd_same, ?_, ?_⟩
    · exact Nat.lt_of_le_of_lt (by omega : ys.length ≤ 100000) (by decide)
    · rw [upd_ne (ne_of_none q hD)]
      exact kb _ _ (h1 _ _ q ne) ne
    · rw [List.length_append, h4]
      rfl
    · intro z hz
      rcases List.mem_append.mp hz with q | q
      · exact h5 z q
      · rw [List.mem_singleton.mp q]
        exact p
  · obtain ⟨h1, h2, ys, h3, h4, h5⟩ := h
    exact hd ys H h4 h5 h1 h2 h3
end
theorem walk_zipT {K : PySem.W.Frag} {a b : Addr} {xs ys : List V} {n : Nat} (hn : n = min xs.length ys.length) : Walk (RZ.ItzT K a b) n (fun H => SqT K H a xs ∧ SqT K H b ys) (YPair (fun i => xs[i]?) (fun i => ys[i]?)) := by
  subst hn
  refine ⟨fun i _ hi q => ?_, fun _ q => ⟨xs, ys, q.1, q.2, by omega⟩, fun i H v H' _ q y => ?_⟩
  · have h1 : i < xs.length := by omega
    have h2 : i < ys.length := by omega
    exact ⟨xs, ys, xs[i], ys[i], q.1, q.2, by simp [h1], by simp [h2]⟩
  · obtain ⟨T, x, z, h1, h2, h3, h4, h5⟩ := y
    exact ⟨T, x, z, h1, h2, h3, h4 xs q.1, h5 ys q.2⟩
theorem ite_dec {p A B : Prop} [Decidable p] (h : p) (q : A) : if decide p = true then A else B := by
  rw [decide_eq_true h]
  exact q
theorem ite_dec' {p A B : Prop} [Decidable p] (h : ¬ p) (q : B) : if decide p = true then A else B := by
  rw [decide_eq_false h]
  exact q
theorem all_rep (n : Nat) : (List.replicate n true).all id = true := by
  rw [List.all_eq_true]
  intro x hx
  rw [(List.mem_replicate.mp hx).2]
  rfl
theorem rep_get {n i : Nat} {x y : V} (h : (List.replicate n x)[i]? = some y) : y = x := (List.mem_replicate.mp (List.mem_of_getElem? h)).2
theorem lc_zipT {K : PySem.W.Frag} {a b D : Addr} {xs ys : List Int} {f : Int → Int → Int} {te : TE} {vs : List Nat} {σ : L2.St} {H0 : Hp} {Qd : Hp → Prop} {i j : Nat} (h1 : SqT K H0 a (xs.map V.int)) (h2 : SqT K H0 b (ys.map V.int)) (hl : xs.length = ys.length) (hz : xs.length ≤ 1000) (hD : H0 D = none)
    (hw : ∀ u v, wipe (((wipe σ vs).set i (some u)).set j (some v)) vs = wipe σ vs)
    (hs : ∀ (u v : Int) (H : Hp) (k : VK), u ∈ xs → v ∈ ys → k (.int (f u v)) H → te (((wipe σ vs).set i (some (.int u))).set j (some (.int v))) H k)
    (hd : ∀ H, Same H0 H → H D = some (.lst ((List.zipWith f xs ys).map V.int)) → Qd H) : LcGoal (RZ.ItzT K a b) (gTup K 2 (gCons (gName i) (gCons (gName j) gNil))) te vs σ H0 D Qd := by
  refine lcm (walk_zipT (n := xs.length) (by rw [List.length_map, List.length_map]; omega)) ((List.zipWith f xs ys).map V.int) (by rw [List.length_map, List.length_zipWith]; omega) (by omega) hD (fun H' s => ⟨seqT s h1, seqT s h2⟩) ?_ hd
  rintro t y x H1 H2 hi hy s1 ⟨Tp, u, z, rfl, hT, rfl, hu, hz'⟩ k hk
  replace hu : (xs.map V.int)[t]? = some u := hu
  replace hz' : (ys.map V.int)[t]? = some z := hz'
  rw [List.getElem?_map] at hy hu hz'
  obtain ⟨y', hy1, rfl⟩ := Option.map_eq_some_iff.mp hy
  obtain ⟨u', hu1, rfl⟩ := Option.map_eq_some_iff.mp hu
  obtain ⟨z', hz1, rfl⟩ := Option.map_eq_some_iff.mp hz'
  rw [List.getElem?_zipWith, hu1, hz1] at hy1
  obtain rfl : f u' z' = y' := Option.some.inj hy1
  refine ⟨Tp, [.int u', .int z'], rfl, SqT.of upd_same, rfl, .int u', [.int z'], rfl, .int z', [], rfl, rfl, hw _ _, ?_⟩
  exact hs u' z' _ k (List.mem_of_getElem? hu1) (List.mem_of_getElem? hz1) (hk _ (Same.new hT))
theorem lc_zipL {K : PySem.W.Frag} {a b D : Addr} {xs ys : List Int} {f : Int → Int → Int} {te : TE} {vs : List Nat} {σ : L2.St} {H0 : Hp} {Qd : Hp → Prop} {i j : Nat} (h1 : SqL K H0 a (xs.map V.int)) (h2 : SqL K H0 b (ys.map V.int)) (hl : xs.length = ys.length) (hz : xs.length ≤ 1000) (hD : H0 D = none)
    (hw : ∀ u v, wipe (((wipe σ vs).set i (some u)).set j (some v)) vs = wipe σ vs)
    (hs : ∀ (u v : Int) (H : Hp) (k : VK), u ∈ xs → v ∈ ys → k (.int (f u v)) H → te (((wipe σ vs).set i (some (.int u))).set j (some (.int v))) H k)
    (hd : ∀ H, Same H0 H → H D = some (.lst ((List.zipWith f xs ys).map V.int)) → Qd H) : LcGoal (Itz K a b) (gTup K 2 (gCons (gName i) (gCons (gName j) gNil))) te vs σ H0 D Qd := by
  refine lcm (walk_zip (n := xs.length) (by rw [List.length_map, List.length_map]; omega)) ((List.zipWith f xs ys).map V.int) (by rw [List.length_map, List.length_zipWith]; omega) (by omega) hD (fun H' s => ⟨s.seq h1, s.seq h2⟩) ?_ hd
  rintro t y x H1 H2 hi hy s1 ⟨Tp, u, z, rfl, hT, rfl, hu, hz'⟩ k hk
  replace hu : (xs.map V.int)[t]? = some u := hu
  replace hz' : (ys.map V.int)[t]? = some z := hz'
  rw [List.getElem?_map] at hy hu hz'
  obtain ⟨y', hy1, rfl⟩ := Option.map_eq_some_iff.mp hy
  obtain ⟨u', hu1, rfl⟩ := Option.map_eq_some_iff.mp hu
  obtain ⟨z', hz1, rfl⟩ := Option.map_eq_some_iff.mp hz'
  rw [List.getElem?_zipWith, hu1, hz1] at hy1
  obtain rfl : f u' z' = y' := Option.some.inj hy1
  refine ⟨Tp, [.int u', .int z'], rfl, SqT.of upd_same, rfl, .int u', [.int z'], rfl, .int z', [], rfl, rfl, hw _ _, ?_⟩
  exact hs u' z' _ k (List.mem_of_getElem? hu1) (List.mem_of_getElem? hz1) (hk _ (Same.new hT))
theorem lc_mapT {K : PySem.W.Frag} {a D : Addr} {xs : List Int} {f : Int → Int} {te : TE} {vs : List Nat} {σ : L2.St} {H0 : Hp} {Qd : Hp → Prop} {i : Nat} (h1 : SqT K H0 a (xs.map V.int)) (hz : xs.length ≤ 1000) (hD : H0 D = none)
    (hw : ∀ u, wipe ((wipe σ vs).set i (some u)) vs = wipe σ vs) (hs : ∀ (u : Int) (H : Hp) (k : VK), u ∈ xs → k (.int (f u)) H → te ((wipe σ vs).set i (some (.int u))) H k)
    (hd : ∀ H, Same H0 H → H D = some (.lst ((xs.map f).map V.int)) → Qd H) : LcGoal (Itt K a) (gName i) te vs σ H0 D Qd := by
  refine lcm (walk_tup (K := K) (a := a) (xs := xs.map V.int)) ((xs.map f).map V.int) (by simp) (by rw [List.length_map]; omega) hD (fun H' s => seqT s h1) ?_ hd
  rintro t y x H1 H2 hi hy s1 ⟨rfl, hu⟩ k hk
  rw [List.getElem?_map] at hy hu
  obtain ⟨y', hy1, rfl⟩ := Option.map_eq_some_iff.mp hy
  obtain ⟨u', hu1, rfl⟩ := Option.map_eq_some_iff.mp hu
  rw [List.getElem?_map, hu1] at hy1
  obtain rfl : f u' = y' := Option.some.inj hy1
  exact ⟨hw _, hs u' _ k (List.mem_of_getElem? hu1) (hk _ (Same.refl _))⟩
theorem lc_mapL {K : PySem.W.Frag} {a D : Addr} {xs : List Int} {f : Int → Int} {te : TE} {vs : List Nat} {σ : L2.St} {H0 : Hp} {Qd : Hp → Prop} {i : Nat} (h1 : SqL K H0 a (xs.map V.int)) (hz : xs.length ≤ 1000) (hD : H0 D = none)
    (hw : ∀ u, wipe ((wipe σ vs).set i (some u)) vs = wipe σ vs) (hs : ∀ (u : Int) (H : Hp) (k : VK), u ∈ xs → k (.int (f u)) H → te ((wipe σ vs).set i (some (.int u))) H k)
    (hd : ∀ H, Same H0 H → H D = some (.lst ((xs.map f).map V.int)) → Qd H) : LcGoal (Itl K a) (gName i) te vs σ H0 D Qd := by
  refine lcm (walk_list (K := K) (a := a) (xs := xs.map V.int)) ((xs.map f).map V.int) (by simp) (by rw [List.length_map]; omega) hD (fun H' s => s.seq h1) ?_ hd
  rintro t y x H1 H2 hi hy s1 ⟨rfl, hu⟩ k hk
  rw [List.getElem?_map] at hy hu
  obtain ⟨y', hy1, rfl⟩ := Option.map_eq_some_iff.mp hy
  obtain ⟨u', hu1, rfl⟩ := Option.map_eq_some_iff.mp hu
  rw [List.getElem?_map, hu1] at hy1
  obtain rfl : f u' = y' := Option.some.inj hy1
  exact ⟨hw _, hs u' _ k (List.mem_of_getElem? hu1) (hk _ (Same.refl _))⟩
/-! ### whole data: lists and tuples of whole numbers -/
theorem dpAll_ints {K : PySem.W.Frag} {H : Hp} : ∀ ns : List Int, DpAll K H (ns.map V.int) (ns.map PyData.int)
  | [] => .nil
  | n :: ns => .cons (.int n) (dpAll_ints ns)
theorem lay_ints : ∀ ns : List Int, PyData.canLayAll0 (ns.map PyData.int) = true
  | [] => by simp [PyData.canLayAll0]
  | n :: ns => by simp [PyData.canLayAll0, PyData.canLay0, lay_ints ns]
theorem depth_ints : ∀ ns : List Int, PyData.depthAll (ns.map PyData.int) = 0
  | [] => by simp [PyData.depthAll]
  | n :: ns => by simp [PyData.depthAll, PyData.depth, depth_ints ns]
theorem shaped_tupI (ns : List Int) : SeqAt.shaped (.tuple (ns.map PyData.int)) = true := by simp [SeqAt.shaped, PyData.canLay0, PyData.depth, lay_ints, depth_ints]
theorem shaped_lstI (ns : List Int) : SeqAt.shaped (.list (ns.map PyData.int)) = true := by simp [SeqAt.shaped, PyData.canLay0, PyData.depth, lay_ints, depth_ints]
theorem shaped_two (xs ys : List Int) : SeqAt.shaped (.tuple [.list (xs.map PyData.int), .list (ys.map PyData.int)]) = true := by simp [SeqAt.shaped, PyData.canLay0, PyData.canLayAll0, PyData.depth, PyData.depthAll, lay_ints, depth_ints]
theorem eqv_ints : ∀ xs ys : List Int, PyData.eqvAll (xs.map PyData.int) (ys.map PyData.int) = decide (xs = ys)
  | [], [] => by simp [PyData.eqvAll]
  | [], y :: ys => by simp [PyData.eqvAll]
  | x :: xs, [] => by simp [PyData.eqvAll]
  | x :: xs, y :: ys => by
    simp only [List.map_cons, PyData.eqvAll, PyData.eqv, eqv_ints xs ys, List.cons.injEq]
    by_cases h1 : x = y <;> by_cases h2 : xs = ys <;> simp [h1, h2]
theorem eqv_tupI (xs ys : List Int) : PyData.eqv (.tuple (xs.map PyData.int)) (.tuple (ys.map PyData.int)) = decide (xs = ys) := by simp only [PyData.eqv, eqv_ints]
theorem eqv_lstI (xs ys : List Int) : PyData.eqv (.list (xs.map PyData.int)) (.list (ys.map PyData.int)) = decide (xs = ys) := by simp only [PyData.eqv, eqv_ints]
theorem eqv_two (x y : List Int × List Int) : PyData.eqv (.tuple [.list (x.1.map PyData.int), .list (x.2.map PyData.int)]) (.tuple [.list (y.1.map PyData.int), .list (y.2.map PyData.int)]) = decide (x = y) := by
  obtain ⟨a, b⟩ := x
  obtain ⟨c, d⟩ := y
  simp only [PyData.eqv, PyData.eqvAll, eqv_ints, Prod.mk.injEq]
  by_cases h1 : a = c <;> by_cases h2 : b = d <;> simp [h1, h2]
/-- == of two tuples of whole numbers -/
def rEqTI (K : PySem.W.Frag) : R2 := fun x y H Q => ∃ (a b : Addr) (xs ys : List Int), x = .ref a ∧ y = .ref b ∧ SqT K H a (xs.map V.int) ∧ SqT K H b (ys.map V.int) ∧ Q (.bl (decide (xs = ys))) H
theorem op_eqTI {X : Cx} (hu : X.A.units + 64 < cLine) : OpR X (compareOp .Eq) (rEqTI X.K) := by
  intro pins s σ H x y v u Q I rx ry h
  obtain ⟨a, b, xs, ys, rfl, rfl, h1, h2, q⟩ := h
  exact op_eqD hu pins s σ H _ _ v u Q I rx ry ⟨_, _, .tup h1 (dpAll_ints xs), .tup h2 (dpAll_ints ys), shaped_tupI xs, shaped_tupI ys, by rw [eqv_tupI]; exact q⟩
theorem and1 (n : Int) : Builtin.bitAnd n 1 = n.fmod 2 := by
  have h := PyProof.Rows.bitAnd_m1 n
  rw [Int.fmod_eq_emod_of_nonneg _ (by decide)]
  exact h
/-- a tuple that is read stands when a list is changed -/
theorem seqT_lst {K : PySem.W.Frag} {H : Hp} {a p : Addr} {zs : List V} {o : HO} {xs : List V} (hp : H p = some (.lst zs)) (h : SqT K H a xs) : SqT K (upd H p o) a xs := by
  rcases h with (h | ⟨u, h⟩) | h
  · exact .inl (.inl (by rw [upd_ne (ne_of h hp (by intro z; cases z))]; exact h))
  · exact .inl (.inr ⟨u, by rw [upd_ne (ne_of h hp (by intro z; cases z))]; exact h⟩)
  · exact .inr h
theorem seqT_kb {K : PySem.W.Frag} {H H' : Hp} {b a : Addr} {zs xs : List V} (hb : H b = some (.lst zs)) (k : Kb b H H') (h : SqT K H a xs) : SqT K H' a xs := by
  rcases h with (h | ⟨u, h⟩) | h
  · exact .inl (.inl (k _ _ h (ne_of h hb (by intro z; cases z))))
  · exact .inl (.inr ⟨u, k _ _ h (ne_of h hb (by intro z; cases z))⟩)
  · exact .inr h
section
variable {J : It} {n : Nat} {G : Hp → Prop} {Y : Nat → Hp → V → Hp → Prop} {D : Addr} {g : TG} {te : TE} {vs : List Nat} {σ : L2.St} {H0 : Hp} {Qd : Hp → Prop}
/-- a comprehension whose turns give new things, of which something is known -/
theorem lcs (w : Walk J n G Y) (P : Nat → V → Hp → Prop) (hP : ∀ i y H H', Same H H' → P i y H → P i y H') (hPD : ∀ i y H zs zs', H D = some (.lst zs) → P i y H → P i y (upd H D (.lst zs'))) (hz : n ≤ 100000) (hD : H0 D = none) (hG : ∀ H, Same H0 H → G H)
    (hs : ∀ i x H H', i < n → Same H0 H → Y i H x H' → ∀ k : VK, (∀ y H4, Same H H4 → P i y H4 → k y H4) → g x (wipe σ vs) H' fun σ2 H2 => wipe σ2 vs = wipe σ vs ∧ te σ2 H2 k)
    (hd : ∀ (ys : List V) H, ys.length = n → (∀ (i : Nat) y, ys[i]? = some y → P i y H) → Same H0 H → H D = some (.lst ys) → Qd H) : LcGoal J g te vs σ H0 D Qd := by
  refine lc_it w (fun i H => Same H0 H ∧ ∃ ys : List V, H D = some (.lst ys) ∧ ys.length = i ∧ ∀ (t : Nat) y, ys[t]? = some y → P t y H) ⟨Same.new hD, [], upd_same, rfl, fun t y h => by cases h⟩ (fun i H _ h => hG H h.1) (fun i x H H' hi h hy => ?_) (fun H h => ?_)
  · obtain ⟨h1, ys, h3, h4, h5⟩ := h
    refine hs i x H H' hi h1 hy _ fun y H4 s4 p => ⟨ys, s4 _ _ h3, ?_, fun c u q => ?_, ys ++ [y], upd_same, ?_, ?_⟩
    · exact Nat.lt_of_le_of_lt (by omega : ys.length ≤ 100000) (by decide)
    · rw [upd_ne (ne_of_none q hD)]
      exact s4 _ _ (h1 _ _ q)
    · rw [List.length_append, h4]
      rfl
    · intro t z hz
      refine hPD t z H4 ys _ (s4 _ _ h3) ?_
      rcases Nat.lt_or_ge t ys.length with q | q
      · rw [List.getElem?_append_left q] at hz
        exact hP _ _ _ _ s4 (h5 t z hz)
      · rw [List.getElem?_append_right q] at hz
        have e : t - ys.length = 0 := by
          have := (List.getElem?_eq_some_iff.mp hz).1
          simp at this
          omega
        rw [e] at hz
        obtain rfl : y = z := Option.some.inj hz
        have : t = i := by omega
        rw [this]
        exact p
  · obtain ⟨h1, ys, h3, h4, h5⟩ := h
    exact hd ys H h4 h5 h1 h3
end
end TL
namespace TL
open PySem PySem.Spec PyProof.Rows L2
/-! ### a walk over a list or a tuple, whichever it is -/
def SeqOf (K : PySem.W.Frag) (H : Hp) (a : Addr) (xs : List V) (J : It) : Prop := (SqL K H a xs ∧ J = Itl K a) ∨ (SqT K H a xs ∧ J = Itt K a)
def iSeq (K : PySem.W.Frag) (tl : TE) : TI := fun σ H R => tl σ H fun x H1 => ∃ a xs, x = .ref a ∧ Sq K H1 a xs ∧ ∀ J, SeqOf K H1 a xs J → R J H1
theorem pi_seq {X : Cx} {tg l : Expr} {tl : TE} (hl : PE X l tl) : PI X tg l (iSeq X.K tl) := by
  refine ⟨fun pins s σ H R I h => ?_⟩
  refine thn (hl.run pins s σ H _ I h) fun v s1 ⟨x, H1, I1, r1, q1⟩ => ?_
  obtain ⟨a, xs, e, hq, q⟩ := q1
  subst e
  cases r1
  rcases hq with hq | hq
  · obtain ⟨its, rv, p, hz⟩ := I1.list hq
    refine wpAny_pyIter_list p.isList ?_
    refine ⟨s1.heap.objs.size, [s1.heap.objs.size], _, _, H1, rfl, I1.kept (t' := s1.toks) fun b o e => Heap.get?_push_of_some _ e, turn_list a _, ⟨_, Heap.get?_push_size _ rfl, rfl, rfl⟩, fun b hb => ?_, q _ (.inl ⟨hq, rfl⟩)⟩
    have e : b = s1.heap.objs.size := by simpa using hb
    subst e
    exact I1.fpOk (Nat.le_refl _) (I1.hok.fresh (Nat.le_refl _))
  · obtain ⟨its, rv, p, hz⟩ := I1.tuple hq
    refine wpAny_pyIter_tuple (show s1.heap.IsTuple a its.toArray from p) ?_
    refine ⟨s1.heap.objs.size, [s1.heap.objs.size], _, _, H1, rfl, I1.kept (t' := s1.toks) fun b o e => Heap.get?_push_of_some _ e, turn_tuple a _, ⟨_, Heap.get?_push_size _ rfl, rfl, rfl⟩, fun b hb => ?_, q _ (.inr ⟨hq, rfl⟩)⟩
    have e : b = s1.heap.objs.size := by simpa using hb
    subst e
    exact I1.fpOk (Nat.le_refl _) (I1.hok.fresh (Nat.le_refl _))
/-- where the items stay, the walk gives them in their order -/
theorem walk_seq {K : PySem.W.Frag} {H0 : Hp} {a : Addr} {xs : List V} {J : It} (z : SeqOf K H0 a xs J) : Walk J xs.length (fun H => Same H0 H) (YAt xs) := by
  rcases z with ⟨hy, rfl⟩ | ⟨hy, rfl⟩
  · exact walk_list.mono (fun H s => s.seq hy) fun i H x H' _ _ y => y
  · exact walk_tup.mono (fun H s => seqT s hy) fun i H x H' _ _ y => y
end TL
namespace TL
open PySem PySem.Spec PyProof.Rows L2
/-! ### // by any number: where the division goes by a module of its own -/
/-- what the written part tells of the places that such a division looks at -/
structure Sees (K : PySem.W.Frag) (mg : Str → Option Value) : Prop where
  st : ∃ oc mc, K.lookup cStatics = some oc ∧ (∀ h : Heap, h.get? cStatics = some oc → h.Ns cStatics mc) ∧ mc "sys.audit-hooks" = none ∧ mc "sys.dict" = none
  md : ∃ om mm, K.lookup sysModules = some om ∧ (∀ h : Heap, h.get? sysModules = some om → h.Ns sysModules mm) ∧ mm "_pylong" = none
  mn : ∃ bm ob, mg "__builtins__" = some (.ref bm) ∧ K.lookup bm = some ob ∧ ob.cls = .type "module" ∧ ob.dict = some builtinsNs
theorem Sees.on {K : PySem.W.Frag} {mg : Str → Option Value} {X : Cx} {pins : List (Addr × Obj)} {σ : L2.St} {H : Hp} {s : Shared} (S : Sees X.K X.mg) (I : Inv X pins σ H s) : s.heap.NoSeer := by
  obtain ⟨oc, mc, a1, a2, a3, a4⟩ := S.st
  obtain ⟨om, mm, b1, b2, b3⟩ := S.md
  obtain ⟨bm, ob, c1, c2, c3, c4⟩ := S.mn
  obtain ⟨mb, d1, d2⟩ := I.mod.blt
  exact ⟨⟨mc, a2 _ (I.kIn _ _ a1), a3, a4⟩, ⟨mm, b2 _ (I.kIn _ _ b1), b3⟩, ⟨mb, d1.keeps I.bk, d2⟩, ⟨X.mg, bm, ob, I.mod.glob.keeps I.bk, c1, I.kIn _ _ c2, c3, c4⟩⟩
theorem roomB {k : Nat} {A : Around} (r : Room k A) (h : 32 ≤ k) : A.depth + Builtin.pylongFrames < recursionLimit := by
  have := r.dp
  show A.depth + 100 < _
  omega
def CNz (_ j : Int) : Prop := j ≠ 0
theorem op_fdivB {X : Cx} {l : List Env} (S : Sees X.K X.mg) (ht : X.prog.given.tree = none) (hd : X.A.depth + Builtin.pylongFrames < recursionLimit) (hs : X.stack = X.env :: l) (hg : X.env.scope.isGenerator = false) (hc : X.env.scope.isCoroutine = false) :
    OpR X (binaryOp .FloorDiv) (rI CNz fun i j => .int (i.fdiv j)) := by
  intro pins s σ H x y v u Q I rx ry h
  obtain ⟨i, j, rfl, rfl, hz, q⟩ := h
  obtain ⟨t, rfl⟩ := rx
  obtain ⟨t', rfl⟩ := ry
  have hN := S.on (K := X.K) (mg := X.mg) I
  have hsee : SeerAt (model X.prog X.w) X.A s.heap := SeerAt.of hN ht (I.ok.frames.trans (congrArg some hs)) hg hc I.ok.blt I.ok.glob
  exact floordiv_int hz ⟨.int (i.fdiv j), H, I.tok _, ⟨_, rfl⟩, q⟩ (.inr (PylongRoom.of I.nolimit hd hsee))
/-! ### the written part, and three objects more -/
section
variable {K L : PySem.W.Frag}
theorem lk_app {a : Addr} {o : Obj} (h : K.lookup a = some o) : (K ++ L).lookup a = some o := by
  rw [List.lookup_append, h]
  rfl
theorem lk_more {a : Addr} {o : Obj} {h : Heap} (X : K.In h) (X2 : L.lookup a = some o) (ho : h.get? a = some o) : (K ++ L).lookup a = some o := by
  rw [List.lookup_append]
  cases e : K.lookup a with
  | none => exact X2
  | some o' =>
    have := X a o' e
    rw [ho] at this
    exact this.symm
theorem in_app {h : Heap} (X : K.In h) (Y : L.In h) : PySem.W.Frag.In (K ++ L) h := fun a o e => by
  rw [List.lookup_append] at e
  cases q : K.lookup a with
  | none =>
    rw [q] at e
    exact Y a o e
  | some o' =>
    rw [q] at e
    cases e
    exact X a _ q
theorem ns_app {a : Addr} {x : Str} {r : Option Value} (h : PySem.W.nsIn K a x = some r) : PySem.W.nsIn (K ++ L) a x = some r := by
  unfold PySem.W.nsIn at h ⊢
  cases q : K.lookup a with
  | none =>
    rw [q] at h
    cases h
  | some o =>
    rw [lk_app q]
    rw [q] at h
    exact h
theorem code_app {cd : Value} {x : Str} (h : PySem.W.codeIn K cd x = true) : PySem.W.codeIn (K ++ L) cd x = true := by
  unfold PySem.W.codeIn at h ⊢
  cases cd with
  | ref a =>
    dsimp only at h ⊢
    cases q : K.lookup a with
    | none =>
      rw [q] at h
      cases h
    | some o =>
      rw [lk_app q]
      rw [q] at h
      exact h
  | _ => exact h
end
/-- a def is kept -/
theorem keep_app {K L : PySem.W.Frag} {f : Addr} (h : PySem.W.keepIn K (.ref f) = true) (hl : ∃ oc od fd sl, K.lookup f = some ⟨oc, od, .func fd, sl⟩) : PySem.W.keepIn (K ++ L) (.ref f) = true := by
  obtain ⟨oc, od, fd, sl, q⟩ := hl
  unfold PySem.W.keepIn
  dsimp only
  rw [lk_app q]
/-- the law's end: the written part grows by the three objects -/
theorem walkS {l : PySem.W.OpenLaw} {n k : Nat} {q : Program} {loose : List Str} {XP : (Str → Option Value) → Heap → Prop} {YP : World → Heap → Prop} {d : DefRec} {K : Params → PySem.W.Frag} {sp : PySem.W.Frag → Sp} {x : Str}
    (hn : l.most = some n) (hn2 : n ≤ sizeLine) (hdf : d.params.defaults = []) (hr : Room k callerA) (hq : importsNone q = true)
    (hY : ∀ (w : World) (h : Heap), YP w h → (K w.params).In h)
    (F : ∀ (w : World) (mg : Str → Option Value) (fa : Addr) (h : Heap) (L : PySem.W.Frag), PySem.W.Frag.In (K w.params ++ L) h → h.Ns mainGlobals mg → mg d.name = some (.ref fa) → Sees (K w.params ++ L) mg →
      ∃ fd : FuncData, (∀ (s : Shared) (u : Value), BindsTo s fd ⟨[u], []⟩ [(x, u)]) ∧
        ∀ base : Heap, PySem.W.Frag.In (K w.params ++ L) base → base.Ns mainGlobals mg → FnOk l.prog w (K w.params ++ L) mg base CX0 k fa fd [x] (sp (K w.params ++ L)))
    (hsp : ∀ (K : PySem.W.Frag) (H : Hp) (a : Addr) (ns : List Int), ns.length ≤ n → Only H → SqL K H a (ns.map V.int) → sp K [.ref a] H (fun v _ => v = .bl true) fun _ _ _ => False) :
    PySem.W.WalkO q loose XP YP l.row.toRowW d [] (fun f vs => PySem.call f vs) := by
  refine Att.attach_call hn hdf fun w s₀ s₁ mg mb fa o pm cd doc a vs ns G Y ho hd hcd hmg hobj hints hlen hg => ?_
  have KX := hY w _ Y
  have NS := G.T.seer hq
  obtain ⟨mc, ⟨oc, es1, ep1, c1, c2, c3, c4⟩, c5, c6⟩ := NS.statics
  obtain ⟨mm, ⟨om, es2, ep2, m1, m2, m3, m4⟩, m5⟩ := NS.mods
  obtain ⟨bm, ob, b1, b2, b3, b4, b5, b6⟩ := G.T.bmain
  have hL : PySem.W.Frag.In [(cStatics, oc), (sysModules, om), (bm, ob)] s₁.heap := fun a' o' e => by
    rw [List.lookup_cons] at e
    split at e
    · rename_i z
      cases e
      rw [eq_of_beq z]
      exact c1
    · rw [List.lookup_cons] at e
      split at e
      · rename_i z
        cases e
        rw [eq_of_beq z]
        exact m1
      · rw [List.lookup_cons] at e
        split at e
        · rename_i z
          cases e
          rw [eq_of_beq z]
          exact b3
        · cases e
  have look : ∀ {a' : Addr} {o' : Obj}, (a', o') ∈ [(cStatics, oc), (sysModules, om), (bm, ob)] → s₁.heap.get? a' = some o' → (K w.params ++ [(cStatics, oc), (sysModules, om), (bm, ob)]).lookup a' = some o' := fun {a' o'} hm ho' => by
    refine lk_more KX ?_ ho'
    cases e : [(cStatics, oc), (sysModules, om), (bm, ob)].lookup a' with
    | some o2 =>
      have := hL a' o2 e
      rw [ho'] at this
      exact this.symm
    | none =>
      have := List.lookup_eq_none_iff.mp e _ hm
      simp at this
  have S : Sees (K w.params ++ [(cStatics, oc), (sysModules, om), (bm, ob)]) mg := ⟨⟨oc, mc, look (by simp) c1, fun h e => ⟨oc, es1, ep1, e, c2, c3, c4⟩, c5, c6⟩, ⟨om, mm, look (by simp) m1, fun h e => ⟨om, es2, ep2, e, m2, m3, m4⟩, m5⟩, ⟨bm, ob, b1, look (by simp) b3, b4, b5⟩⟩
  have KX2 := in_app KX hL
  obtain ⟨fd, hb, hF⟩ := F w mg fa _ _ KX2 G.T.g hmg S
  exact law_call (CX := CX0) KX2 G.T.g G.T.b G.T.builtins G.T.nolimit hg hobj hints (Nat.le_trans hlen hn2) hr hF hb (fun H hO hS => hsp _ H a ns hlen hO hS) fun H e s' z => z
end TL
namespace TL
open PySem PySem.Spec PyProof.Rows L2
theorem repr_X {prog : Program} {w : World} {A : Around} {E' : Value → Shared → Prop} {s : Shared} {K : PySem.W.Frag} {x C f : Addr} {ox : Obj} {od : Option Obj} {Q : Value → Shared → Prop} (hu : A.in1.units < cLine) (X₀ : K.In s.heap) (I : PySem.W.InstAt s.heap x ox C od) (hs : PySem.W.findIn K (.ref C) "__repr__" = some (some (.ref f)))
    (hf : PySem.W.isFn K (.ref f) = true) (h : wpAny (model prog w) A.in1 (call (.ref f) [.ref x]) (fun r s' => ∃ b t, r = Value.str b t ∧ Q r s') E' s) : wpAny (model prog w) A (call (.builtin "repr") [.ref x]) Q E' s := by
  refine Calls.call_function_entry PySem.F.kind_repr PySem.F.plain_repr PySem.F.entry_repr (PySem.F.args_repr1 _) (show wpAny _ _ (Builtin.«repr» _) _ _ s from ?_)
  unfold Builtin.«repr»
  refine wpAny_bind (m := oneArg "repr" _) (wpAny_pure (wpAny_bind (wpAny_cRoomFor hu (wpAny_bind (wpAny_bind (I.type.here ((PySem.W.looks_findIn X₀ hs).here ?_)))))))
  show wpAny _ _ (if (some (Value.ref f)).isNone = true then _ else _) _ _ s
  refine (if_neg (by simp) : (if (some (Value.ref f)).isNone = true then _ else _) = _) ▸ ?_
  refine wpAny_bind (m := callSpecialIfBound? (.ref x) (Str.ofString "__repr__") _) (PySem.W.ifBound_K X₀ I hs hf (wpAny_mono h (fun r s' ⟨b, t, e, hr⟩ => ?_) fun _ _ y => y))
  subst e
  refine wpAny_bind (wpAny_isInstance (typeIs_str _ _ _) isSubtype_str_str (by first | exact wpAny_pure ⟨_, rfl, hr⟩ | (rw [if_pos rfl]; exact wpAny_pure ⟨_, rfl, hr⟩)))
section
variable {X : Cx} {CX : CXT} {k : Nat} {C f : Addr} {fd : FuncData} {ps : List Str} {sp : Sp} {E : XK}
/-! ### str(x), x an instance with its own __str__ -/
def rStrOw (C : Addr) (sp : Sp) (E : XK) : List V → Hp → VK → Prop := fun vs H Q => ∃ a dx fs, vs = [.ref a] ∧ H a = some (.ins C dx fs) ∧ sp [.ref a] H (fun v H' => ∃ b, v = .str b ∧ Q v H') E
theorem call_strOw (at_ : PySem.W.findIn X.K (.ref C) "__str__" = some (some (.ref f))) (fn : PySem.W.isFn X.K (.ref f) = true) (F : FnOk X.prog X.w X.K X.mg X.base CX k f fd ps sp) (hr : Room (k + 2) X.A) (hb : Binds X.K fd ps []) (hx : Passes CX X E) :
    CallR X (.type "str") (rStrOw C sp E) := by
  intro pins s σ H vs us Q I r h
  obtain ⟨a, dx, fs, rfl, ha, q⟩ := h
  obtain rfl := Vals.ref1 r
  obtain ⟨od, J⟩ := inst_at I ha
  have hr2 : Room k X.A.in1.in1 := (show Room (k + 1) X.A.in1 from Room.in1 hr).in1
  refine PySem.W.kso_call (by have := hr2.units; omega) I.kIn J at_ fn (wpAny_mono (run_at2 (us := [.ref a]) (ws := [.ref a]) F hr2 I.env0.in1.in1 hb hx I (.cons rfl .nil) q) (fun w s' z => ?_) fun _ _ x => x)
  obtain ⟨z', H', I', rz, b, rfl, qz⟩ := z
  obtain ⟨t, rfl⟩ := rz
  exact ⟨.str b, H', I', ⟨t, rfl⟩, qz⟩
/-! ### repr(x), x an instance with its own __repr__ -/
theorem call_reprOw (at_ : PySem.W.findIn X.K (.ref C) "__repr__" = some (some (.ref f))) (fn : PySem.W.isFn X.K (.ref f) = true) (F : FnOk X.prog X.w X.K X.mg X.base CX k f fd ps sp) (hr : Room (k + 1) X.A) (hb : Binds X.K fd ps []) (hx : Passes CX X E) :
    CallR X (.builtin "repr") (rStrOw C sp E) := by
  intro pins s σ H vs us Q I r h
  obtain ⟨a, dx, fs, rfl, ha, q⟩ := h
  obtain rfl := Vals.ref1 r
  obtain ⟨od, J⟩ := inst_at I ha
  have hr1 : Room k X.A.in1 := Room.in1 hr
  refine repr_X (by have := hr1.units; omega) I.kIn J at_ fn (wpAny_mono (run_at2 (us := [.ref a]) (ws := [.ref a]) F hr1 I.env0.in1 hb hx I (.cons rfl .nil) q) (fun w s' z => ?_) fun _ _ x => x)
  obtain ⟨z', H', I', rz, b, rfl, qz⟩ := z
  obtain ⟨t, rfl⟩ := rz
  exact ⟨b, t, rfl, .str b, H', I', ⟨t, rfl⟩, qz⟩
/-! ### o.m(k = v, ..), a method called by names alone -/
def tMethK (C : Addr) (m : Str) (sp : Sp) (gV : List V → List V → List V) (E : XK) (ta : TE) (tk : TA) : TE := fun σ H Q => ta σ H fun x H1 => ∃ a dx fs, x = .ref a ∧ H1 a = some (.ins C dx fs) ∧ fs.lookup m = none ∧
  tk σ H1 fun zs H2 => sp (gV [x] zs) H2 Q E
theorem pe_methK {o : Expr} {m : Str} {apos pos : Pos} {kws : List Keyword} {ta : TE} {tk : TA} {ks : List Str} {g : List Value → List Value → List Value} {gV : List V → List V → List V} {pl : Sem Bool} (he : PE X o ta) (c : Cls X.K C) (hm : Meth X.K C m f) (F : FnOk X.prog X.w X.K X.mg X.base CX k f fd ps sp) (hr : Room k X.A)
    (hb : KBinds X.K fd ps ks g gV) (hx : Passes CX X E) (hkw : PK X kws tk) (hall : (backToKw pos (keywordEach kws X.env)).all (·.1.isSome) = true := by rfl) (hks : (backToKw pos (keywordEach kws X.env)).filterMap (·.1) = ks := by rfl)
    (hpl : ((backTo pos (starEach [] X.env)).any (·.1) || (backToKw pos (keywordEach kws X.env)).any (·.1.isNone)) = false := by rfl)
    (ht : eval (.Call (.Attribute o m apos) [] kws pos) X.env = (do
      let ov ← eval o X.env
      standAt apos.atName
      let (f, first) ← holding [ov] (getMethod ov m pl)
      callWith pos f first (backTo pos (starEach [] X.env)) (backToKw pos (keywordEach kws X.env))) := by rfl) : PE X (.Call (.Attribute o m apos) [] kws pos) (tMethK C m sp gV E ta tk) := by
  refine ⟨fun pins s σ H Q I h => PySem.W.methodCall_KW (pl := pl) (thn (he.run pins s σ H _ I h) fun u s1 ⟨x, H1, I1, rx, a, dx, fs, ex, ea, l, q⟩ => ?_) ht⟩
  subst ex
  obtain rfl : u = Value.ref a := rx
  refine getmeth_ok I1 ea c hm l (PySem.W.callWith_KW0 (first := [.ref a]) (h₀ := X.base) I.ok.mod.kin hm.kp hall (thn (hkw.run pos pins s1 σ H1 _ I1 q) fun ws s2 ⟨zs, H2, I2, rz, q2⟩ => ⟨I2.kIn, ?_⟩) hpl)
  rw [hks]
  exact run_fnk (us := [.ref a]) (vs := [.ref a]) F hr hb hx I2 (.cons rfl .nil) rz q2
/-! ### C.m(..), m a staticmethod of C: its record at p, its def at f -/
structure SMet (K : PySem.W.Frag) (C : Addr) (m : Str) (p f : Addr) : Prop where
  at_ : PySem.W.findCls K (.ref C) (.type "type") m = some (.get (.builtin "staticmethod.__get__") (.ref p) .none (.ref C))
  rc : ∃ rest, PySem.W.recIn K p "staticmethod" = some (.ref f :: rest)
  kp : PySem.W.keepIn K (.ref f) = true
theorem getsm_ok {pins : List (Addr × Obj)} {σ : L2.St} {H : Hp} {s : Shared} {A : Around} {E : Value → Shared → Prop} {m : Str} {p : Addr} {pl : Sem Bool} {Q : Value × List Value → Shared → Prop} (I : Inv X pins σ H s) (r : ClX.CRead X.K C (.type "type")) (c : SMet X.K C m p f)
    (h : ∀ s', Inv X pins σ H s' → Q (.ref f, []) s') : wpAny (model X.prog X.w) A (getMethod (.ref C) m pl) Q E s := by
  obtain ⟨rest, hp⟩ := c.rc
  exact PySem.W.method_cls I.kIn r.ga (PySem.W.cls_bind I.kIn r.rd c.at_ (wpAny_call (PySem.W.sm_get (s := { s with toks := s.toks + 1 }) I.kIn hp (PySem.W.handed_on rfl (h _ (I.tok _))))))
def tSm (C : Addr) (sp : Sp) (dvs : List V) (E : XK) (ta : TE) (t : TA) : TE := fun σ H Q => ta σ H fun x H1 => x = .ref C ∧ t σ H1 fun vs H2 => sp (vs ++ dvs) H2 Q E
theorem pe_sm {o e : Expr} {es : List Expr} {m : Str} {p : Addr} {apos pos : Pos} {ta : TE} {t : TA} {dvs : List V} {ds : List Value} {pl : Sem Bool} (he : PE X o ta) (r : ClX.CRead X.K C (.type "type")) (c : SMet X.K C m p f) (F : FnOk X.prog X.w X.K X.mg X.base CX k f fd ps sp) (hr : Room k X.A) (hb : Binds X.K fd ps ds) (hd : Vals dvs ds) (hx : Passes CX X E)
    (ha : PA X (e :: es) t) (hst : starEach (e :: es) X.env = (false, eval e X.env) :: starEach es X.env := by rfl) (hpl : (backTo pos (starEach es X.env)).any (·.1) = false := by rfl)
    (ht : eval (.Call (.Attribute o m apos) (e :: es) [] pos) X.env = (do
      let ov ← eval o X.env
      standAt apos.atName
      let (f, first) ← holding [ov] (getMethod ov m pl)
      callWith pos f first (backTo pos (starEach (e :: es) X.env)) (backToKw pos (keywordEach [] X.env))) := by rfl) : PE X (.Call (.Attribute o m apos) (e :: es) [] pos) (tSm C sp dvs E ta t) := by
  refine ⟨fun pins s σ H Q I h => PySem.W.methodCall_KW (pl := pl) (thn (he.run pins s σ H _ I h) fun u s1 ⟨x, H1, I1, rx, ex, q⟩ => ?_) ht⟩
  subst ex
  obtain rfl : u = Value.ref C := rx
  refine getsm_ok I1 r c fun s2 I2 => PySem.W.callWith_K (first := []) (h₀ := X.base) I.ok.mod.kin c.kp (thn (ha.run pos pins s2 σ H1 _ I2 q) fun us s3 ⟨vs, H2, I3, rv, q2⟩ => ⟨I3.kIn, ?_⟩) hst hpl
  exact run_fn (us := us) (vs := vs) F hr hb hd hx I3 rv q2
def tSmK (C : Addr) (sp : Sp) (gV : List V → List V → List V) (E : XK) (ta : TE) (tk : TA) : TE := fun σ H Q => ta σ H fun x H1 => x = .ref C ∧ tk σ H1 fun zs H2 => sp (gV [] zs) H2 Q E
theorem pe_smK {o : Expr} {m : Str} {p : Addr} {apos pos : Pos} {kws : List Keyword} {ta : TE} {tk : TA} {ks : List Str} {g : List Value → List Value → List Value} {gV : List V → List V → List V} {pl : Sem Bool} (he : PE X o ta) (r : ClX.CRead X.K C (.type "type")) (c : SMet X.K C m p f) (F : FnOk X.prog X.w X.K X.mg X.base CX k f fd ps sp) (hr : Room k X.A)
    (hb : KBinds X.K fd ps ks g gV) (hx : Passes CX X E) (hkw : PK X kws tk) (hall : (backToKw pos (keywordEach kws X.env)).all (·.1.isSome) = true := by rfl) (hks : (backToKw pos (keywordEach kws X.env)).filterMap (·.1) = ks := by rfl)
    (hpl : ((backTo pos (starEach [] X.env)).any (·.1) || (backToKw pos (keywordEach kws X.env)).any (·.1.isNone)) = false := by rfl)
    (ht : eval (.Call (.Attribute o m apos) [] kws pos) X.env = (do
      let ov ← eval o X.env
      standAt apos.atName
      let (f, first) ← holding [ov] (getMethod ov m pl)
      callWith pos f first (backTo pos (starEach [] X.env)) (backToKw pos (keywordEach kws X.env))) := by rfl) : PE X (.Call (.Attribute o m apos) [] kws pos) (tSmK C sp gV E ta tk) := by
  refine ⟨fun pins s σ H Q I h => PySem.W.methodCall_KW (pl := pl) (thn (he.run pins s σ H _ I h) fun u s1 ⟨x, H1, I1, rx, ex, q⟩ => ?_) ht⟩
  subst ex
  obtain rfl : u = Value.ref C := rx
  refine getsm_ok I1 r c fun s2 I2 => PySem.W.callWith_KW0 (first := []) (h₀ := X.base) I.ok.mod.kin c.kp hall (thn (hkw.run pos pins s2 σ H1 _ I2 q) fun ws s3 ⟨zs, H2, I3, rz, q2⟩ => ⟨I3.kIn, ?_⟩) hpl
  rw [hks]
  exact run_fnk (us := []) (vs := []) F hr hb hx I3 .nil rz q2
/-! ### x == y, x an instance with its own __eq__, y something else -/
def rOwN (K : PySem.W.Frag) (C : Addr) (sp : Sp) (E : XK) : R2 := fun x y H Q => ∃ a dx fs t, x = .ref a ∧ H a = some (.ins C dx fs) ∧ TyX K H y (.type t) ∧ PySem.W.subIn K (.type t) (.ref C) = some false ∧ sp [x, y] H Q E
theorem op_owEqN (at_ : PySem.W.findIn X.K (.ref C) "__eq__" = some (some (.ref f))) (fn : PySem.W.isFn X.K (.ref f) = true) (F : FnOk X.prog X.w X.K X.mg X.base CX k f fd ps sp) (hr : Room k X.A) (hb : Binds X.K fd ps []) (hx : Passes CX X E) :
    OpR X (compareOp .Eq) (rOwN X.K C sp E) := by
  intro pins s σ H x y v u Q I rx ry h
  obtain ⟨a, dx, fs, t, rfl, ha, ty, hsub, q⟩ := h
  cases (show v = Value.ref a from rx)
  obtain ⟨od, J⟩ := inst_at I ha
  obtain ⟨P, Z, hP, _⟩ := kit_of I ry ty
  obtain ⟨m, hF⟩ := I.fr
  refine PySem.W.cmp_K (op := .Eq) (tb := .type t) hr.units0 hF I.ok.mod.kin J (Z.ty _ s.heap I.kIn hP) (by simp [PySem.W.notFirst, hsub]) at_ fn ?_
  refine wpAny_mono (run_fn (us := [.ref a, u]) (vs := [.ref a, y]) F hr hb .nil hx I (.cons rfl (.cons ry .nil)) q) (fun w s' z => ?_) fun _ _ x => x
  obtain ⟨z', H', I', rz, qz⟩ := z
  exact cb rz ⟨z', H', I', rz, qz⟩
end
end TL
namespace TL
open PySem L2
/-! ### how keywords bind: one value by place and one by name, or one by name alone -/
def g11 {α : Type} : List α → List α → List α
  | [a], [b] => [a, b]
  | _, _ => []
def g01 {α : Type} : List α → List α → List α
  | [], [a] => [a]
  | _, _ => []
theorem vals_g11 {vs zs : List V} {us ws : List Value} (r : Vals vs us) (q : Vals zs ws) : Vals (g11 vs zs) (g11 us ws) := by
  rcases r with _ | ⟨h1, _ | ⟨_, _⟩⟩ <;> rcases q with _ | ⟨h2, _ | ⟨_, _⟩⟩ <;> first | exact .nil | exact .cons h1 (.cons h2 .nil)
theorem vals_g01 {vs zs : List V} {us ws : List Value} (r : Vals vs us) (q : Vals zs ws) : Vals (g01 vs zs) (g01 us ws) := by
  rcases r with _ | ⟨h1, _ | ⟨_, _⟩⟩ <;> rcases q with _ | ⟨h2, _ | ⟨_, _⟩⟩ <;> first | exact .nil | exact .cons h2 .nil
theorem g11_two {α : Type} {us ws : List α} (h : (g11 us ws).length = 2) : ∃ a b, us = [a] ∧ ws = [b] := by
  match us, ws, h with
  | [a], [b], _ => exact ⟨a, b, rfl, rfl⟩
  | [], _, h => simp [g11] at h
  | _ :: _ :: _, _, h => simp [g11] at h
  | [_], [], h => simp [g11] at h
  | [_], _ :: _ :: _, h => simp [g11] at h
theorem g01_one {α : Type} {us ws : List α} (h : (g01 us ws).length = 1) : ∃ a, us = [] ∧ ws = [a] := by
  match us, ws, h with
  | [], [a], _ => exact ⟨a, rfl, rfl⟩
  | _ :: _, _, h => simp [g01] at h
  | [], [], h => simp [g01] at h
  | [], _ :: _ :: _, h => simp [g01] at h
theorem Fun.kb11 {K : PySem.W.Frag} {x qual : Str} {st : Stmt} {f : Addr} {fd : FuncData} {p1 p2 : Str} (F : L2.Fun K x qual st f fd)
    (h : ∀ (kV doc pm : Value) (an : Option Addr) (cdv ct a b : Value), bindArgs (PySem.W.fnOf x qual (defArgs st) (defBody st) (defScope st) .none kV doc pm an cdv ct) ⟨[a], [(p2, b)]⟩ = pure [(p1, a), (p2, b)]) : KBinds K fd [p1, p2] [p2] g11 g11 := by
  obtain ⟨oc, od, kV, doc, pm, an, cdv, ct, osl, rfl, lk, hcd⟩ := F.ex
  refine ⟨fun s us ws X hl => ?_, vals_g11⟩
  obtain ⟨a, b, rfl, rfl⟩ := g11_two hl
  exact .of_eq (h _ _ _ _ _ _ a b)
theorem Fun.kb01 {K : PySem.W.Frag} {x qual : Str} {st : Stmt} {f : Addr} {fd : FuncData} {p1 : Str} (F : L2.Fun K x qual st f fd)
    (h : ∀ (kV doc pm : Value) (an : Option Addr) (cdv ct a : Value), bindArgs (PySem.W.fnOf x qual (defArgs st) (defBody st) (defScope st) .none kV doc pm an cdv ct) ⟨[], [(p1, a)]⟩ = pure [(p1, a)]) : KBinds K fd [p1] [p1] g01 g01 := by
  obtain ⟨oc, od, kV, doc, pm, an, cdv, ct, osl, rfl, lk, hcd⟩ := F.ex
  refine ⟨fun s us ws X hl => ?_, vals_g01⟩
  obtain ⟨a, rfl, rfl⟩ := g01_one hl
  exact .of_eq (h _ _ _ _ _ _ a)
/-- a def with defaults, called with keywords, all parameters written: g puts them in order -/
theorem FunD.kbinds1 {K : PySem.W.Frag} {x qual : Str} {params : Arguments} {body : List Stmt} {scope : Scope} {dvs : List V} {kws : List (Str × V)} {f : Addr} {fd : FuncData} {ps : List Str} (F : FunD K x qual params body scope dvs kws f fd) (n : Nat) (ks : List Str) (g : {α : Type} → List α → List α → List α) (hd : dvs ≠ [])
    (hrel : ∀ {vs zs : List V} {us ws : List Value}, Vals vs us → Vals zs ws → Vals (g vs zs) (g us ws))
    (h : ∀ (T : Addr) (kV doc pm : Value) (an : Option Addr) (cdv ct : Value) (us its ws : List Value), us.length = n → its.length = dvs.length → ws.length = ks.length →
      ∃ k, bindArgs (PySem.W.fnOf x qual params body scope (.ref T) kV doc pm an cdv ct) ⟨us, ks.zip ws⟩ = seqItems? (.ref T) >>= k ∧ k (some its.toArray) = pure (ps.zip (g us ws))) : KBn K fd ps n ks (fun us ws => g us ws) (fun vs zs => g vs zs) := by
  obtain ⟨oc, od, dV, kV, doc, pm, an, cdv, ct, osl, rfl, lk, hcd, hD, hK⟩ := F.ex
  rcases hD with ⟨e, _⟩ | ⟨_, T, o, its, m, rfl, lT, oT, rT⟩
  · exact absurd e hd
  · refine ⟨fun s us ws X l1 l2 => BindsTo.of_looks fun M => ?_, hrel⟩
    obtain ⟨k, e1, e2⟩ := h T kV doc pm an cdv ct us its ws l1 rT.length.symm l2
    rw [e1]
    exact looks_items X lT oT (.of_pure e2)
/-- the two values by name, the second parameter first -/
def gSwap {α : Type} (us ws : List α) : List α := us ++ ws.reverse
theorem vals_rev {vs : List V} {us : List Value} (r : Vals vs us) : Vals vs.reverse us.reverse := by
  induction r with
  | nil => exact .nil
  | cons h _ ih => rw [List.reverse_cons, List.reverse_cons]; exact ih.append (.cons h .nil)
theorem vals_swap {vs zs : List V} {us ws : List Value} (r : Vals vs us) (q : Vals zs ws) : Vals (gSwap vs zs) (gSwap us ws) := r.append (vals_rev q)
def gApp {α : Type} (us ws : List α) : List α := us ++ ws
theorem vals_app {vs zs : List V} {us ws : List Value} (r : Vals vs us) (q : Vals zs ws) : Vals (gApp vs zs) (gApp us ws) := r.append q
end TL
namespace TL
open PySem L2
/-! ### a def called by names alone -/
section
variable {X : Cx} {CX : CXT} {k : Nat} {x : Str} {f : Addr} {fd : FuncData} {ps ks : List Str} {sp : Sp} {E : XK} {tk : TA} {kws : List Keyword} {p pos : Pos} {g : List Value → List Value → List Value} {gV : List V → List V → List V}
def tCallK0 (sp : Sp) (gV : List V → List V → List V) (E : XK) (tk : TA) : TE := fun σ H Q => tk σ H fun zs H2 => sp (gV [] zs) H2 Q E
theorem pe_callK0 (F : FnOk X.prog X.w X.K X.mg X.base CX k f fd ps sp) (hr : Room k X.A) (hg : Gl X x) (hm : X.mg x = some (.ref f)) (hk : PySem.W.keepIn X.K (.ref f) = true) (hb : KBinds X.K fd ps ks g gV) (hx : Passes CX X E)
    (hkw : PK X kws tk) (hall : (backToKw pos (keywordEach kws X.env)).all (·.1.isSome) = true := by rfl) (hks : (backToKw pos (keywordEach kws X.env)).filterMap (·.1) = ks := by rfl)
    (hdb : (x == ("__debug__" : Str)) = false := by decide)
    (hpl : ((backTo pos (starEach [] X.env)).any (·.1) || (backToKw pos (keywordEach kws X.env)).any (·.1.isNone)) = false := by rfl) :
    PE X (.Call (.Name x p) [] kws pos) (tCallK0 sp gV E tk) := by
  refine ⟨fun pins s σ H Q I h => ?_⟩
  refine wpAny_Call_Name_kw (ld_glob I hg hm ?_ hdb)
  refine PySem.W.callWith_KW0 (first := []) (h₀ := X.base) I.ok.mod.kin hk hall (thn (hkw.run pos pins s σ H _ I h) fun ws s2 ⟨zs, H2, I2, rz, q2⟩ => ⟨I2.kIn, ?_⟩) hpl
  rw [hks]
  exact run_fnk (us := []) (vs := []) F hr hb hx I2 .nil rz q2
end
/-- two values by name, the second parameter first -/
def g02s {α : Type} : List α → List α → List α
  | [], [a, b] => [b, a]
  | _, _ => []
theorem vals_g02s {vs zs : List V} {us ws : List Value} (r : Vals vs us) (q : Vals zs ws) : Vals (g02s vs zs) (g02s us ws) := by
  rcases r with _ | ⟨h1, _⟩
  · rcases q with _ | ⟨h2, _ | ⟨h3, _ | ⟨_, _⟩⟩⟩ <;> first | exact .nil | exact .cons h3 (.cons h2 .nil)
  · exact .nil
theorem g02s_two {α : Type} {us ws : List α} (h : (g02s us ws).length = 2) : ∃ a b, us = [] ∧ ws = [a, b] := by
  match us, ws, h with
  | [], [a, b], _ => exact ⟨a, b, rfl, rfl⟩
  | _ :: _, _, h => simp [g02s] at h
  | [], [], h => simp [g02s] at h
  | [], [_], h => simp [g02s] at h
  | [], _ :: _ :: _ :: _, h => simp [g02s] at h
theorem Fun.kb02s {K : PySem.W.Frag} {x qual : Str} {st : Stmt} {f : Addr} {fd : FuncData} {p1 p2 : Str} (F : L2.Fun K x qual st f fd)
    (h : ∀ (kV doc pm : Value) (an : Option Addr) (cdv ct a b : Value), bindArgs (PySem.W.fnOf x qual (defArgs st) (defBody st) (defScope st) .none kV doc pm an cdv ct) ⟨[], [(p2, b), (p1, a)]⟩ = pure [(p1, a), (p2, b)]) : KBinds K fd [p1, p2] [p2, p1] g02s g02s := by
  obtain ⟨oc, od, kV, doc, pm, an, cdv, ct, osl, rfl, lk, hcd⟩ := F.ex
  refine ⟨fun s us ws X hl => ?_, vals_g02s⟩
  obtain ⟨a, b, rfl, rfl⟩ := g02s_two hl
  exact .of_eq (h _ _ _ _ _ _ b a)
end TL
namespace PySem.W
open PySem PySem.Spec PySem.Calls PyProof.Rows
section
variable {prog : Program} {w : World} {A : Around} {E : Value → Shared → Prop} {s : Shared} {K : Frag} {x C L : Addr} {h₀ : Heap} {m : Str → Option Value} {ox : Obj} {od : Option Obj} {f : Addr} {b tb : Value} {name : Str} {id : String}
theorem ifBound_KB {M : Model} {args : List Value} {Q : Option Value → Shared → Prop} (X : K.In s.heap) (I : InstAt s.heap x ox C od) (hs : findIn K (.ref C) name = some (some (.builtin id))) (hb : ∀ self, bindSpecial (.builtin id) self = pure (.builtin id, [self]))
    (h : wpAny M A (call (.builtin id) (.ref x :: args)) (fun v => Q (some v)) E s) : wpAny M A (callSpecialIfBound? (.ref x) name args) Q E s := by
  simp only [callSpecialIfBound?, bindSpecialIfBound?]
  refine wpAny_holding (wpAny_bind (wpAny_bind (wpAny_bind (I.type.here ((looks_findIn X hs).here ?_)))))
  refine wpAny_bind (wpAny_askSetting (wpAny_ite ?_))
  have fin : wpAny M A (call (.builtin id) ([.ref x] ++ args) >>= fun v => pure (some v)) Q E s := wpAny_bind (wpAny_mono h (fun v s' h' => wpAny_pure h') fun _ _ h' => h')
  split
  · exact wpAny_bind ((Looks.of_pure (hb _)).here (wpAny_pure (by exact fin)))
  · exact wpAny_tryCatch (wpAny_bind ((Looks.of_pure (hb _)).here (wpAny_pure (by exact fin))))
open Builtin in
theorem one_ne {Q : Value → Shared → Prop} (hu : A.in1.units < cLine) (X : K.In s.heap) (I : InstAt s.heap x ox C od) (hm : mroIn K C (.type "object") = some true) (hr : findIn K (.ref C) "__eq__" = some (some (.ref f))) (hf : isFn K (.ref f) = true)
    (h : wpAny (model prog w) A.in1 (call (.ref f) [.ref x, b]) (fun v s' => ∃ c, v = .bool c ∧ Q (.bool (!c)) s') E s) : wpAny (model prog w) A (call (.builtin "object.__ne__") [.ref x, b]) Q E s := by
  refine wpAny_call (codeAny_call_builtin PySem.F.cmp_object.ne.plain PySem.F.cmpEntry_ne (check_slot (i := "object.__ne__") (owner := "object") (n := "__ne__") (by decide +kernel) (by decide +kernel) (I.type.andThen (looks_mroIn X hm)) (PySem.F.cmpArgs_ne _ _) ?_))
  unfold Builtin.«object.__ne__»
  refine wpAny_bind (m := slotArgs "__ne__" 1 _) (wpAny_pure ?_)
  refine wpAny_bind (m := cRoomFor _ _) (wpAny_cRoomFor hu ?_)
  refine wpAny_bind (m := callSpecialIfBound? (.ref x) (Str.ofString "__eq__") _) (ifBound_K X I hr hf (wpAny_mono h (fun r s' hq => ?_) fun _ _ y => y))
  obtain ⟨c, rfl, hq⟩ := hq
  exact wpAny_bind (wpAny_truthy_bool (wpAny_pure hq))
theorem cmp_KNe {Q : Value → Shared → Prop} (hu : A.units < cLine) (hu1 : A.in1.units < cLine) (F : Fr h₀ L s.heap m) (X₀ : K.In h₀) (I : InstAt s.heap x ox C od) (hb : Looks (model prog w) s.heap (typeOf b) tb) (hn : notFirst K C tb = true)
    (hne : findIn K (.ref C) "__ne__" = some (some (.builtin "object.__ne__"))) (hm : mroIn K C (.type "object") = some true) (hs : findIn K (.ref C) "__eq__" = some (some (.ref f))) (hf : isFn K (.ref f) = true)
    (h : wpAny (model prog w) A.in1 (call (.ref f) [.ref x, b]) (fun v s' => ∃ c, v = .bool c ∧ Q (.bool (!c)) s') E s) : wpAny (model prog w) A (richCompare .NotEq (.ref x) b) Q E s := by
  have X := X₀.keeps F.keep
  have one : wpAny (model prog w) A (tryCompare (.ref x) (cmpInfo .NotEq).2.1 b) (fun r s' => ∃ v, r = some v ∧ Q v s') E s := by
    unfold tryCompare
    refine wpAny_bind (ifBound_KB X I hne PySem.F.cmp_object.ne.bind (one_ne hu1 X I hm hs hf (wpAny_mono h (fun v s' hv => ?_) fun _ _ e => e)))
    obtain ⟨c, rfl, hq⟩ := hv
    exact ⟨c, rfl, wpAny_pure ⟨_, rfl, hq⟩⟩
  unfold richCompare
  simp only [oneThing_ref]
  refine wpAny_holding (wpAny_bind (wpAny_cRoomFor hu ?_))
  refine wpAny_bind (I.type.here (wpAny_bind (hb.here ?_)))
  split
  · rename_i q
    have e : subIn K tb (.ref C) = some false := by
      rcases Bool.or_eq_true_iff.mp hn with e | e
      · rw [beq_iff_eq.mp e] at q; simp at q
      · exact beq_iff_eq.mp e
    refine wpAny_bind ((looks_subIn X e).here ?_)
    simp only [Bool.false_eq_true, if_false]
    refine wpAny_bind (wpAny_mono one (fun r s' z => ?_) fun _ _ e => e)
    obtain ⟨v, rfl, hq⟩ := z
    exact wpAny_pure hq
  · refine wpAny_bind (wpAny_pure ?_)
    simp only [Bool.false_eq_true, if_false]
    refine wpAny_bind (wpAny_mono one (fun r s' z => ?_) fun _ _ e => e)
    obtain ⟨v, rfl, hq⟩ := z
    exact wpAny_pure hq
end
end PySem.W
namespace TL
open PySem L2
section
variable {X : Cx} {C f : Addr} {k : Nat} {fd : FuncData} {ps : List Str} {sp : Sp} {CX : CXT} {E : XK}
/-- x != y, both instances of the class at C that has __eq__ alone -/
def rOwNe (C : Addr) (sp : Sp) (E : XK) : R2 := fun x y H Q => ∃ a dx fs b dy gs, x = .ref a ∧ y = .ref b ∧ H a = some (.ins C dx fs) ∧ H b = some (.ins C dy gs) ∧ sp [x, y] H (fun v H' => ∃ c, v = .bl c ∧ Q (.bl (!c)) H') E
theorem op_owNe (at_ : PySem.W.findIn X.K (.ref C) "__eq__" = some (some (.ref f))) (fn : PySem.W.isFn X.K (.ref f) = true) (ne : PySem.W.findIn X.K (.ref C) "__ne__" = some (some (.builtin "object.__ne__"))) (hm : PySem.W.mroIn X.K C (.type "object") = some true)
    (F : FnOk X.prog X.w X.K X.mg X.base CX k f fd ps sp) (hr : Room (k + 1) X.A) (hb : Binds X.K fd ps []) (hx : Passes CX X.nox E) : OpR X (compareOp .NotEq) (rOwNe C sp E) := by
  intro pins s σ H x y v u Q I rx ry h
  obtain ⟨a, dx, fs, b, dy, gs, rfl, rfl, ha, hb', q⟩ := h
  cases (show v = Value.ref a from rx)
  cases (show u = Value.ref b from ry)
  obtain ⟨od, J⟩ := inst_at I ha
  obtain ⟨od', J'⟩ := inst_at I hb'
  obtain ⟨m, hF⟩ := I.fr
  refine PySem.W.cmp_KNe (tb := .ref C) hr.units0 hr.in1.units0 hF I.ok.mod.kin J J'.type (by simp [PySem.W.notFirst]) ne hm at_ fn ?_
  have hl : ([Value.ref a, Value.ref b] ++ []).length = ps.length := by
    rw [← F.len _ _ _ _ q]
    rfl
  refine wpAny_call (codeAny_mono (F.run X.A.in1 X.stack s H ⟨[.ref a, .ref b], []⟩ [.ref a, .ref b] [.ref a, .ref b] _ E hr.in1 I.env0.in1 (hb s [.ref a, .ref b] I.kIn hl) (.cons rfl (.cons rfl .nil)) q) fun r s' hq => ?_)
  cases r with
  | error er => exact False.elim (hx pins σ H s er s' (I.wish _) hq)
  | ok fl =>
    cases fl with
    | ret u =>
      obtain ⟨v, H', I3, rv, c, rfl, q3⟩ := I.after hq
      cases (show u = Value.bool c from rv)
      exact ⟨c, rfl, .bl (!c), H', I3, rfl, q3⟩
    | next => exact False.elim hq
    | brk => exact False.elim hq
    | cont => exact False.elim hq
end
end TL
namespace TL
open PySem L2
/-- two values by name, in order -/
def g02 {α : Type} : List α → List α → List α
  | [], [a, b] => [a, b]
  | _, _ => []
theorem vals_g02 {vs zs : List V} {us ws : List Value} (r : Vals vs us) (q : Vals zs ws) : Vals (g02 vs zs) (g02 us ws) := by
  rcases r with _ | ⟨h1, _⟩
  · rcases q with _ | ⟨h2, _ | ⟨h3, _ | ⟨_, _⟩⟩⟩ <;> first | exact .nil | exact .cons h2 (.cons h3 .nil)
  · exact .nil
theorem g02_two {α : Type} {us ws : List α} (h : (g02 us ws).length = 2) : ∃ a b, us = [] ∧ ws = [a, b] := by
  match us, ws, h with
  | [], [a, b], _ => exact ⟨a, b, rfl, rfl⟩
  | _ :: _, _, h => simp [g02] at h
  | [], [], h => simp [g02] at h
  | [], [_], h => simp [g02] at h
  | [], _ :: _ :: _ :: _, h => simp [g02] at h
theorem Fun.kb02 {K : PySem.W.Frag} {x qual : Str} {st : Stmt} {f : Addr} {fd : FuncData} {p1 p2 : Str} (F : L2.Fun K x qual st f fd)
    (h : ∀ (kV doc pm : Value) (an : Option Addr) (cdv ct a b : Value), bindArgs (PySem.W.fnOf x qual (defArgs st) (defBody st) (defScope st) .none kV doc pm an cdv ct) ⟨[], [(p1, a), (p2, b)]⟩ = pure [(p1, a), (p2, b)]) : KBinds K fd [p1, p2] [p1, p2] g02 g02 := by
  obtain ⟨oc, od, kV, doc, pm, an, cdv, ct, osl, rfl, lk, hcd⟩ := F.ex
  refine ⟨fun s us ws X hl => ?_, vals_g02⟩
  obtain ⟨a, b, rfl, rfl⟩ := g02_two hl
  exact .of_eq (h _ _ _ _ _ _ a b)
/-- three values by name, the third parameter ahead of the second -/
def g03s {α : Type} : List α → List α → List α
  | [], [a, c, b] => [a, b, c]
  | _, _ => []
theorem vals_g03s {vs zs : List V} {us ws : List Value} (r : Vals vs us) (q : Vals zs ws) : Vals (g03s vs zs) (g03s us ws) := by
  rcases r with _ | ⟨h1, _⟩
  · rcases q with _ | ⟨h2, _ | ⟨h3, _ | ⟨h4, _ | ⟨_, _⟩⟩⟩⟩ <;> first | exact .nil | exact .cons h2 (.cons h4 (.cons h3 .nil))
  · exact .nil
theorem g03s_three {α : Type} {us ws : List α} (h : (g03s us ws).length = 3) : ∃ a c b, us = [] ∧ ws = [a, c, b] := by
  match us, ws, h with
  | [], [a, c, b], _ => exact ⟨a, c, b, rfl, rfl⟩
  | _ :: _, _, h => simp [g03s] at h
  | [], [], h => simp [g03s] at h
  | [], [_], h => simp [g03s] at h
  | [], [_, _], h => simp [g03s] at h
  | [], _ :: _ :: _ :: _ :: _, h => simp [g03s] at h
theorem Fun.kb03s {K : PySem.W.Frag} {x qual : Str} {st : Stmt} {f : Addr} {fd : FuncData} {p1 p2 p3 : Str} (F : L2.Fun K x qual st f fd)
    (h : ∀ (kV doc pm : Value) (an : Option Addr) (cdv ct a c b : Value), bindArgs (PySem.W.fnOf x qual (defArgs st) (defBody st) (defScope st) .none kV doc pm an cdv ct) ⟨[], [(p1, a), (p3, c), (p2, b)]⟩ = pure [(p1, a), (p2, b), (p3, c)]) : KBinds K fd [p1, p2, p3] [p1, p3, p2] g03s g03s := by
  obtain ⟨oc, od, kV, doc, pm, an, cdv, ct, osl, rfl, lk, hcd⟩ := F.ex
  refine ⟨fun s us ws X hl => ?_, vals_g03s⟩
  obtain ⟨a, c, b, rfl, rfl⟩ := g03s_three hl
  exact .of_eq (h _ _ _ _ _ _ a c b)
end TL
namespace TL
open PySem PySem.Spec PyProof.Rows L2
/-! ### max and min of a tuple of ints -/
section
variable {prog : Program} {w : World} {A : Around} {E : Value → Shared → Prop} {s : Shared} {l : Addr} {xs : Array (Int × Tok)}
theorem iter_intTuple {Q : Value → Shared → Prop} (hl : s.heap.IsTuple l (intItems xs))
    (h : ∀ s₂ : Shared, s₂ = { s with heap := s.heap.push { cls := .type "tuple_iterator", data := .fields #[.ref l, .int 0 0] } } →
      (s₂.heap.IsTupleIter s.heap.objs.size l 0 ∧ s₂.heap.IsTuple l (intItems xs)) → (∀ b ∈ [s.heap.objs.size, l], b < s₂.heap.objs.size) → l ≠ s.heap.objs.size → Q (.ref s.heap.objs.size) s₂) :
    wpAny (model prog w) A (pyIter (.ref l)) Q E s := by
  have hlt : l < s.heap.objs.size := by obtain ⟨_, e, _⟩ := hl; exact Heap.lt_size e
  refine wpAny_pyIter_tuple hl (h _ rfl ⟨⟨_, Heap.get?_push_size _ rfl, rfl, rfl⟩, hl.push _⟩ (fun b hb => ?_) (Nat.ne_of_lt hlt))
  show b < (s.heap.push _).objs.size
  rw [Heap.size_push]
  rcases List.mem_cons.mp hb with rfl | hb
  · exact Nat.lt_succ_self _
  · rcases List.mem_cons.mp hb with rfl | hb
    · exact Nat.lt_succ_of_lt hlt
    · cases hb
theorem old_keptT {h' : Heap} (hk : ∀ b o, b ∉ [s.heap.objs.size] → (s.heap.push { cls := .type "tuple_iterator", data := .fields #[.ref l, .int 0 0] }).get? b = some o → h'.get? b = some o) :
    ∀ b o, s.heap.get? b = some o → h'.get? b = some o := fun b o e => by
  refine hk b o (fun hm => ?_) (Heap.get?_push_of_some _ e)
  rcases List.mem_cons.mp hm with e1 | hm
  · rw [e1] at e
    exact absurd (Heap.lt_size e) (Nat.lt_irrefl _)
  · cases hm
theorem max_intTuple {Q : Value → Shared → Prop} (hh : A.handled = none) (hl : s.heap.IsTuple l (intItems xs)) (hne : 0 < xs.size)
    (h : ∀ v h' tk, (intItems xs)[argBest (fun i j => decide (numAt xs i > numAt xs j)) (xs.size - 1)]? = some v → (∀ b o, s.heap.get? b = some o → h'.get? b = some o) → Q v { s with heap := h', toks := tk }) :
    wpAny (model prog w) A (call (.builtin "max") [.ref l]) Q E s := by
  refine call_max_walk (iter_intTuple hl fun s₂ e st hfp hlI => ?_)
  subst e
  refine ⟨_, _, _, _, _, _, _, rfl, Walks.tuple (A := A.in1) hh _ l hlI (intItems xs), st, hfp, by simpa [intItems] using hne, CmpOf.ints_gt (numAt xs) (fun _ _ => intItems_at), fun v h' tk hP hk => ?_⟩
  exact h v h' tk (by simpa [intItems] using hP) (old_keptT hk)
theorem min_intTuple {Q : Value → Shared → Prop} (hh : A.handled = none) (hl : s.heap.IsTuple l (intItems xs)) (hne : 0 < xs.size)
    (h : ∀ v h' tk, (intItems xs)[argBest (fun i j => decide (numAt xs i < numAt xs j)) (xs.size - 1)]? = some v → (∀ b o, s.heap.get? b = some o → h'.get? b = some o) → Q v { s with heap := h', toks := tk }) :
    wpAny (model prog w) A (call (.builtin "min") [.ref l]) Q E s := by
  refine call_min_walk (iter_intTuple hl fun s₂ e st hfp hlI => ?_)
  subst e
  refine ⟨_, _, _, _, _, _, _, rfl, Walks.tuple (A := A.in1) hh _ l hlI (intItems xs), st, hfp, by simpa [intItems] using hne, CmpOf.ints_lt (numAt xs) (fun _ _ => intItems_at), fun v h' tk hP hk => ?_⟩
  exact h v h' tk (by simpa [intItems] using hP) (old_keptT hk)
end
section
variable {prog : Program} {w : World} {A : Around} {E : Value → Shared → Prop} {s : Shared} {l : Addr} {its : List Value} {ns : List Int} {Q : Value → Shared → Prop}
theorem max_rawT (hh : A.handled = none) (hl : s.heap.IsTuple l its.toArray) (hi : IntsAre its ns) (hne : 0 < ns.length)
    (h : ∀ h' tk M t', (∀ b o, s.heap.get? b = some o → h'.get? b = some o) → M ∈ ns → (∀ a, a ∈ ns → a ≤ M) → Q (.int M t') { s with heap := h', toks := tk }) : wpAny (model prog w) A (call (.builtin "max") [.ref l]) Q E s := by
  obtain ⟨xs, e⟩ := hi.allInts.items
  have hn : numsOf (intItems xs).toList = ns := by rw [← e]; exact hi.numsOf
  rw [nums_intItems] at hn
  subst hn
  rw [e] at hl
  have hsz : 0 < xs.size := by simpa using hne
  refine max_intTuple hh hl hsz fun v h' tk hv hk => ?_
  obtain ⟨t, rfl⟩ := intItems_at hv
  obtain ⟨h1, h2⟩ := argBest_gt (numAt xs) (xs.size - 1)
  refine h h' tk _ t hk ?_ fun a ha => ?_
  · rw [numAt_eq]; exact PySem.getD_mem (by rw [List.length_map, Array.length_toList]; omega)
  · obtain ⟨j, hj, rfl⟩ := mem_getD ha
    rw [List.length_map, Array.length_toList] at hj
    rw [← numAt_eq]; exact h2 j (by omega)
theorem min_rawT (hh : A.handled = none) (hl : s.heap.IsTuple l its.toArray) (hi : IntsAre its ns) (hne : 0 < ns.length)
    (h : ∀ h' tk M t', (∀ b o, s.heap.get? b = some o → h'.get? b = some o) → M ∈ ns → (∀ a, a ∈ ns → M ≤ a) → Q (.int M t') { s with heap := h', toks := tk }) : wpAny (model prog w) A (call (.builtin "min") [.ref l]) Q E s := by
  obtain ⟨xs, e⟩ := hi.allInts.items
  have hn : numsOf (intItems xs).toList = ns := by rw [← e]; exact hi.numsOf
  rw [nums_intItems] at hn
  subst hn
  rw [e] at hl
  have hsz : 0 < xs.size := by simpa using hne
  refine min_intTuple hh hl hsz fun v h' tk hv hk => ?_
  obtain ⟨t, rfl⟩ := intItems_at hv
  obtain ⟨h1, h2⟩ := argBest_lt (numAt xs) (xs.size - 1)
  refine h h' tk _ t hk ?_ fun a ha => ?_
  · rw [numAt_eq]; exact PySem.getD_mem (by rw [List.length_map, Array.length_toList]; omega)
  · obtain ⟨j, hj, rfl⟩ := mem_getD ha
    rw [List.length_map, Array.length_toList] at hj
    rw [← numAt_eq]; exact h2 j (by omega)
end
section
variable {X : Cx}
/-- max(xs), min(xs) of a list or a tuple of ints -/
def rMaxS (K : PySem.W.Frag) : List V → Hp → VK → Prop := fun vs H Q => ∃ (a : Addr) (ns : List Int), vs = [V.ref a] ∧ Sq K H a (ns.map V.int) ∧ 0 < ns.length ∧ ∀ m, m ∈ ns → (∀ y, y ∈ ns → y ≤ m) → Q (.int m) H
def rMinS (K : PySem.W.Frag) : List V → Hp → VK → Prop := fun vs H Q => ∃ (a : Addr) (ns : List Int), vs = [V.ref a] ∧ Sq K H a (ns.map V.int) ∧ 0 < ns.length ∧ ∀ m, m ∈ ns → (∀ y, y ∈ ns → m ≤ y) → Q (.int m) H
theorem cr_maxS (hc : X.calm = true) : CallR X (.builtin "max") (rMaxS X.K) := by
  intro pins s σ H vs us Q I r h
  obtain ⟨a, ns, rfl, hs, hne, q⟩ := h
  rcases hs with hs | hs
  · exact cr_max hc pins s σ H _ us Q I r ⟨a, ns, rfl, hs, hne, q⟩
  · obtain ⟨its, rv, hl, _⟩ := I.tuple hs
    rw [Vals.ref1 r]
    exact max_rawT (I.ok.hd hc) hl rv.ints hne fun h' tk m t' hk h1 h2 => ⟨.int _, H, I.kept hk, ⟨_, rfl⟩, q m h1 h2⟩
theorem cr_minS (hc : X.calm = true) : CallR X (.builtin "min") (rMinS X.K) := by
  intro pins s σ H vs us Q I r h
  obtain ⟨a, ns, rfl, hs, hne, q⟩ := h
  rcases hs with hs | hs
  · exact cr_min hc pins s σ H _ us Q I r ⟨a, ns, rfl, hs, hne, q⟩
  · obtain ⟨its, rv, hl, _⟩ := I.tuple hs
    rw [Vals.ref1 r]
    exact min_rawT (I.ok.hd hc) hl rv.ints hne fun h' tk m t' hk h1 h2 => ⟨.int _, H, I.kept hk, ⟨_, rfl⟩, q m h1 h2⟩
end
end TL
namespace TL
theorem iteT' {A B : Prop} {c : Bool} (e : c = true) (h : A) : if c = true then A else B := by
  rw [e]
  exact h
theorem iteF' {A B : Prop} {c : Bool} (e : c = false) (h : B) : if c = true then A else B := by
  rw [e]
  exact h
end TL
namespace TL
open PySem PySem.Spec PyProof.Rows L2
/-! ### own errors whose __init__ takes nothing -/
section
variable {X : Cx} {p pos : Pos}
theorem pmk_oex0 {CX : CXT} {x : Str} {C fI : Addr} {k : Nat} {fd : FuncData} {ps : List Str} {sp : Sp} {ds : List Value} {dvs : List V} (T : OexC X.K C) (iC : PySem.W.findIn X.K (.ref C) "__init__" = some (some (.ref fI))) (tI : PySem.W.typeIn X.K (.ref fI) = some (.type "function"))
    (F1 : FnOk X.prog X.w X.K X.mg X.base CX k fI fd ps sp) (hr : Room (k + 1) X.A) (hb : Binds X.K fd ps ds) (hd : Vals dvs ds) (hx : Passes CX X (fun _ _ _ => False)) (hg : Gl X x) (hm : X.mg x = some (.ref C))
    (hdb : (x == ("__debug__" : Str)) = false := by decide) :
    PMk X (.Call (.Name x p) [] [] pos) (tMkO C sp dvs tNil) := by
  intro pins s σ H Q I h
  obtain ⟨nm, q, N, bs, bm, sn, sub, ab, col, dd, k0, k1, k2, k3, k5, hC, hbm⟩ := T.cls
  refine wpAny_Call_Name_kw (ld_glob I hg hm ?_ hdb)
  refine PySem.W.callWith_K0 I.kIn T.kC ?_
  obtain ⟨hz, q1⟩ : ([] : List V).length ≤ 1000 ∧ ∀ a, H a = none → sp (.ref a :: ([] ++ dvs)) (upd H a (exo a C none)) (fun v H2 => v = .non ∧ ∃ (d : Addr) (fs : List (Str × V)), H2 a = some (exo a C (some d)) ∧ H2 d = some (exd d fs) ∧ H d = none ∧ Q (.ref C) (some d) (upd (del H2 a) d (.xd fs))) (fun _ _ _ => False) := h
  obtain ⟨hp, g, dr, tk, os⟩ := s
  have I1 := I
  have hsz : hp.objs.size ≤ hp.objs.size + 1 := Nat.le_succ _
  have hn : H (hp.objs.size + 1) = none := I1.hok.fresh hsz
  have hq := q1 (hp.objs.size + 1) hn
  have kk : ∀ b o, hp.get? b = some o → ((hp.push (PySem.W.kdv_tup [])).push (PySem.HandSPX.excO C hp.objs.size)).get? b = some o := fun b o e => Heap.get?_push_of_some _ (Heap.get?_push_of_some _ e)
  have hget : ((hp.push (PySem.W.kdv_tup [])).push (PySem.HandSPX.excO C hp.objs.size)).get? (hp.objs.size + 1) = some (PySem.HandSPX.excO C hp.objs.size) := by heap_get
  have I2 : Inv X pins σ (upd H (hp.objs.size + 1) (exo (hp.objs.size + 1) C none)) ⟨(hp.push (PySem.W.kdv_tup [])).push (PySem.HandSPX.excO C hp.objs.size), g, dr, tk, os⟩ :=
    I1.laid (t' := tk) (a := hp.objs.size + 1) (o := exo (hp.objs.size + 1) C none) (h' := (hp.push (PySem.W.kdv_tup [])).push (PySem.HandSPX.excO C hp.objs.size)) kk hsz (exo_ok hget)
  have r2 : Vals (V.ref (hp.objs.size + 1) :: dvs) (Value.ref (hp.objs.size + 1) :: ds) := .cons rfl hd
  have hl : ([Value.ref (hp.objs.size + 1)] ++ ds).length = ps.length := by
    exact r2.length.symm.trans (F1.len _ _ _ _ hq)
  show wpAny _ _ (call (.ref C) []) _ _ _
  refine wpAny_call (PySem.HandSPX.call_own F.excBase_ValueError (fun Y => PySem.HandSPX.refsVE_contains Y bm hbm) (I1.kIn _ _ hC) (PySem.W.looks_findIn I1.kIn iC) (fun self => PySem.W.bind_fn I1.kIn self tI) (by show 0 ≤ sizeLine; decide)
    (codeAny_mono (F1.run _ X.stack _ _ ⟨[Value.ref (hp.objs.size + 1)], []⟩ ([Value.ref (hp.objs.size + 1)] ++ ds) _ _ (fun _ _ _ => False) (hr.make C [] []) (I2.env0.make C [] []) (hb _ (Value.ref (hp.objs.size + 1) :: []) I2.kIn hl) r2 hq) fun r s' hq' => ?_))
  cases r with
  | error er => exact hx pins σ _ _ er s' I2 hq'
  | ok fl =>
    cases fl with
    | ret u =>
      obtain ⟨v, H2, os2, bare2, un2, hok2, rv, ev, d, fs, ea, ed, hd1, q2⟩ := hq'
      subst ev
      obtain ⟨h2, g2, d2, t2, os'⟩ := s'
      exact ⟨rv, mk_end (raises_own T.exC T.tyC) I1 hsz kk un2 hok2 os2 bare2 ea ed hd1 q2⟩
    | next => exact False.elim hq'
    | brk => exact False.elim hq'
    | cont => exact False.elim hq'
end
/-! ### isinstance of a caught error that has its own dict -/
end TL
namespace PySem.W
open PySem PySem.Spec PySem.Calls PyProof.Rows
section
variable {prog : Program} {w : World} {A : Around} {E : Value → Shared → Prop} {s : Shared} {K : Frag} {x D : Addr} {ox : Obj} {od : Option Obj}
theorem findObj_dataA {C : Addr} {name : Str} {a g : Value} (hc : (clsIn K C).isSome = true) (ha : findIn K (.ref C) name = some (some a)) (hg : specialIn K a "__get__" = some (some g)) (ht : takesIn K a = some true) : findObj K C od name = some (.bind g a) := by
  cases od with
  | none => exact findObj_dataN hc ha hg ht
  | some o => exact findObj_data hc ha hg ht
theorem kin_classA {Q : Option Value → Shared → Prop} (hga : findIn K (.ref D) "__getattribute__" = some (some (.builtin "BaseException.__getattribute__"))) (hgt : findIn K (.ref D) "__getattr__" = some none) (hsub : subIn K (.ref D) (.type "BaseException") = some true)
    (hdct : hasDictIn K D = true) (ha : findIn K (.ref D) "__class__" = some (some (.builtin "object.__class__")))
    (hn : specialIn K (.builtin "object.__class__") "__get__" = some (some (.builtin "getset_descriptor.__get__"))) (htk : takesIn K (.builtin "object.__class__") = some true) (hm : mroIn K D (.type "object") = some true)
    (X : K.In s.heap) (I : InstAt s.heap x ox D od) (h : Q (some (.ref D)) { s with toks := s.toks + 1 }) : wpAny (model prog w) A (getAttr? (.ref x) "__class__") Q E s := by
  have hf : findObj K D od "__class__" = some (.bind (.builtin "getset_descriptor.__get__") (.builtin "object.__class__")) := findObj_dataA (by obtain ⟨cd, hc, _⟩ := any_some hdct; rw [hc]; rfl) ha hn htk
  obtain ⟨hp, g, d, t, os⟩ := s
  have L0 := I.type (M := model prog w)
  have L1 := looks_findIn (M := model prog w) X hga
  have L2 := looks_findIn (M := model prog w) X hgt
  have L3 := looks_find (M := model prog w) X I hf
  have sub : Looks (model prog w) hp (isInstance (.ref x) (.type "BaseException")) true := L0.andThen (looks_subIn X hsub)
  have hx0 : (false && onTheHeap (Value.builtin "BaseException.__getattribute__")) = false := rfl
  have hx2 : (Value.builtin "BaseException.__getattribute__" == Value.builtin "object.__getattribute__") = false := by decide +kernel
  have hx1 : (onTheHeap (Value.ref D) && Value.builtin "BaseException.__getattribute__" == Value.builtin "object.__getattribute__") = false := by rw [hx2]; rfl
  unfold getAttr? getAttrBy? getAttrBy
  refine wpAny_bind (wpAny_mkText (wpAny_bind (wpAny_attempt (wpAny_holding (wpAny_bind (L0.at (wpAny_bind (L1.at ?_))))))))
  show wpAny _ _ (if (onTheHeap (Value.ref D) && Value.builtin "BaseException.__getattribute__" == Value.builtin "object.__getattribute__") = true then _ else _) _ _ _
  rw [hx1, if_neg Bool.false_ne_true]
  unfold getAttrByItsOwn hookBefore
  refine wpAny_bind ?_
  rw [if_pos (show onTheHeap (Value.ref D) = true from rfl)]
  refine L2.at ?_
  refine wpAny_bind (wpAny_attempt (wpAny_holding ?_))
  unfold callGetattribute
  rw [hx0, if_neg Bool.false_ne_true]
  unfold boundAndCalled
  rw [PySem.F.excAttr_ValueError.ga.bind (.ref x)]
  refine wpAny_bind (wpAny_pure ?_)
  show wpAny _ _ (call (.builtin "BaseException.__getattribute__") [.ref x, .str "__class__" t]) _ _ _
  refine wpAny_call (codeAny_call_builtin PySem.F.excAttr_ValueError.ga.plain PySem.F.entry_bexc_ga ?_)
  refine @check_slot (model prog w) _ _ ⟨hp, g, d, t + 1, os⟩ "BaseException.__getattribute__" "BaseException" "__getattribute__" (.ref x) [.str "__class__" t] [] _ (by decide +kernel) (by decide +kernel) sub (PySem.F.args_bexc_ga (.ref x) (.str "__class__" t)) ?_
  unfold Builtin.«object.__getattribute__»
  refine wpAny_bind (wpAny_of_eq (a := ((Value.ref x : Value), [Value.str "__class__" t])) (by first | rfl | (simp only [slotArgs]; rfl)) ?_)
  refine wpAny_bind (wpAny_pure (wpAny_bind (L0.at (wpAny_bind (L3.at ?_)))))
  show wpAny _ _ (holding [Value.builtin "object.__class__"] (call (.builtin "getset_descriptor.__get__") [.builtin "object.__class__", .ref x, .ref D]) >>= ret) _ _ _
  refine wpAny_bind (wpAny_holding (wpAny_call (class_get (s := ⟨hp, g, d, t + 1, os⟩) (ox := ox) (od := od) X I hm ?_)))
  refine wpAny_pure ?_
  show wpAny _ _ (handedOut (.ref D)) _ _ _
  rw [handedOut_of (v := .ref D) rfl]
  first
    | exact wpAny_pure (wpAny_pure h)
    | exact wpAny_pure h
    | exact wpAny_pure (wpAny_bind (wpAny_pure (wpAny_pure h)))
theorem kitx_excA (hga : findIn K (.ref D) "__getattribute__" = some (some (.builtin "BaseException.__getattribute__"))) (hgt : findIn K (.ref D) "__getattr__" = some none) (hsub : subIn K (.ref D) (.type "BaseException") = some true) (hdct : hasDictIn K D = true) (ha : findIn K (.ref D) "__class__" = some (some (.builtin "object.__class__")))
    (hn : specialIn K (.builtin "object.__class__") "__get__" = some (some (.builtin "getset_descriptor.__get__"))) (htk : takesIn K (.builtin "object.__class__") = some true) (hm : mroIn K D (.type "object") = some true) :
    KitX K (.ref x) (.ref D) (fun h => ∃ od, InstAt h x ox D od) where
  ty := fun _ _ _ ⟨_, I⟩ => I.type
  it := fun _ _ X _ => by
    obtain ⟨cdD, hcD, _⟩ := any_some hdct
    unfold clsIn at hcD
    split at hcD
    · rename_i c' d' cd' sl' ho
      intro A' Q' E' s' k q
      unfold isType loadHead
      exact wpAny_bind (wpAny_loadPart (k _ _ (X _ _ ho)) (wpAny_pure q))
    · cases hcD
  ne := fun h tp dd its n sl X htp => by
    obtain ⟨cdD, hcD, _⟩ := any_some hdct
    refine Bool.eq_false_iff.mpr fun q => ?_
    have e : D = tp := Value.ref.inj (beq_iff_eq.mp q)
    subst e
    unfold clsIn at hcD
    split at hcD
    · rename_i c' d' cd' sl' ho
      have z := (X _ _ ho).symm.trans htp
      cases z
    · cases hcD
  ca := fun X ⟨_, I⟩ k => kin_classA hga hgt hsub hdct ha hn htk hm X I k
end
end PySem.W
namespace TL
open PySem PySem.Spec PyProof.Rows L2
/-- isinstance(e, c), e the error that the suite holds: its class at D, its dict d -/
def rIsA (K : PySem.W.Frag) (cls : Value) (d : Option Addr) (D a : Addr) : List V → Hp → VK → Prop := fun xs H Q => ∃ (c : V) (cv : Value) (b : Bool) (dd : Addr) (fs : List (Str × V)), xs = [.ref a, c] ∧ (∀ u, RelV c u → u = cv) ∧ cls = .ref D ∧ d = some dd ∧ H dd = some (.xd fs) ∧ PySem.W.kitOne K (.ref D) cv = some b ∧ Q (.bl b) H
theorem call_isA {X : Cx} {a D : Addr} {oe : Obj} {cls : Value} {d : Option Addr} {pn : List (Addr × Obj)} (C : ExcC X.K D) (hz : Zc cls d oe) (hf : ∃ vs, oe.data = .fields vs) : CallR (X.suite a ((a, oe) :: pn)) (.builtin "isinstance") (rIsA X.K cls d D a) := by
  intro pins s σ H xs us Q I r h
  obtain ⟨c, cv, b, dd, fs, rfl, hcv, ec, ed, ea, e, q⟩ := h
  subst ec
  subst ed
  cases r with
  | cons rx rr =>
    cases rr with
    | cons rt rr =>
      cases rr
      cases rx
      have ec := hcv _ rt
      subst ec
      obtain ⟨hget, _⟩ := I.pin (a, oe) (List.mem_append.mpr (.inl List.mem_cons_self))
      obtain ⟨vs, hv⟩ := hf
      have J : ∃ od, PySem.W.InstAt s.heap a oe D od := by
        have hx : ObjOk X.prog X.w H s.heap dd (.xd fs) := I.hok dd _ ea
        obtain ⟨mA, hns, hr⟩ := hx
        obtain ⟨od, ho, hl⟩ := lookIn_ns hns
        exact ⟨some od, hget, hz.1, by unfold PySem.W.notCls; rw [hv] <;> rfl, by rw [hz.2]; exact ho⟩
      exact PySem.W.kia_one (PySem.W.kitx_excA C.hg C.hk C.hs C.hd C.ha C.hn C.ht C.hm) I.kIn J e (fun z => nomatch z) fun tk => ⟨.bl b, H, I.kept (t' := tk) fun _ _ z => z, rfl, q⟩
/-! ### xs[a:b] = ys, ys another list -/
/-- the target's reading -/
def gSl (to : TE) (tl th : TO) : TG := fun v σ H Q => to σ H fun x H1 => tl σ H1 fun l H2 => th σ H2 fun u H3 => ∃ (p b : Addr) (xs ys : List V) (i j : Nat), x = .ref p ∧ v = .ref b ∧ l = some (i : Int) ∧ u = some (j : Int) ∧ H3 p = some (.lst xs) ∧ H3 b = some (.lst ys) ∧ p ≠ b ∧ i ≤ j ∧ j ≤ xs.length ∧ xs.length + ys.length ≤ sizeLine ∧
  Q σ (upd H3 p (.lst (xs.take i ++ ys ++ xs.drop j)))
theorem pg_slice {X : Cx} {o : Expr} {lo hi : Option Expr} {to : TE} {tl th : TO} {pos p2 : Pos} (ho : PE X o to) (hl : PO X lo tl) (hu : PO X hi th)
    (ha : ∀ v, assign (.Subscript o (.Slice lo hi none p2) pos) X.env v = (do
      let ov ← holding [v] (eval o X.env)
      let iv ← holding [v, ov] (eval (.Slice lo hi none p2) X.env)
      standAt pos
      holding [v, ov, iv] (setItem ov iv v)
      release [iv, v, ov] []) := by intro _; rfl) : PG X (.Subscript o (.Slice lo hi none p2) pos) (gSl to tl th) := by
  refine ⟨fun pins s σ H v u Q I r h => ?_⟩
  rw [ha]
  refine wpAny_bind (wpAny_holding (thn (ho.run pins s σ H _ I h) fun ov s1 ⟨x, H1, I1, r1, q1⟩ => ?_))
  refine wpAny_bind (wpAny_holding ?_)
  refine wpAny_Slice (thn (hl.run pins s1 σ H1 _ I1 q1) fun vl s2 ⟨l, H2, I2, pl, q2⟩ => thn (hu.run pins s2 σ H2 _ I2 q2) fun vu s3 ⟨uu, H3, I3, pu, q3⟩ => ?_)
  rw [evalPart_none]
  refine wpAny_pure ?_
  have I4 : Inv X pins σ H3 { s3 with heap := s3.heap.push { cls := .type "slice", data := .fields #[vl, vu, .none] } } := I3.kept (t' := s3.toks) fun b ob q => Heap.get?_push_of_some _ q
  refine wpAny_bind (wpAny_standAt (wpAny_bind (wpAny_holding ?_)))
  obtain ⟨p, b, xs, ys, i, j, rfl, rfl, rfl, rfl, hp, hb, hne, hij, hj, hz, q⟩ := q3
  cases r1
  cases r
  cases pl with
  | int _ t1 =>
    cases pu with
    | int _ t2 =>
      refine set_slice I4 hp hb hne (Heap.IsSliceOf.new ..) ⟨t1, rfl⟩ ⟨t2, rfl⟩ (by omega) (by omega) (by omega) hz fun s' I5 => ?_
      exact wpAny_release ⟨σ, _, I5, q⟩
/-! ### an error that tells nothing but its code -/
def spCode (K : PySem.W.Frag) (C : Addr) (code : String) : Sp := fun vs H Q _ => ∃ (a : Addr), vs = [.ref a] ∧ H a = some (exo a C none) ∧ ∀ dx, H dx = none → dx ≠ a → Q .non (upd (upd H dx (exd dx [(Str.ofString "code", .str (Str.ofString code))])) a (exo a C (some dx)))
theorem raise_code {K : PySem.W.Frag} {C : Addr} {code : String} {σ : L2.St} {H : Hp} {Q : XK} (q : ∀ d H', Same H H' → H d = none → H' d = some (.xd [(Str.ofString "code", .str (Str.ofString code))]) → Q (.ref C) (some d) H') : tMkO C (spCode K C code) [] tNil σ H Q := by
  refine ⟨Nat.zero_le _, fun a ha => ⟨a, rfl, upd_same, fun dx hn hne => ⟨rfl, dx, _, upd_same, by rw [upd_ne hne]; exact upd_same, by rw [upd_ne hne] at hn; exact hn, ?_⟩⟩⟩
  rw [upd_ne hne] at hn
  refine q dx _ (fun c o h => ?_) hn upd_same
  have h1 : c ≠ a := ne_of_none h ha
  have h2 : c ≠ dx := ne_of_none h hn
  rw [upd_ne h2, del_ne h1, upd_ne h1, upd_ne h2, upd_ne h1]
  exact h
end TL
namespace PySem
open PyProof.Rows
section
variable {prog : Program} {w : World} {A : Around} {E : Value → Shared → Prop} {s : Shared}
/-! ### list(reversed(range(..))) -/
theorem call_hint_ri {I : Addr} {x left step : Int} {Q : Value → Shared → Prop} (hit : IsRangeIter s.heap I x left step) (h : ∀ u tk, s.toks ≤ tk → Q (.int left u) { s with toks := tk }) : wpAny (model prog w) A (call (.builtin "range_iterator.__length_hint__") [.ref I]) Q E s := by
  have hT : s.TypeIs (.ref I) "range_iterator" := ⟨_, hit, rfl⟩
  refine wpAny_call_entry F.slot_range_iterator_length_hint hT F.entry_range_iterator_length_hint ?_ (F.args_range_iterator_length_hint_1 _)
  unfold Builtin.«range_iterator.__length_hint__»
  refine wpAny_bind (wpAny_of_eq (a := Value.ref I) rfl ?_)
  refine wpAny_bind (wpAny_field hit rfl (x := rawInt left) (by simp) ?_)
  dsimp only [rawInt]
  unfold retInt mkInt
  wp_walk
  exact ⟨_, rfl, h _ _ (by simp)⟩
/-- list.__init__ of a range's iterator -/
theorem wpAny_extend_ri {R : Result → Shared → Prop} {I : Addr} {a c : Int} {n : Nat} (hh : A.handled = none) (hst : IsRangeIter s.heap I a n c) (hn : n ≤ 2 ^ 24) (S : Addr) (res : Value) (c₀ : Nat) (hSI : S ≠ I)
    (hS : s.heap.get? S = some { cls := .type "list", data := .seq #[] c₀ })
    (hR : ∀ h' tk acc' c', (∀ b o, b ≠ S → b ≠ I → s.heap.get? b = some o → h'.get? b = some o) → h'.get? S = some { cls := .type "list", dict := none, data := .seq acc' c', slots := #[] } →
      ItemsOf (fun i v => ∃ t, v = .int (a + i * c) t) acc' n → R (.ok (.ret res)) { s with heap := h', toks := tk }) :
    wpAny (model prog w) A.in1 (Builtin.List.listExtendWith (.ref S) (.ref I) res)
      (fun fin s' => match fin with | .done f => R (.ok f) s' | .again c' => c'.quiet = true ∧ codeAny (model prog w) A c' R s') (fun e s' => R (.error e) s') s := by
  have hSf : S ∉ [I] := fun h => hSI (List.mem_singleton.mp h)
  have hT : s.TypeIs (.ref I) "range_iterator" := ⟨_, hst, rfl⟩
  have st0 : IsRangeIter s.heap I (a + ((0 : Nat) : Int) * c) ((n : Int) - ((0 : Nat) : Int)) c := by simpa using hst
  have W := (Walks.range (prog := prog) (w := w) (A := A.in1) hh I a c n).toS
  have h1 : Builtin.List.listSameRef (.ref S) (.ref I) = false := by simp [Builtin.List.listSameRef, hSI]
  unfold Builtin.List.listExtendWith
  refine wpAny_bind (wpAny_typeOf hT ?_)
  rw [if_neg (by rw [h1]; decide)]
  refine wpAny_bind (wpAny_pyIter_rangeiter hst ?_)
  refine wpAny_bind (wpAny_holding ?_)
  unfold Builtin.List.listLengthHint
  refine wpAny_bind (wpAny_specialOf hT F.nolen_ra ?_)
  show wpAny _ A.in1 (specialOf (Value.ref I) (Str.ofString "__length_hint__") >>= _) _ _ _
  refine wpAny_bind (wpAny_specialOf hT F.hint_ra ?_)
  (generalize hid : ("range_iterator.__length_hint__" : String) = id0; (fail_if_success (clear hid id0)); wp_delta; rw [show splitId id0 = some ("range_iterator", "__length_hint__") from by subst hid; decide +kernel]; subst hid)
  refine wpAny_bind (wpAny_isInstance (b := true) hT (by rw [isSubtype_type]; kernel_rfl) ?_)
  show wpAny _ A.in1 (call (.builtin "range_iterator.__length_hint__") [.ref I] >>= _) _ _ _
  refine wpAny_bind (call_hint_ri hst fun u tk htk => ?_)
  refine wpAny_bind (m := asInt? (.int n u)) (wpAny_pure ?_)
  dsimp only
  have hk : Builtin.List.listTooLong (Int.toNat (n : Int)) = false := by
    unfold Builtin.List.listTooLong
    rw [Int.toNat_natCast]
    exact decide_eq_false (by rw [sizeLine_eq]; omega)
  rw [if_neg (by rw [hk]; decide)]
  refine wpAny_pure ?_
  rw [if_neg (by decide)]
  refine wpAny_pure ⟨plainId_quiet F.plain_extend_loop _, codeAny_extend_loopS W (by rw [sizeLine_eq]; omega) S hSf res n 0 _ #[] c₀ rfl (Nat.zero_le _) st0 hS (ItemsOf.nil _) fun s' acc' c' hm hS' hacc => ?_⟩
  rw [Moved.eq_with hm]
  refine hR s'.heap s'.toks acc' c' (fun b o hb hb2 e => hm.heap b o (fun hmem => ?_) e) hS' hacc
  rcases List.mem_cons.mp hmem with e' | hmem
  · exact hb e'
  · exact hb2 (List.mem_singleton.mp hmem)
theorem call_list_ri {Q : Value → Shared → Prop} {I : Addr} {a c : Int} {n : Nat} (hh : A.handled = none) (hst : IsRangeIter s.heap I a n c) (hn : n ≤ 2 ^ 24)
    (hQ : ∀ h' tk acc' c', (∀ b o, b ≠ I → s.heap.get? b = some o → h'.get? b = some o) →
      h'.get? s.heap.objs.size = some { cls := .type "list", dict := none, data := .seq acc' c', slots := #[] } → ItemsOf (fun i v => ∃ t, v = .int (a + i * c) t) acc' n → Q (.ref s.heap.objs.size) { s with heap := h', toks := tk }) :
    wpAny (model prog w) A (call (.type "list") [.ref I]) Q E s := by
  refine callType_codes (Q₁ := fun obj s₁ => obj = .ref s.heap.objs.size ∧ s₁ = { s with heap := s.heap.push { cls := .type "list", data := .seq #[] } }) F.called_list (F.typeCall_list_1 _) F.entry_list_init
    (code_list_new _ ⟨rfl, rfl⟩) fun obj s₁ h₁ => ?_
  obtain ⟨rfl, rfl⟩ := h₁
  have hS : (s.heap.push { cls := .type "list", data := .seq #[] }).get? s.heap.objs.size = some { cls := .type "list", data := .seq #[] } := Heap.get?_push_size _ rfl
  have hSI : s.heap.objs.size ≠ I := Nat.ne_of_gt (Heap.lt_size hst)
  refine ⟨⟨_, hS, rfl⟩, F.args_list_init_2 _ _, ?_⟩
  show wpAny _ _ (do let old ← Builtin.List.listItems (.ref s.heap.objs.size); Builtin.List.listUpdate (.ref s.heap.objs.size) (fun _ => #[]); letGo old.toList.reverse; Builtin.List.listExtendWith (.ref s.heap.objs.size) (.ref I) .none) _ _ _
  refine wpAny_bind ?_
  unfold Builtin.List.listItems
  refine wpAny_bind (wpAny_seqItems hS rfl (wpAny_pure ?_))
  show wpAny _ _ (updateSeq s.heap.objs.size (fun _ => #[]) >>= fun _ => letGo (#[] : Array Value).toList.reverse >>= fun _ => Builtin.List.listExtendWith (.ref s.heap.objs.size) (.ref I) .none) _ _ _
  refine wpAny_bind (wpAny_updateSeq hS rfl ?_)
  have hS₂ := Heap.get?_update_self (Obj.mapSeq (fun _ => (#[] : Array Value))) hS rfl
  refine wpAny_bind (wpAny_letGo ?_)
  have hst2 : IsRangeIter ((s.heap.push { cls := .type "list", data := .seq #[] }).update s.heap.objs.size (Obj.mapSeq (fun _ => (#[] : Array Value)))) I a n c := (Heap.get?_update_other _ _ hSI).trans (Heap.get?_push_of_some _ hst)
  refine wpAny_extend_ri (prog := prog) (w := w) (A := A.in1) (R := wants (fun r s₂ => r = Value.none ∧ Q (Value.ref s.heap.objs.size) s₂) E) (s := { s with heap := (s.heap.push { cls := .type "list", data := .seq #[] }).update s.heap.objs.size (Obj.mapSeq (fun _ => (#[] : Array Value))) }) hh hst2 hn s.heap.objs.size .none _ hSI hS₂ fun h' tk acc' c' hk hS' hacc => ?_
  refine ⟨rfl, hQ h' tk acc' c' (fun b o hb e => hk b o (Nat.ne_of_lt (Heap.lt_size e)) hb ((Heap.get?_update_other _ _ (Nat.ne_of_gt (Heap.lt_size e))).trans (Heap.get?_push_of_some _ e))) hS' hacc⟩
end
end PySem
namespace PyProof.Rows
open PySem
section
variable {prog : Program} {w : World} {A : Around} {E : Value → Shared → Prop} {s : Shared}
/-! ### sorted of a tuple -/
theorem collect_tup {l : Addr} {vs : List Value} {Q : List Value → Shared → Prop} (hl : s.heap.IsTuple l vs.toArray)
    (h : Q vs { s with heap := (s.heap.push (seqObj "list" #[] 0)).update s.heap.objs.size (Obj.mapSeq (· ++ vs.toArray)) }) (hsz : vs.length ≤ sizeLine) :
    wpAny (model prog w) A (collect (.ref l)) Q E s := by
  obtain ⟨o, ho, hc, n, hd⟩ := id hl
  unfold collect
  refine wpAny_bind (wpAny_runValue (codeAny_builtin entry_proto_collect' ?_))
  show wpAny _ _ (do again (.builtin "list.__iadd__" ⟨[← newList [], .ref l], []⟩)) _ _ s
  refine wpAny_bind (wpAny_newList (wpAny_pure ⟨Code.quiet_builtin _ (by decide +kernel), codeAny_builtin entry_list_iadd' ?_⟩))
  show wpAny _ _ (Builtin.List.listExtendWith (.ref s.heap.objs.size) (.ref l) (.ref s.heap.objs.size)) _ _ { s with heap := s.heap.push (seqObj "list" #[] 0) }
  unfold Builtin.List.listExtendWith
  have ho' : (s.heap.push (seqObj "list" #[] 0)).get? l = some o := Heap.get?_push_of_some _ ho
  refine wpAny_bind (wpAny_typeOf (T := "tuple") ⟨o, ho', hc⟩ ?_)
  have ht : (Value.type "tuple" == Value.type "tuple") = true := by rfl
  rw [if_pos (by rw [ht]; simp)]
  refine wpAny_bind (listItems_at ho' hd ?_)
  refine wpAny_bind (listItems_at (xs := #[]) (n := 0) (Heap.get?_push_size _ rfl) rfl ?_)
  rw [if_neg (by simp)]
  refine wpAny_bind (listUpdate_at (xs := #[]) (n := 0) (Heap.get?_push_size _ rfl) rfl ?_ (Nat.zero_le _) (by show (#[] ++ vs.toArray).size ≤ sizeLine + 1; simp only [Array.size_append, List.size_toArray, List.length_nil]; omega))
  refine wpAny_pure ?_
  show wpAny (model prog w) A (do
      let o ← load s.heap.objs.size
      match o.data with
      | .seq xs _ => pure xs.toList
      | _ => unsupported "internal:collect") Q E { s with heap := (s.heap.push (seqObj "list" #[] 0)).update s.heap.objs.size (Obj.mapSeq (· ++ vs.toArray)) }
  refine wpAny_bind (wpAny_load (get?_update_seq (Heap.get?_push_size _ rfl) _) ?_)
  show wpAny _ _ (pure ((#[] : Array Value) ++ vs.toArray).toList) Q E _
  rw [show ((#[] : Array Value) ++ vs.toArray).toList = vs by simp]
  exact wpAny_pure h
theorem sorted_tup {l : Addr} {vs : List Value} {ns : List Int} {Q : Value → Shared → Prop} (hl : s.heap.IsTuple l vs.toArray) (hI : IntsAre vs ns) (h64 : vs.length < 64)
    (h : ∀ (out : Array Value) (ns' : List Int), IntsAre out.toList ns' → ns'.Perm ns → ns'.Pairwise (· ≤ ·) → Q (.ref (s.heap.objs.size + 1)) { s with heap := sortedAll s.heap vs out }) :
    wpAny (model prog w) A (call (.builtin "sorted") [.ref l]) Q E s := by
  refine Calls.call_function_entry kind_sorted plain_sorted entry_sorted (args_sorted1 _) ?_
  unfold Builtin.«sorted»
  refine wpAny_bind (m := checkCount "sorted" 1 1 _) (wpAny_pure ?_)
  refine wpAny_bind (collect_tup hl ?_ (by rw [sizeLine_eq]; omega))
  refine wpAny_bind (wpAny_newList ?_)
  have hsz : ((s.heap.push (seqObj "list" #[] 0)).update s.heap.objs.size (Obj.mapSeq (· ++ vs.toArray))).objs.size = s.heap.objs.size + 1 := by
    rw [Heap.size_update, size_push']
  have hoL : (((s.heap.push (seqObj "list" #[] 0)).update s.heap.objs.size (Obj.mapSeq (· ++ vs.toArray))).push (seqObj "list" vs.toArray 0)).get? (s.heap.objs.size + 1) = some (seqObj "list" vs.toArray 0) := by
    rw [← hsz]; exact Heap.get?_push_size _ rfl
  show wpAny _ _ _ _ _ { s with heap := ((s.heap.push (seqObj "list" #[] 0)).update s.heap.objs.size (Obj.mapSeq (· ++ vs.toArray))).push (seqObj "list" vs.toArray 0) }
  rw [hsz]
  refine wpAny_bind (wpAny_holding (wpAny_call_entry slot_list_sort ⟨_, hoL, rfl⟩ entry_list_sort (list_sort_tree hoL hI h64 fun out ns' a1 a2 a3 => ⟨_, rfl, ?_⟩) (args_list_sort _)))
  exact wpAny_pure ⟨_, rfl, h out ns' a1 a2 a3⟩
end
end PyProof.Rows
namespace TL
open PySem PySem.Spec PyProof.Rows L2
/-- list(reversed(range(a, b))) -/
def rvV (a b : Int) : List V := (List.range (b - a).toNat).map fun i => V.int (a + (((b - a).toNat : Nat) : Int) - 1 + (i : Nat) * (-1))
def tLstRv (te : L2.St → Hp → (Int → Int → Hp → Prop) → Prop) : TE := fun σ H Q => te σ H fun a b H1 => RgOk a b ∧ ∀ q, H1 q = none → Q (.ref q) (upd H1 q (.lst (rvV a b)))
theorem vals_rv {a c : Int} {n : Nat} {acc : Array Value} (h : ItemsOf (fun i v => ∃ t, v = .int (a + i * c) t) acc n) : Vals ((List.range n).map fun i => V.int (a + (i : Nat) * c)) acc.toList := by
  have e : acc.toList.length = n := by rw [Array.length_toList]; exact h.1
  rw [← e]
  refine vals_of_get acc.toList _ fun j u hj => ?_
  obtain ⟨t, rfl⟩ := h.2 j u (by rw [← hj, Array.getElem?_toList])
  exact ⟨t, rfl⟩
theorem pe_listRv {X : Cx} {e : Expr} {te : L2.St → Hp → (Int → Int → Hp → Prop) → Prop} {p p2 pos pos2 : Pos} (hc : X.calm = true) (hg : Gl X "list") (hm : X.mg "list" = none) (hg2 : Gl X "reversed") (hm2 : X.mg "reversed" = none) (he : PRg X e te)
    (na : starEach [.Call (.Name "reversed" p2) [e] [] pos2] X.env = (false, eval (.Call (.Name "reversed" p2) [e] [] pos2) X.env) :: starEach [] X.env := by rfl) (nb : starEach [e] X.env = (false, eval e X.env) :: starEach [] X.env := by rfl) :
    PE X (.Call (.Name "list" p) [.Call (.Name "reversed" p2) [e] [] pos2] [] pos) (tLstRv te) := by
  refine ⟨fun pins s σ H Q I h => ?_⟩
  refine Call_ (ld_blt I hg hm boot_list (PyProof.Rows.callWith_type1 (args_cons ?_ na) na))
  refine Call_ (ld_blt I hg2 hm2 PyProof.Rows.boot_reversed (PyProof.Rows.callWith_type1 (args_cons (thn (he pins s σ H _ I h) fun x s1 ⟨r, a, b, t, u, v, H1, ex, hr, I1, ok, q⟩ => args_nil ?_) nb) nb rfl))
  subst ex
  obtain ⟨b1, b2, b3, b4, b5⟩ := ok
  have hn : Builtin.Range.rangeSize a b 1 = (((b - a).toNat : Nat) : Int) := rangeSize_nat a b
  refine call_reversed_range hr (smallRev_one b1 b2 b3 b4) (args_nil ?_)
  have hst : IsRangeIter (s1.heap.push (rngRevObj a b 1)) s1.heap.objs.size (a + (((b - a).toNat : Nat) : Int) - 1) (((b - a).toNat : Nat) : Int) (-1) := by
    have e1 : a + (((b - a).toNat : Nat) : Int) - 1 = a + (Builtin.Range.rangeSize a b 1 - 1) * 1 := by rw [hn]; omega
    rw [e1, ← hn]
    exact Heap.get?_push_size _ rfl
  have I2 : Inv X pins σ H1 { s1 with heap := s1.heap.push (rngRevObj a b 1) } := I1.kept (t' := s1.toks) fun b ob q => Heap.get?_push_of_some _ q
  refine call_list_ri (s := { s1 with heap := s1.heap.push (rngRevObj a b 1) }) (n := (b - a).toNat) (I1.ok.hd hc) hst b5 fun h' tk acc c' hk e' hi => ?_
  have hsz : (s1.heap.push (rngRevObj a b 1)).objs.size = s1.heap.objs.size + 1 := by simp [Heap.push]
  refine ⟨.ref (s1.heap.push (rngRevObj a b 1)).objs.size, upd H1 (s1.heap.push (rngRevObj a b 1)).objs.size (.lst (rvV a b)), ?_, rfl, q _ (I1.hok.fresh (by rw [hsz]; exact Nat.le_succ _))⟩
  refine I1.laid (t' := tk) (fun c o z => hk c o (Nat.ne_of_lt (Heap.lt_size z)) (Heap.get?_push_of_some _ z)) (by rw [hsz]; exact Nat.le_succ _) (show ObjOk X.prog X.w _ _ _ (.lst (rvV a b)) from ⟨?_, acc.toList, c', vals_rv hi, ?_⟩)
  · unfold rvV
    rw [List.length_map, List.length_range, sizeLine_eq]
    omega
  · rw [Array.toArray_toList]
    exact e'
/-- sorted(xs), a list or a tuple of ints -/
def rSortQ (K : PySem.W.Frag) : List V → Hp → VK → Prop := fun vs H Q => ∃ (a : Addr) (ns : List Int), vs = [V.ref a] ∧ (SqL K H a (ns.map V.int) ∨ SqT K H a (ns.map V.int)) ∧ ns.length < 64 ∧
  ∀ (ns' : List Int) (p : Addr), ns'.Perm ns → ns'.Pairwise (· ≤ ·) → H p = none → Q (.ref p) (upd H p (.lst (ns'.map V.int)))
theorem cr_sortQ {X : Cx} : CallR X (.builtin "sorted") (rSortQ X.K) := by
  intro pins s σ H vs us Q I r h
  obtain ⟨a, ns, rfl, hs, h64, q⟩ := h
  rcases hs with hs | hs
  · exact cr_sorted pins s σ H _ us Q I r ⟨a, ns, rfl, hs, h64, q⟩
  obtain ⟨its, rv, hl, _⟩ := I.tuple hs
  rw [Vals.ref1 r]
  have hi := rv.ints
  refine PyProof.Rows.sorted_tup hl hi (by rw [hi.length]; exact h64) fun out ns' h1 h2 h3 => ?_
  obtain ⟨ep, he'⟩ := PyProof.Rows.sortedAll_at s.heap its out
  have hlen : (ns'.map V.int).length ≤ sizeLine := by rw [List.length_map, h2.length_eq]; exact small64 h64
  exact ⟨.ref _, upd H (s.heap.objs.size + 1) (.lst (ns'.map V.int)), I.laid (t' := s.toks) (fun _ _ => PyProof.Rows.sortedAll_old) (Nat.le_succ _) ⟨hlen, out.toList, ep, vals_of_ints h1, he'⟩, rfl, q ns' _ h2 h3 (I.hok.fresh (Nat.le_succ _))⟩
end TL
namespace TL
open PySem PySem.Spec PyProof.Rows L2
section
variable {X : Cx} {pins : List (Addr × Obj)} {σ : L2.St} {H : Hp} {s : Shared} {a b C dx dy f : Addr} {fs gs : List (Str × V)} {k : Nat} {fd : FuncData} {ps : List Str} {sp : Sp} {CX : CXT} {E : XK}
/-- x in y, y an instance with its own __contains__ that answers by a truth -/
def rInOw (C : Addr) (sp : Sp) (E : XK) : R2 := fun x y H Q => ∃ a dx fs, y = .ref a ∧ H a = some (.ins C dx fs) ∧ sp [y, x] H (fun v H' => ∃ b, v = .bl b ∧ Q v H') E
theorem op_inOw (at_ : PySem.W.findIn X.K (.ref C) "__contains__" = some (some (.ref f))) (fn : PySem.W.isFn X.K (.ref f) = true) (F : FnOk X.prog X.w X.K X.mg X.base CX k f fd ps sp) (hr : Room k X.A) (hb : Binds X.K fd ps []) (hx : Passes CX X E) :
    OpR X (compareOp .In) (rInOw C sp E) := by
  intro pins s σ H x y v u Q I rx ry h
  obtain ⟨a, dx, fs, rfl, ha, q⟩ := h
  cases (show u = Value.ref a from ry)
  obtain ⟨od, J⟩ := inst_at I ha
  obtain ⟨m, hF⟩ := I.fr
  refine PySem.W.in_K hF I.ok.mod.kin J at_ fn ?_
  refine wpAny_mono (run_fn (us := [.ref a, v]) (vs := [.ref a, x]) F hr hb .nil hx I (.cons rfl (.cons rx .nil)) q) (fun w s' z => ?_) fun _ _ x => x
  obtain ⟨z', H', I', rz, b, rfl, qz⟩ := z
  cases (show w = Value.bool b from rz)
  exact wpAny_truthy_bool ⟨.bl b, H', I', rfl, qz⟩
/-- len(x), x an instance with its own __len__ -/
def rLenOw (C : Addr) (sp : Sp) (E : XK) : List V → Hp → VK → Prop := fun vs H Q => ∃ a dx fs, vs = [.ref a] ∧ H a = some (.ins C dx fs) ∧ sp [.ref a] H (fun v H' => ∃ n : Int, v = .int n ∧ 0 ≤ n ∧ n < 2 ^ 63 ∧ Q v H') E
theorem call_lenOw (at_ : PySem.W.findIn X.K (.ref C) "__len__" = some (some (.ref f))) (fn : PySem.W.isFn X.K (.ref f) = true) (F : FnOk X.prog X.w X.K X.mg X.base CX k f fd ps sp) (hr : Room (k + 1) X.A) (hb : Binds X.K fd ps []) (hx : Passes CX X E) :
    CallR X (.builtin "len") (rLenOw C sp E) := by
  intro pins s σ H vs us Q I r h
  obtain ⟨a, dx, fs, rfl, ha, q⟩ := h
  obtain rfl := Vals.ref1 r
  obtain ⟨od, J⟩ := inst_at I ha
  obtain ⟨m, hF⟩ := I.fr
  refine PySem.W.len_K hF I.ok.mod.kin J at_ fn (wpAny_mono (run_at2 (us := [.ref a]) (ws := [.ref a]) F hr.in1 I.env0.in1 hb hx I (.cons rfl .nil) q) (fun w s' z => ?_) fun _ _ x => x)
  obtain ⟨z', H', I', rz, n, rfl, n0, n1, qz⟩ := z
  obtain ⟨t, rfl⟩ := (show ∃ t, w = Value.int n t from rz)
  exact ⟨⟨n0, n1⟩, .int n, H', I'.kept (t' := s'.toks + 1) (fun _ _ e => e), ⟨_, rfl⟩, qz⟩
end
/-! ### a call sees a part of the heap alone: the rest stays, and nothing of it comes into what is told -/
open Classical in
/-- the heap without the addresses of D -/
noncomputable def cutH (D : Addr → Prop) (H : Hp) : Hp := fun b => if D b then none else H b
open Classical in
/-- the heap H' with the objects of H at the addresses of D -/
noncomputable def joinH (D : Addr → Prop) (H H' : Hp) : Hp := fun b => if D b then H b else H' b
section
variable {D : Addr → Prop} {H H' : Hp} {b : Addr} {o : HO}
theorem cutH_in (h : D b) : cutH D H b = none := if_pos h
theorem cutH_out (h : ¬ D b) : cutH D H b = H b := if_neg h
theorem joinH_in (h : D b) : joinH D H H' b = H b := if_pos h
theorem joinH_out (h : ¬ D b) : joinH D H H' b = H' b := if_neg h
theorem cutH_some (h : cutH D H b = some o) : ¬ D b ∧ H b = some o := by
  by_cases d : D b
  · rw [cutH_in d] at h
    cases h
  · rw [cutH_out d] at h
    exact ⟨d, h⟩
theorem joinH_none (z : ∀ c, D c → H' c = none) (h : H' b = some o) : joinH D H H' b = some o := by
  rw [joinH_out (fun d => by rw [z b d] at h; cases h)]
  exact h
/-- D holds lists alone -/
def CutOk (D : Addr → Prop) (H : Hp) : Prop := ∀ b, D b → ∃ xs, H b = some (.lst xs)
theorem CutOk.no {D : Addr → Prop} {H : Hp} {b : Addr} {o : HO} (c : CutOk D H) (h : H b = some o) (n : ∀ xs, o ≠ .lst xs) : ¬ D b := fun d => by
  obtain ⟨xs, e⟩ := c b d
  rw [h] at e
  exact n xs (Option.some.inj e)
end
section
variable {P : Program} {w : World} {K : PySem.W.Frag} {mg : Str → Option Value} {base : Heap} {k : Nat} {f : Addr} {fd : FuncData} {ps : List Str} {sp : Sp} {D : Addr → Prop} {H : Hp} {A : Around} {outer : List Env} {s : Shared}
theorem CutOk.env (c : CutOk D H) (e : Env0 P w K mg base A outer s H) : Env0 P w K mg base A outer s (cutH D H) where
  frames := e.frames
  mod := e.mod
  bs := fun b o q => ⟨(e.bs b o q).1, by
    by_cases d : D b
    · exact cutH_in d
    · rw [cutH_out d]
      exact (e.bs b o q).2⟩
  bsz := e.bsz
  funs := e.funs
  frf := fun b hb => by
    by_cases d : D b
    · exact cutH_in d
    · rw [cutH_out d]
      exact e.frf b hb
  hok := fun a o q => by
    obtain ⟨n, q'⟩ := cutH_some q
    refine (e.hok a o q').stay (fun b u _ z => z) (fun b z => ?_) (fun b xs z => ?_)
    · rw [cutH_out (c.no z fun _ y => by cases y)]
      exact z
    · rw [cutH_out (c.no z fun _ y => by cases y)]
      exact z
  bare := e.bare
def spCut (sp : Sp) : Sp := fun vs H Q E => ∃ D : Addr → Prop, CutOk D H ∧ sp vs (cutH D H) (fun v H' => (∀ b, D b → H' b = none) → Q v (joinH D H H')) E
theorem _root_.L2.FnOk.frame (F : FnOk P w K mg base CX0 k f fd ps sp) : FnOk P w K mg base CX0 k f fd ps (spCut sp) := by
  refine ⟨fun vs H Q E h => ?_, fun A outer s H args us vs Q E hr e0 hb r h => ?_⟩
  · obtain ⟨D, _, h⟩ := h
    exact F.len _ _ _ _ h
  obtain ⟨D, c, h⟩ := h
  refine codeAny_mono (F.run A outer s (cutH D H) args us vs _ E hr (c.env e0) hb r h) fun r s' hq => ?_
  have hnone : ∀ b, H b = none → ¬ D b := fun b n d => by
    obtain ⟨o, e⟩ := c b d
    rw [n] at e
    cases e
  cases r with
  | error e => exact hq
  | ok fl =>
    cases fl with
    | next => exact hq
    | brk => exact hq
    | cont => exact hq
    | ret u =>
      obtain ⟨v, H', ho, hg, un, hok, rv, q⟩ := hq
      have dn : ∀ b, D b → H' b = none := fun b d => by
        obtain ⟨o, e⟩ := c b d
        obtain ⟨ob, hob⟩ := objOk_get (e0.hok b _ e)
        exact un.free b ob hob (cutH_in d) (fun z => by cases z)
      have nfr : ∀ b, D b → b ∉ frs outer := fun b d hb => hnone b (e0.frf b hb) d
      refine ⟨v, joinH D H H', ho, hg, ⟨fun b o q n hb hx => un.keep b o q (by rw [cutH_out (hnone b n)]; exact n) hb hx, fun b o q n hb hx => un.slot b o q (by rw [cutH_out (hnone b n)]; exact n) hb hx, fun b o q n hx => ?_, un.there, fun b xs e => ?_, fun b o u e => ?_, fun b t e => ?_⟩, fun a o e => ?_, rv, q dn⟩
      · rw [joinH_out (hnone b n)]
        exact un.free b o q (by rw [cutH_out (hnone b n)]; exact n) hx
      · have n : ¬ D b := c.no e fun _ y => by cases y
        rw [joinH_out n]
        exact un.tups b xs (by rw [cutH_out n]; exact e)
      · by_cases d : D b
        · rw [joinH_in d]
          exact e
        · rw [joinH_out d]
          exact un.frzs b o u (by rw [cutH_out d]; exact e)
      · by_cases d : D b
        · exact ⟨#[], by rw [joinH_in d, e, Array.append_empty]⟩
        · rw [joinH_out d]
          exact un.tbls b t (by rw [cutH_out d]; exact e)
      · by_cases d : D a
        · rw [joinH_in d] at e
          obtain ⟨xs, e2⟩ := c a d
          rw [e] at e2
          obtain rfl := Option.some.inj e2
          obtain ⟨z, its, n, r, q⟩ := e0.hok a _ e
          exact ⟨z, its, n, r, un.keep a _ q (cutH_in d) (nfr a d) (fun z => by cases z)⟩
        · rw [joinH_out d] at e
          refine (hok a o e).stay (fun b u _ z => z) (fun b z => joinH_none dn z) (fun b xs z => joinH_none dn z)
end
/-! ### a def f(a, .., *v) -/
def StarB (fd : FuncData) (ps : List Str) (pv : Str) : Prop := ∀ us rest : List Value, us.length = ps.length → bindArgs fd ⟨us ++ rest, []⟩ = (newTuple rest >>= fun t => pure (ps.zip us ++ [(pv, t)]))
def spStar (n : Nat) (sp : Sp) : Sp := fun vs H Q E => ∃ ws rest, vs = ws ++ rest ∧ ws.length = n ∧ rest.length ≤ sizeLine ∧ ∀ p, H p = Option.none → sp (ws ++ [V.ref p]) (upd H p (.tup rest)) Q E
theorem fun_star {P : Program} {w : World} {K : PySem.W.Frag} {mg : Str → Option Value} {base : Heap} {x qual : Str} {st : Stmt} {f : Addr} {fd : FuncData} {N ps : List Str} {pv : Str} {k : Nat} {sp : Sp} (F : Fun K x qual st f fd) (S : FnScope N (ps ++ [pv]) (defScope st)) (B : StarB fd ps pv)
    (hbody : ∀ (cdv : Value) (A : Around) (outer : List Env) (s : Shared) (H : Hp) (vs : List V) (Q : VK) (E : XK), Room k (A.deeper (envOfC qual (defScope st) s.heap.objs.size f cdv)) → sp vs H Q E →
      ∃ t, PSs (cxOf CX0 P w K mg base N qual (defScope st) f cdv A outer s H E).nox (defBody st) t ∧ t { nx := fun _ H' => Q .non H', rt := Q } (start N vs) H) : FnR P w K mg base CX0 (k + 1) f (spStar ps.length sp) := by
  obtain ⟨oc, od, kV, doc, pm, an, cdv, ct, osl, rfl, lk, hcd⟩ := F.ex
  refine StX.fn_star (pv := pv) lk hcd S StX.cxUp_none B fun A outer s H vs Q E hr hsp => ?_
  obtain ⟨t, h, q⟩ := hbody cdv A outer s H vs Q E hr hsp
  exact ⟨t, h.nox, q⟩
end TL
namespace PySem.F
theorem slot_comb_next : Slot "itertools.combinations" "__next__" "itertools.combinations.__next__" :=
  .of (owner := "itertools.combinations") (n := "__next__") (by rw [typeLookup_type, builtinLookup_eq_fast]; kernel_rfl) (by decide +kernel) (by decide +kernel) (by decide +kernel)
    (by first | exact .inl (by decide +kernel) | exact .inr (by decide +kernel)) (by rw [isSubtype_type]; kernel_rfl)
theorem slot_comb_iter : Slot "itertools.combinations" "__iter__" "itertools.combinations.__iter__" :=
  .of (owner := "itertools.combinations") (n := "__iter__") (by rw [typeLookup_type, builtinLookup_eq_fast]; kernel_rfl) (by decide +kernel) (by decide +kernel) (by decide +kernel)
    (by first | exact .inl (by decide +kernel) | exact .inr (by decide +kernel)) (by rw [isSubtype_type]; kernel_rfl)
theorem slot_comb_init : Slot "itertools.combinations" "__init__" "object.__init__" :=
  .of (owner := "object") (n := "__init__") (by rw [typeLookup_type, builtinLookup_eq_fast]; kernel_rfl) (by decide +kernel) (by decide +kernel) (by decide +kernel)
    (by first | exact .inl (by decide +kernel) | exact .inr (by decide +kernel)) (by rw [isSubtype_type]; kernel_rfl)
theorem entry_comb_next : entryFor table "itertools.combinations.__next__" = some Builtin.«itertools.combinations.__next__» := entryFor_of_tree (by kernel_rfl)
theorem entry_comb_new : entryFor table "itertools.combinations.__new__" = some Builtin.«itertools.combinations.__new__» := entryFor_of_tree (by kernel_rfl)
theorem owner_comb : Manifest.owners.lookup (String.ofList "itertools.combinations".toList.reverse.reverse) = some Manifest.sig_itertools_combinations := by kernel_rfl
theorem args_comb_next_1 (a : Value) : argsOk "itertools.combinations.__next__" ⟨[a], []⟩ := by
  unfold argsOk; rw [signature?_of (id := "itertools.combinations.__next__") (n := "__next__".toList.reverse) (o := "itertools.combinations".toList.reverse) (by kernel_rfl) owner_comb]; kernel_rfl
theorem entry_comb_iter : entryFor table "itertools.combinations.__iter__" = some Builtin.«dict_keyiterator.__iter__» :=
  entryFor_alias (id' := "dict_keyiterator.__iter__") (by kernel_rfl) rfl (by decide +kernel) (by kernel_rfl)
theorem args_comb_iter_1 (a : Value) : argsOk "itertools.combinations.__iter__" ⟨[a], []⟩ := by
  unfold argsOk; rw [signature?_of (id := "itertools.combinations.__iter__") (n := "__iter__".toList.reverse) (o := "itertools.combinations".toList.reverse) (by kernel_rfl) owner_comb]; kernel_rfl
theorem mro_comb : mroOf (.type "itertools.combinations") = pure [.type "itertools.combinations", .type "object"] := by rw [mroOf_type]; kernel_rfl
theorem lookup_comb_new : typeLookup (.type "itertools.combinations") "__new__" = pure (some (.builtin "itertools.combinations.__new__")) := by rw [typeLookup_type, builtinLookup_eq_fast]; kernel_rfl
theorem called_comb : TypeCalled "itertools.combinations" "itertools.combinations.__new__" "object.__init__" :=
  ⟨by decide +kernel, by decide +kernel, ⟨_, _, mro_comb⟩, madeBy_type mro_comb lookup_comb_new (by decide +kernel), by decide +kernel, by rw [isSubtype_type]; kernel_rfl, slot_comb_init⟩
theorem typeCall_comb_2 (a b : Value) : checkTypeCall "itertools.combinations" ⟨[a, b], []⟩ = pure () := by kernel_rfl
theorem newCall_comb_2 (a b : Value) : checkBuiltinCall "itertools.combinations.__new__" ⟨[.type "itertools.combinations", a, b], []⟩ = pure () := by kernel_rfl
theorem sub_comb : isSubtype (.type "itertools.combinations") (.type "itertools.combinations") = pure true := by rw [isSubtype_type]; kernel_rfl
end PySem.F
namespace TL
open PySem PySem.Spec PyProof.Rows L2 PySem.W
/-! ### itertools.combinations over a tuple of things -/
def vsC (p : Addr) (st : Int) (res : Value) (is : List Nat) : Array Value := ([.ref p, rawInt st, res] ++ is.map fun (i : Nat) => rawInt (i : Int)).toArray
abbrev IsComb (h : Heap) (e p : Addr) (st : Int) (res : Value) (is : List Nat) : Prop :=
  h.get? e = some { cls := .type "itertools.combinations", dict := none, data := .fields (vsC p st res is), slots := #[] }
theorem vsC_1 {p : Addr} {st k : Int} {res : Value} {is : List Nat} : (vsC p st res is).setIfInBounds 1 (rawInt k) = vsC p k res is := by
  unfold vsC
  rw [List.setIfInBounds_toArray]
  rfl
theorem vsC_2 {p : Addr} {st : Int} {res v : Value} {is : List Nat} : (vsC p st res is).setIfInBounds 2 v = vsC p st v is := by
  unfold vsC
  rw [List.setIfInBounds_toArray]
  rfl
theorem vsC_z {p : Addr} {st : Int} {res : Value} {is : List Nat} : (vsC p st res is).size = is.length + 3 := by
  unfold vsC
  simp
theorem numsC (is : List Nat) : (is.map fun (i : Nat) => rawInt (i : Int)).map (fun (v : Value) => match v with | .int n _ => n.toNat | _ => 0) = is := by
  rw [List.map_map]
  induction is with
  | nil => rfl
  | cons x xs ih => rw [List.map_cons, ih]; rfl
section
variable {prog : Program} {w : World} {A : Around} {E : Value → Shared → Prop} {s : Shared}
theorem wp_nums {e p : Addr} {st : Int} {res : Value} {is : List Nat} {Q : List Nat → Shared → Prop} (hI : IsComb s.heap e p st res is) (h : Q is s) : wpAny (model prog w) A (Builtin.Itertools.itNumbersFrom (.ref e) 3) Q E s := by
  unfold Builtin.Itertools.itNumbersFrom
  refine wpAny_bind (wpAny_load hI ?_)
  refine wpAny_pure ?_
  have e1 : (vsC p st res is).toList.drop 3 = is.map fun (i : Nat) => rawInt (i : Int) := rfl
  show Q (((vsC p st res is).toList.drop 3).map _) s
  rw [e1]
  exact Eq.mpr (congrArg (fun l => Q l s) (numsC is)) h
theorem wp_itint {e p : Addr} {st : Int} {res : Value} {is : List Nat} {Q : Int → Shared → Prop} (hI : IsComb s.heap e p st res is) (h : Q st s) : wpAny (model prog w) A (Builtin.Itertools.itIntField (.ref e) 1) Q E s := by
  unfold Builtin.Itertools.itIntField
  exact wpAny_bind (wpAny_field hI rfl (x := rawInt st) rfl (wpAny_pure h))
theorem wp_pool {p : Addr} {its : Array Value} {Q : Array Value → Shared → Prop} (hp : s.heap.IsTuple p its) (h : Q its s) : wpAny (model prog w) A (Builtin.Itertools.itPoolItems (.ref p)) Q E s := by
  obtain ⟨o, ho, _, n, hd⟩ := hp
  unfold Builtin.Itertools.itPoolItems
  exact wpAny_bind (wpAny_seqItems ho hd (wpAny_pure h))
def pickC (its : Array Value) (is : List Nat) : List Value := is.map fun i => its.getD i .none
theorem tup_keep {e p : Addr} {h h1 : Heap} {its : Array Value} {st : Int} {res : Value} {is : List Nat} (hp : h.IsTuple p its) (hI : IsComb h e p st res is) (sb : Heap.SameBut e h h1) : h1.IsTuple p its := by
  obtain ⟨o, ho, hc, hd⟩ := hp
  refine ⟨o, (sb.2 p fun z => ?_).trans ho, hc, hd⟩
  subst z
  obtain rfl : o = _ := Option.some.inj (ho.symm.trans hI)
  exact absurd (Value.type.inj hc) (by decide)
/-- the found tuple is remembered and handed out -/
theorem comb_tail {e p : Addr} {res : Value} {is : List Nat} {v : Value} {Q : Value → Shared → Prop} (hI : IsComb s.heap e p 1 res is)
    (hQ : ∀ h', IsComb h' e p 1 v is → Heap.SameBut e s.heap h' → Q v { s with heap := h' }) :
    wpAny (model prog w) A (field (.ref e) 2 >>= fun before => setField (.ref e) 2 v >>= fun _ => letGo [before] [v] >>= fun _ => ret v) (fun fin s' => ∃ v, fin = .done (.ret v) ∧ Q v s') E s := by
  refine wpAny_bind (wpAny_field hI rfl (x := res) rfl ?_)
  refine wpAny_bind (wpAny_setField_rec hI (by rw [vsC_z]; omega) fun h2 hI2 sb2 => ?_)
  rw [vsC_2] at hI2
  exact wpAny_bind (wpAny_letGo (wpAny_pure ⟨_, rfl, hQ h2 hI2 sb2⟩))
theorem comb_next0 {e p : Addr} {res : Value} {is : List Nat} {its : Array Value} {Q : Value → Shared → Prop} (hI : IsComb s.heap e p 0 res is) (hp : s.heap.IsTuple p its) (hz : is.length ≤ 1000)
    (hQ : ∀ h', IsComb h' e p 1 (.ref s.heap.objs.size) is → h'.get? s.heap.objs.size = some { cls := .type "tuple", data := .seq (pickC its is).toArray } →
      (∀ b o, b ≠ e → s.heap.get? b = some o → h'.get? b = some o) → Q (.ref s.heap.objs.size) { s with heap := h' }) :
    wpAny (model prog w) A (Builtin.«itertools.combinations.__next__» ⟨[.ref e], []⟩) (fun fin s' => ∃ v, fin = .done (.ret v) ∧ Q v s') E s := by
  obtain ⟨hp', g, d, tk, os⟩ := s
  have le : e < hp'.objs.size := Heap.lt_size hI
  show wpAny _ _ (field (.ref e) 0 >>= _) _ _ _
  refine wpAny_bind (wpAny_field hI rfl (x := .ref p) rfl ?_)
  refine wpAny_bind (wp_nums hI ?_)
  refine wpAny_bind (wp_itint hI ?_)
  show wpAny _ _ (setField (.ref e) 1 (rawInt 1) >>= _) _ _ _
  refine wpAny_bind (wpAny_setField_rec hI (by rw [vsC_z]; omega) fun h1 hI1 sb1 => ?_)
  rw [vsC_1] at hI1
  replace sb1 : Heap.SameBut e hp' h1 := sb1
  have hp1 : h1.IsTuple p its := tup_keep hp hI sb1
  refine wpAny_bind (wpAny_bind (wp_pool hp1 (wpAny_newTuple ?_ (by rw [List.length_map]; exact Nat.le_trans hz (by decide)))))
  have hz1 : h1.objs.size = hp'.objs.size := sb1.1
  have hI2 : IsComb (h1.push { cls := .type "tuple", data := .seq (pickC its is).toArray }) e p 1 res is := Heap.get?_push_of_some _ hI1
  refine comb_tail (s := ⟨h1.push { cls := .type "tuple", data := .seq (pickC its is).toArray }, g, d, tk, os⟩) hI2 fun h3 hI3 sb3 => ?_
  show Q (.ref h1.objs.size) ⟨h3, g, d, tk, os⟩
  rw [hz1]
  replace hI3 : IsComb h3 e p 1 (.ref h1.objs.size) is := hI3
  rw [hz1] at hI3
  refine hQ h3 hI3 ?_ ?_
  · have := Heap.get?_push_size h1 (o := { cls := .type "tuple", data := .seq (pickC its is).toArray }) rfl
    rw [hz1] at this
    exact (sb3.2 _ (Nat.ne_of_gt le)).trans this
  · exact fun b o hb ho => (sb3.2 b hb).trans (Heap.get?_push_of_some _ ((sb1.2 b hb).trans ho))
/-- the next choice of places, in order -/
def nxc (n : Nat) (is : List Nat) : Option (List Nat) :=
  match ((List.range is.length).reverse).find? (fun i => is.getD i 0 != i + n - is.length) with
  | none => none
  | some i => some (is.take i ++ ((List.range (is.length - i)).map fun k => is.getD i 0 + 1 + k))
theorem nxc_len {n : Nat} {is js : List Nat} (h : nxc n is = some js) : js.length = is.length := by
  unfold nxc at h
  split at h
  · cases h
  · rename_i i hi
    cases h
    have := List.mem_of_find?_eq_some hi
    rw [List.mem_reverse, List.mem_range] at this
    simp
    omega
theorem vsC_set {p : Addr} {st : Int} {res : Value} {is js : List Nat} : (vsC p st res is).extract 0 3 ++ (js.map fun (n : Nat) => rawInt (n : Int)).toArray = vsC p st res js := by
  unfold vsC
  apply Array.ext'
  simp
theorem comb_next1 {e p : Addr} {res : Value} {is js : List Nat} {its : Array Value} {Q : Value → Shared → Prop} (hI : IsComb s.heap e p 1 res is) (hp : s.heap.IsTuple p its) (hz : is.length ≤ 1000) (hn : nxc its.size is = some js)
    (hQ : ∀ h', IsComb h' e p 1 (.ref s.heap.objs.size) js → h'.get? s.heap.objs.size = some { cls := .type "tuple", data := .seq (pickC its js).toArray } →
      (∀ b o, b ≠ e → s.heap.get? b = some o → h'.get? b = some o) → Q (.ref s.heap.objs.size) { s with heap := h' }) :
    wpAny (model prog w) A (Builtin.«itertools.combinations.__next__» ⟨[.ref e], []⟩) (fun fin s' => ∃ v, fin = .done (.ret v) ∧ Q v s') E s := by
  obtain ⟨hp', g, d, tk, os⟩ := s
  have le : e < hp'.objs.size := Heap.lt_size hI
  have hlj := nxc_len hn
  show wpAny _ _ (field (.ref e) 0 >>= _) _ _ _
  refine wpAny_bind (wpAny_field hI rfl (x := .ref p) rfl ?_)
  refine wpAny_bind (wp_nums hI ?_)
  refine wpAny_bind (wp_itint hI ?_)
  show wpAny _ _ (Builtin.Itertools.itPoolItems (.ref p) >>= _) _ _ _
  refine wpAny_bind (wp_pool hp ?_)
  split
  · rename_i nx heq
    obtain rfl : nx = js := Option.some.inj (heq.symm.trans hn)
    unfold Builtin.Itertools.itSetNumbersFrom
    refine wpAny_bind (wpAny_updateFields hI rfl ?_ (by rw [vsC_set, vsC_z]; exact Nat.le_trans (Nat.add_le_add_right (Nat.le_trans (Nat.le_of_eq hlj) hz) 3) (by decide)))
    have hI1 : (hp'.update e (Obj.mapFields fun fs => fs.extract 0 3 ++ (nx.map fun (n : Nat) => rawInt (n : Int)).toArray)).get? e = some { cls := .type "itertools.combinations", dict := none, data := .fields (vsC p 1 res nx), slots := #[] } := by
      have := Heap.get?_update_self (Obj.mapFields fun fs => fs.extract 0 3 ++ (nx.map fun (n : Nat) => rawInt (n : Int)).toArray) hI (by rfl)
      refine this.trans (congrArg some ?_)
      show ({ cls := _, dict := _, data := .fields _, slots := _ } : Obj) = _
      dsimp only
      rw [vsC_set]
    have sb1 : Heap.SameBut e hp' (hp'.update e (Obj.mapFields fun fs => fs.extract 0 3 ++ (nx.map fun (n : Nat) => rawInt (n : Int)).toArray)) := Heap.SameBut.update ..
    generalize hp'.update e (Obj.mapFields fun fs => fs.extract 0 3 ++ (nx.map fun (n : Nat) => rawInt (n : Int)).toArray) = h1 at *
    have hp1 : h1.IsTuple p its := tup_keep hp hI sb1
    show wpAny _ _ (_ >>= _) _ _ ⟨h1, g, d, tk, os⟩
    refine wpAny_bind (wpAny_bind (wp_pool hp1 (wpAny_newTuple ?_ (by rw [List.length_map, hlj]; exact Nat.le_trans hz (by decide)))))
    have hz1 : h1.objs.size = hp'.objs.size := sb1.1
    have hI2 : IsComb (h1.push { cls := .type "tuple", data := .seq (pickC its nx).toArray }) e p 1 res nx := Heap.get?_push_of_some _ hI1
    refine comb_tail (s := ⟨h1.push { cls := .type "tuple", data := .seq (pickC its nx).toArray }, g, d, tk, os⟩) hI2 fun h3 hI3 sb3 => ?_
    show Q (.ref h1.objs.size) ⟨h3, g, d, tk, os⟩
    rw [hz1]
    replace hI3 : IsComb h3 e p 1 (.ref h1.objs.size) nx := hI3
    rw [hz1] at hI3
    refine hQ h3 hI3 ?_ ?_
    · have := Heap.get?_push_size h1 (o := { cls := .type "tuple", data := .seq (pickC its nx).toArray }) rfl
      rw [hz1] at this
      exact (sb3.2 _ (Nat.ne_of_gt le)).trans this
    · exact fun b o hb ho => (sb3.2 b hb).trans (Heap.get?_push_of_some _ ((sb1.2 b hb).trans ho))
  · rename_i heq
    exact absurd (heq.symm.trans hn) (by simp)
theorem it_stop {α : Type} {Q : α → Shared → Prop} (hh : A.handled = none) (hE : ∀ h' e, (∀ b o, s.heap.get? b = some o → h'.get? b = some o) → (∃ o, h'.get? e = some o ∧ o.cls = .type "StopIteration") → E (.ref e) { s with heap := h' }) :
    wpAny (model prog w) A (Builtin.Itertools.itStop : Sem α) Q E s := by
  unfold Builtin.Itertools.itStop
  show wpAny _ _ (newExc (.type "StopIteration") [] >>= _) _ _ _
  refine wpAny_bind ?_
  simp only [newExc, newTuple]
  refine wpAny_bind (wpAny_newObj_type ?_ (by size_fits))
  refine wpAny_bind (m := firstArgMember _ _) (wpAny_of_eq (a := Value.none) (by first | rfl | (simp only [firstArgMember]; rfl)) ?_)
  refine wpAny_newObj_type ?_ (by size_fits)
  simp only [raiseNew]
  refine wpAny_bind (wpAny_handled ?_)
  first | rw [show A.in1.handled = none from hh] | rw [hh]
  refine wpAny_bind (wpAny_pure (wpAny_throw ?_))
  exact hE _ _ (fun b o ho => Heap.get?_push_of_some _ (Heap.get?_push_of_some _ ho)) ⟨_, Heap.get?_push_size _ rfl, rfl⟩
theorem comb_end1 {e p : Addr} {res : Value} {is : List Nat} {its : Array Value} {Q : PySem.Fin → Shared → Prop} (hh : A.handled = none) (hI : IsComb s.heap e p 1 res is) (hp : s.heap.IsTuple p its) (hn : nxc its.size is = none)
    (hE : ∀ h' x, (∀ b o, b ≠ e → s.heap.get? b = some o → h'.get? b = some o) → (∃ o, h'.get? x = some o ∧ o.cls = .type "StopIteration") → E (.ref x) { s with heap := h' }) :
    wpAny (model prog w) A (Builtin.«itertools.combinations.__next__» ⟨[.ref e], []⟩) Q E s := by
  obtain ⟨hp', g, d, tk, os⟩ := s
  show wpAny _ _ (field (.ref e) 0 >>= _) _ _ _
  refine wpAny_bind (wpAny_field hI rfl (x := .ref p) rfl ?_)
  refine wpAny_bind (wp_nums hI ?_)
  refine wpAny_bind (wp_itint hI ?_)
  show wpAny _ _ (Builtin.Itertools.itPoolItems (.ref p) >>= _) _ _ _
  refine wpAny_bind (wp_pool hp ?_)
  split
  · rename_i nx heq
    exact absurd (heq.symm.trans hn) (by simp)
  · refine wpAny_bind (wpAny_setField_rec hI (by rw [vsC_z]; omega) fun h1 hI1 sb1 => ?_)
    exact it_stop hh fun h' x k hx => hE h' x (fun b o hb ho => k b o ((sb1.2 b hb).trans ho)) hx
theorem comb_end2 {e p : Addr} {res : Value} {is : List Nat} {Q : PySem.Fin → Shared → Prop} (hh : A.handled = none) (hI : IsComb s.heap e p 2 res is)
    (hE : ∀ h' x, (∀ b o, s.heap.get? b = some o → h'.get? b = some o) → (∃ o, h'.get? x = some o ∧ o.cls = .type "StopIteration") → E (.ref x) { s with heap := h' }) :
    wpAny (model prog w) A (Builtin.«itertools.combinations.__next__» ⟨[.ref e], []⟩) Q E s := by
  obtain ⟨hp', g, d, tk, os⟩ := s
  show wpAny _ _ (field (.ref e) 0 >>= _) _ _ _
  refine wpAny_bind (wpAny_field hI rfl (x := .ref p) rfl ?_)
  refine wpAny_bind (wp_nums hI ?_)
  refine wpAny_bind (wp_itint hI ?_)
  exact wpAny_bind (wpAny_rule (it_stop hh fun h' x k hx => hE h' x k hx))
theorem comb_iter {e p : Addr} {st : Int} {res : Value} {is : List Nat} {Q : Value → Shared → Prop} (hI : IsComb s.heap e p st res is) (h : Q (.ref e) s) : wpAny (model prog w) A (pyIter (.ref e)) Q E s := by
  have hT : s.TypeIs (.ref e) "itertools.combinations" := ⟨_, hI, rfl⟩
  refine wpAny_pyIter_slot hT F.slot_comb_iter (wpAny_call_entry F.slot_comb_iter hT F.entry_comb_iter ?_ (F.args_comb_iter_1 _))
  show wpAny _ _ (ret (.ref e)) _ _ s
  exact wpAny_pure ⟨_, rfl, "itertools.combinations", _, hT, F.slot_comb_next.lookup, h⟩
/-- the state of an iterator of choices, made anew: nothing left if more are asked than there are -/
def st0 (n r : Nat) : Int := if r > n then 2 else 0
theorem comb_new {r : Addr} {a b : Int} {t u v : Tok} {n : Nat} {m : Nat} {tm : Tok} {Q : Value → Shared → Prop} (hh : A.handled = none) (hr : IsRange s.heap r a b 1 t u v) (hsmall : Builtin.Range.small a b 1 = true) (hn : Builtin.Range.rangeSize a b 1 = n) (hlen : n ≤ 1000) (hm : m ≤ 1000)
    (hQ : ∀ (h1 h' : Heap) (tk : Nat) (acc : Array Value), (∀ b o, s.heap.get? b = some o → h1.get? b = some o) → (∀ b o, h1.get? b = some o → h'.get? b = some o) → ItemsOf (fun i v => ∃ t, v = .int (a + i * 1) t) acc n → h'.IsTuple h1.objs.size acc → IsComb h' (h1.objs.size + 1) h1.objs.size (st0 n m) .none (List.range m) → Q (.ref (h1.objs.size + 1)) { s with heap := h', toks := tk }) :
    wpAny (model prog w) A (Builtin.«itertools.combinations.__new__» ⟨[.type "itertools.combinations", .ref r, .int m tm], []⟩) (fun fin s' => ∃ v, fin = .done (.ret v) ∧ Q v s') E s := by
  obtain ⟨hp', g, d, tk, os⟩ := s
  have hs : isSubtype (.type "itertools.combinations") (.type ("itertools." ++ "combinations")) = pure true := by
    rw [show "itertools." ++ "combinations" = "itertools.combinations" from by decide]
    exact F.sub_comb
  have hb : Builtin.Itertools.itBindNamed "combinations" ["iterable", "r"] 2 2 [.ref r, .int m tm] [] = pure [some (.ref r), some (.int m tm)] := by kernel_rfl
  have m1 : ¬ ((m : Int) < -(2 ^ 63 : Int) || (m : Int) ≥ 2 ^ 63) = true := by
    have h1 : (2 : Int) ^ 63 = 9223372036854775808 := by decide
    rw [h1, Bool.or_eq_true, decide_eq_true_iff, decide_eq_true_iff]
    omega
  have m2 : ¬ (m : Int) < 0 := by omega
  have m3 : Builtin.Itertools.itTooMany (m : Int) = false := by
    have : (2 : Int) ^ 20 = 1048576 := by decide
    show decide ((m : Int) > 2 ^ 20) = false
    rw [this]
    exact decide_eq_false (by omega)
  have hd : typeHasDict (.type "itertools.combinations") = false := by decide +kernel
  have c1 : ∀ {A : Around} {E : Value → Shared → Prop} {Q : Value × List Value → Shared → Prop} {s : Shared}, Q (.type "itertools.combinations", [.ref r, .int m tm]) s → wpAny (model prog w) A (Builtin.Itertools.itClassAndRest "combinations" ⟨[.type "itertools.combinations", .ref r, .int m tm], []⟩) Q E s := fun {A E Q s} h => by
    obtain ⟨hp', g, d, tk, os⟩ := s
    wp_walk
    exact h
  refine wpAny_bind (wpAny_bind (c1 ?_))
  refine wpAny_bind (wpAny_of_eq hb ?_)
  have c2 : ∀ {A : Around} {E : Value → Shared → Prop} {Q : Int → Shared → Prop} {s : Shared}, Q (m : Int) s → wpAny (model prog w) A (Builtin.Itertools.itSsizeArg (.int m tm)) Q E s := fun {A E Q s} h => by
    obtain ⟨hp', g, d, tk, os⟩ := s
    unfold Builtin.Itertools.itSsizeArg
    wp_walk
    rw [if_neg m1]
    exact wpAny_pure h
  refine wpAny_bind (c2 ?_)
  refine wpAny_bind (collect_range hh hr hsmall hn (Nat.le_trans hlen (by decide)) fun h1 tk1 acc k1 hacc => ?_)
  rw [if_neg m2]
  show wpAny _ _ (if Builtin.Itertools.itTooMany ((m : Int)) = true then _ else _) _ _ _
  rw [if_neg (by rw [m3]; decide)]
  refine wpAny_bind (wpAny_newTuple ?_ (by rw [Array.length_toList, hacc.1]; exact Nat.le_trans hlen (by decide)))
  refine wpAny_pure ?_
  dsimp only
  unfold Builtin.Itertools.itNewRecord
  refine wpAny_bind ?_
  rw [if_pos (by rw [hd]; rfl)]
  have ez : acc.toList.length = n := by rw [Array.length_toList, hacc.1]
  rw [ez, Int.toNat_natCast]
  have hz : (h1.push { cls := .type "tuple", data := .seq acc.toList.toArray }).objs.size = h1.objs.size + 1 := Heap.size_push ..
  have hT := Heap.get?_push_size h1 (o := { cls := .type "tuple", data := .seq acc.toList.toArray }) rfl
  refine wpAny_newObj_type ?_ ?_
  · refine wpAny_pure ⟨_, rfl, ?_⟩
    have hC := Heap.get?_push_size (h1.push { cls := .type "tuple", data := .seq acc.toList.toArray }) (o := { cls := .type "itertools.combinations", data := .fields (vsC h1.objs.size (st0 n m) .none (List.range m)) }) rfl
    show Q (.ref (h1.push { cls := .type "tuple", data := .seq acc.toList.toArray }).objs.size) ⟨(h1.push { cls := .type "tuple", data := .seq acc.toList.toArray }).push { cls := .type "itertools.combinations", data := .fields (vsC h1.objs.size (st0 n m) .none (List.range m)) }, g, d, tk1, os⟩
    rw [hz] at hC ⊢
    exact hQ h1 _ tk1 acc k1 (fun b o ho => Heap.get?_push_of_some _ (Heap.get?_push_of_some _ ho)) hacc ⟨_, Heap.get?_push_of_some _ hT, rfl, 0, by simp⟩ hC
  · show (vsC h1.objs.size (st0 n m) .none (List.range m)).size ≤ sizeLine + 2
    rw [vsC_z, List.length_range]
    exact Nat.le_trans (by omega : m + 3 ≤ 1003) (by decide)
end
end TL
namespace TL
open PySem PySem.Spec PyProof.Rows L2 PySem.W
theorem comb_call {prog : Program} {w : World} {A : Around} {E Q : Value → Shared → Prop} {s : Shared} {r : Addr} {b : Int} {t u v : Tok} {n m : Nat} {tm : Tok} (hh : A.handled = none) (hr : IsRange s.heap r 0 b 1 t u v) (hsmall : Builtin.Range.small 0 b 1 = true) (hn : Builtin.Range.rangeSize 0 b 1 = n) (hlen : n ≤ 1000) (hm : m ≤ 1000)
    (hQ : ∀ (h1 h' : Heap) (tk : Nat) (acc : Array Value), (∀ b o, s.heap.get? b = some o → h1.get? b = some o) → (∀ b o, h1.get? b = some o → h'.get? b = some o) → ItemsOf (fun i v => ∃ t, v = .int (0 + i * 1) t) acc n → h'.IsTuple h1.objs.size acc → IsComb h' (h1.objs.size + 1) h1.objs.size (st0 n m) .none (List.range m) → Q (.ref (h1.objs.size + 1)) { s with heap := h', toks := tk }) :
    wpAny (model prog w) A (call (.type "itertools.combinations") [.ref r, .int m tm]) Q E s := by
  refine callType_new F.called_comb (by decide) (F.typeCall_comb_2 _ _) (F.newCall_comb_2 _ _) (fun obj => F.args_object_init_3 obj _ _) F.entry_comb_new
    (Meets.of_wp (S := fun A R s => A.handled = none ∧ IsRange s.heap r 0 b 1 t u v ∧ ∀ (h1 h' : Heap) (tk : Nat) (acc : Array Value), (∀ b o, s.heap.get? b = some o → h1.get? b = some o) → (∀ b o, h1.get? b = some o → h'.get? b = some o) → ItemsOf (fun i v => ∃ t, v = .int (0 + i * 1) t) acc n → h'.IsTuple h1.objs.size acc → IsComb h' (h1.objs.size + 1) h1.objs.size (st0 n m) .none (List.range m) → R (.ok (.ret (.ref (h1.objs.size + 1)))) { s with heap := h', toks := tk })
      fun prog w A R s h => comb_new (A := A.in1) h.1 h.2.1 hsmall hn hlen hm fun h1 h' tk acc a1 a2 a3 a4 a5 => h.2.2 h1 h' tk acc a1 a2 a3 a4 a5) ⟨hh, hr, fun h1 h' tk acc a1 a2 a3 a4 a5 => ⟨⟨_, a5, rfl⟩, hQ h1 h' tk acc a1 a2 a3 a4 a5⟩⟩
/-- the choices of r among n, one after the other -/
def chs (n r : Nat) : Nat → Option (List Nat)
  | 0 => if r > n then none else some (List.range r)
  | i + 1 => (chs n r i).bind (nxc n)
def natsV (js : List Nat) : List V := js.map fun j => V.int ((j : Nat) : Int)
def ItC (n r : Nat) : It :=
  ⟨fun i H => (chs n r i).isSome = true, fun i H v H' => ∃ T js, v = .ref T ∧ H T = none ∧ H' = upd H T (.tup (natsV js)) ∧ chs n r i = some js, fun i H => chs n r i = none⟩
theorem chs_le {n r : Nat} : ∀ {i : Nat} {js : List Nat}, chs n r i = some js → r ≤ n ∧ js.length = r
  | 0, js, h => by
    unfold chs at h
    split at h
    · cases h
    · cases h
      exact ⟨by omega, List.length_range⟩
  | i + 1, js, h => by
    obtain ⟨is, h1, h2⟩ := Option.bind_eq_some_iff.mp h
    have := chs_le h1
    exact ⟨this.1, (nxc_len h2).trans this.2⟩
theorem nxc_bd {n : Nat} {is js : List Nat} (hr : is.length ≤ n) (hb : ∀ k v, is[k]? = some v → v ≤ k + n - is.length) (h : nxc n is = some js) : ∀ k v, js[k]? = some v → v ≤ k + n - js.length := by
  have hl := nxc_len h
  unfold nxc at h
  split at h
  · cases h
  · rename_i i hi
    cases h
    have hm := List.mem_of_find?_eq_some hi
    rw [List.mem_reverse, List.mem_range] at hm
    have hp := List.find?_some hi
    have hv : is[i]? = some (is.getD i 0) := by rw [List.getD_eq_getElem?_getD, List.getElem?_eq_getElem hm]; rfl
    have hx := hb i _ hv
    have hne : is.getD i 0 ≠ i + n - is.length := by simpa using hp
    intro k v hk
    rw [hl]
    rcases Nat.lt_or_ge k i with z | z
    · rw [List.getElem?_append_left (by rw [List.length_take]; omega), List.getElem?_take, if_pos z] at hk
      exact hb k v hk
    · rw [List.getElem?_append_right (by rw [List.length_take]; omega), List.length_take, Nat.min_eq_left (by omega), List.getElem?_map] at hk
      obtain ⟨t, ht, rfl⟩ := Option.map_eq_some_iff.mp hk
      obtain ⟨t1, t2⟩ := List.getElem?_eq_some_iff.mp ht
      rw [List.getElem_range] at t2
      rw [List.length_range] at t1
      omega
theorem chs_bd {n r : Nat} : ∀ {i : Nat} {js : List Nat}, chs n r i = some js → ∀ k v, js[k]? = some v → v ≤ k + n - js.length
  | 0, js, h => by
    have := chs_le h
    unfold chs at h
    split at h
    · cases h
    · cases h
      intro k v hk
      obtain ⟨h1, h2⟩ := List.getElem?_eq_some_iff.mp hk
      rw [List.getElem_range] at h2
      rw [List.length_range] at h1 ⊢
      omega
  | i + 1, js, h => by
    obtain ⟨is, h1, h2⟩ := Option.bind_eq_some_iff.mp h
    have := chs_le h1
    exact nxc_bd (by omega) (chs_bd h1) h2
theorem chs_lt {n r i : Nat} {js : List Nat} (h : chs n r i = some js) : ∀ j ∈ js, j < n := fun j hj => by
  obtain ⟨k, hk⟩ := List.mem_iff_getElem?.mp hj
  have h1 := chs_bd h k j hk
  have h2 := (List.getElem?_eq_some_iff.mp hk).1
  have := chs_le h
  omega
/-- where the iterator stands behind i turns -/
def CAt (n r : Nat) (h : Heap) (e p : Addr) (i : Nat) : Prop :=
  (i = 0 ∧ ∃ res, IsComb h e p (st0 n r) res (List.range r)) ∨ ∃ k is res, i = k + 1 ∧ chs n r k = some is ∧ IsComb h e p 1 res is
theorem CAt.obj {n r i : Nat} {h : Heap} {e p : Addr} (c : CAt n r h e p i) : ∃ st res is, IsComb h e p st res is := by
  rcases c with ⟨_, res, h⟩ | ⟨k, is, res, _, _, h⟩
  · exact ⟨_, _, _, h⟩
  · exact ⟨_, _, _, h⟩
theorem CAt.keep {n r i : Nat} {h h' : Heap} {e p : Addr} (c : CAt n r h e p i) (k : ∀ o, h.get? e = some o → h'.get? e = some o) : CAt n r h' e p i := by
  rcases c with ⟨a, res, h⟩ | ⟨j, is, res, a, b, h⟩
  · exact .inl ⟨a, res, k _ h⟩
  · exact .inr ⟨j, is, res, a, b, k _ h⟩
theorem pick_items {n : Nat} {acc : Array Value} (h : ItemsOf (fun i v => ∃ t, v = .int (0 + i * 1) t) acc n) : ∀ {js : List Nat}, (∀ j ∈ js, j < n) → Vals (natsV js) (pickC acc js)
  | [], _ => .nil
  | j :: js, hj => by
    refine .cons ?_ (pick_items h fun x hx => hj x (List.mem_cons_of_mem _ hx))
    have h1 : j < acc.size := by rw [h.1]; exact hj j (List.mem_cons_self ..)
    obtain ⟨t, ht⟩ := h.2 j acc[j] (Array.getElem?_eq_getElem h1)
    refine ⟨t, ?_⟩
    show acc.getD j .none = _
    rw [Array.getD_eq_getD_getElem?, Array.getElem?_eq_getElem h1]
    show acc[j] = _
    rw [ht]
    simp
theorem turn_comb {P : Program} {w : World} {K : PySem.W.Frag} {tg : Expr} {n r : Nat} {acc : Array Value} (hacc : ItemsOf (fun i v => ∃ t, v = .int (0 + i * 1) t) acc n) (hr : r ≤ 1000) (e p : Addr) (ne : p ≠ e) :
    Turn P w K tg (ItC n r) [e, p] e (fun i h => CAt n r h e p i ∧ h.IsTuple p acc) where
  mem := List.mem_cons_self ..
  obj := fun i h st b hb => by
    simp only [List.mem_cons, List.not_mem_nil, or_false] at hb
    rcases hb with rfl | rfl
    · obtain ⟨_, _, _, h⟩ := st.1.obj
      exact ⟨_, h, fun v q => nomatch q⟩
    · obtain ⟨o, ho, _, m, hd⟩ := st.2
      refine ⟨o, ho, fun v q => ?_⟩
      rw [hd] at q
      cases q
  keep := fun i h h' st k => ⟨st.1.keep fun o q => k e (by simp) o q, by
    obtain ⟨o, ho, hc, hd⟩ := st.2
    exact ⟨o, k p (by simp) o ho, hc, hd⟩⟩
  item := by
    intro X hP hw hK hc i pins s σ H E I hf st hg
    subst hP hw hK
    obtain ⟨hC, hT⟩ := st
    obtain ⟨js, hj⟩ : ∃ js, chs n r i = some js := Option.isSome_iff_exists.mp hg
    have hjl := chs_le hj
    have hz : acc.size = n := hacc.1
    have fin : ∀ (h' : Heap), IsComb h' e p 1 (.ref s.heap.objs.size) js → h'.get? s.heap.objs.size = some { cls := .type "tuple", data := .seq (pickC acc js).toArray } → (∀ b o, b ≠ e → s.heap.get? b = some o → h'.get? b = some o) →
        ∃ u, some (Value.ref s.heap.objs.size) = some u ∧ wpAny (model X.prog X.w) X.A (letOwnedTupleGo tg (.ref e) u) (fun _ s2 => ∃ x H', Inv X pins σ H' s2 ∧ RelV x u ∧ (ItC n r).yld i H x H' ∧ (CAt n r s2.heap e p (i + 1) ∧ s2.heap.IsTuple p acc) ∧ ∀ b ∈ [e, p], H' b = none) E { s with heap := h' } := fun h' c1 c2 c3 => by
      refine ⟨_, rfl, go_of (s := { s with heap := h' }) (n := "itertools.combinations") c1 rfl rfl (by decide) ?_⟩
      have hn : H s.heap.objs.size = none := I.hok.fresh (Nat.le_refl _)
      have new : ObjOk X.prog X.w (upd H s.heap.objs.size (.tup (natsV js))) h' s.heap.objs.size (.tup (natsV js)) :=
        ⟨by unfold natsV; rw [List.length_map, hjl.2]; exact Nat.le_trans hr (by decide), pickC acc js, pick_items hacc (chs_lt hj), ⟨_, c2, rfl, _, rfl⟩⟩
      have I1 : Inv X pins σ (upd H s.heap.objs.size (.tup (natsV js))) { s with heap := h', toks := s.toks } :=
        I.turnedNew (ch := [e]) (fun b ob hb q => c3 b ob (fun c => hb (by simp [c])) q) (fun b hb => hf b (by
          have : b = e := by simpa using hb
          simp [this])) (Nat.le_refl _) new
      refine ⟨.ref s.heap.objs.size, _, I1, rfl, ⟨_, js, rfl, hn, rfl, hj⟩, ⟨.inr ⟨i, js, _, rfl, hj, c1⟩, ?_⟩, fun b hb => ?_⟩
      · obtain ⟨o, ho, hcc, hd⟩ := hT
        exact ⟨o, c3 p o ne ho, hcc, hd⟩
      · have lb : b < s.heap.objs.size := by
          simp only [List.mem_cons, List.not_mem_nil, or_false] at hb
          rcases hb with rfl | rfl
          · obtain ⟨_, _, _, h⟩ := hC.obj
            exact Heap.lt_size h
          · obtain ⟨o, ho, _⟩ := hT
            exact Heap.lt_size ho
        rw [upd_ne (Nat.ne_of_lt lb)]
        exact (hf b hb).1
    obtain ⟨_, _, _, hobj⟩ := hC.obj
    have hTy : s.TypeIs (.ref e) "itertools.combinations" := ⟨_, hobj, rfl⟩
    unfold pyNext
    refine wpAny_bind (wpAny_attempt (wpAny_callSpecial?_slot (name := Str.ofString "__next__") hTy F.slot_comb_next
      (wpAny_call_entry F.slot_comb_next hTy F.entry_comb_next ?_ (F.args_comb_next_1 _))))
    rcases hC with ⟨rfl, res, h0⟩ | ⟨k, is, res, rfl, hk, h1⟩
    · have e0 : js = List.range r := by
        unfold chs at hj
        split at hj
        · cases hj
        · exact (Option.some.inj hj).symm
      subst e0
      have es : st0 n r = 0 := by
        unfold st0
        rw [if_neg (by omega)]
      rw [es] at h0
      exact comb_next0 h0 hT (by rw [List.length_range]; exact hr) fun h' c1 c2 c3 => wpAny_pure (fin h' c1 c2 c3)
    · have hn : nxc acc.size is = some js := by
        rw [hz]
        have : (chs n r k).bind (nxc n) = some js := hj
        rw [hk] at this
        exact this
      exact comb_next1 h1 hT (by rw [(chs_le hk).2]; exact hr) hn fun h' c1 c2 c3 => wpAny_pure (fin h' c1 c2 c3)
  done := by
    intro X hP hw hK hc i pins s σ H E I hf st hg
    subst hP hw hK
    obtain ⟨hC, hT⟩ := st
    have hz : acc.size = n := hacc.1
    obtain ⟨f0, f1, f2, f3, f4, f5⟩ := hf e (by simp)
    have hd1 : X.A.in1.handled = none := I.ok.hd hc
    obtain ⟨_, _, _, hobj⟩ := hC.obj
    have hTy : s.TypeIs (.ref e) "itertools.combinations" := ⟨_, hobj, rfl⟩
    have fin : ∀ (h' : Heap) (x : Addr), (∀ b o, b ≠ e → s.heap.get? b = some o → h'.get? b = some o) → (∃ o, h'.get? x = some o ∧ o.cls = .type "StopIteration") → Inv X pins σ H { s with heap := h', toks := s.toks } := fun h' x c3 _ => I.turned (fun b o hb q => c3 b o hb q) f0 f1 f3 f4 f5
    unfold pyNext
    refine wpAny_bind (wpAny_attempt (wpAny_callSpecial?_slot (name := Str.ofString "__next__") hTy F.slot_comb_next
      (wpAny_call_entry F.slot_comb_next hTy F.entry_comb_next ?_ (F.args_comb_next_1 _))))
    rcases hC with ⟨rfl, res, h0⟩ | ⟨k, is, res, rfl, hk, h1⟩
    · have es : st0 n r = 2 := by
        have hg' : chs n r 0 = none := hg
        unfold chs at hg'
        unfold st0
        split at hg'
        · rename_i z
          rw [if_pos z]
        · cases hg'
      rw [es] at h0
      refine comb_end2 hd1 h0 fun h' x c3 hx => ?_
      refine wpAny_bind (wpAny_isInstance (T := "StopIteration") (b := true) hx isSubtype_stop ?_)
      exact wpAny_pure ⟨rfl, fin h' x (fun b o _ q => c3 b o q) hx⟩
    · have hn : nxc acc.size is = none := by
        rw [hz]
        have : (chs n r k).bind (nxc n) = none := hg
        rw [hk] at this
        exact this
      refine comb_end1 hd1 h1 hT hn fun h' x c3 hx => ?_
      refine wpAny_bind (wpAny_isInstance (T := "StopIteration") (b := true) hx isSubtype_stop ?_)
      exact wpAny_pure ⟨rfl, fin h' x c3 hx⟩
  self := fun A i s Q E st h => by
    obtain ⟨_, _, _, hobj⟩ := st.1.obj
    exact comb_iter hobj h
/-- range(n), kept as a value -/
theorem cr_range1 {X : Cx} : CallR X (.type "range") (fun vs H Q => ∃ j, vs = [V.int j] ∧ ∀ p, H p = none → Q (.ref p) (upd H p (.rng 0 j))) := by
  intro pins s σ H xs us Q I rs h
  obtain ⟨j, rfl, q⟩ := h
  cases rs with
  | cons r1 rs =>
    cases rs
    obtain ⟨t, rfl⟩ := r1
    refine call_range_1 ⟨.ref s.heap.objs.size, upd H s.heap.objs.size (.rng 0 j), I.laid (t' := s.toks + 1 + 1) (fun b o e => Heap.get?_push_of_some _ e) (Nat.le_refl _) ?_, rfl, q _ (I.hok.fresh (Nat.le_refl _))⟩
    exact ⟨_, _, _, IsRange.new _ _ _ _ _ _ _⟩
def iComb (ta : TA) : TI := fun σ H R => ta σ H fun vs H1 => ∃ (r : Addr) (n m : Nat), vs = [.ref r, .int m] ∧ H1 r = some (.rng 0 n) ∧ n ≤ 1000 ∧ m ≤ 1000 ∧ R (ItC n m) H1
theorem pi_comb {X : Cx} {tg e1 e2 : Expr} {x : Str} {ta : TA} {p pos : Pos} (hc : X.calm = true) (hg : Gl X x) (hm : X.mg x = some (.type "itertools.combinations")) (ha : PA X [e1, e2] ta) (hs : starEach [e1, e2] X.env = (false, eval e1 X.env) :: starEach [e2] X.env := by rfl)
    (hpl : (backTo pos (starEach [e2] X.env)).any (·.1) = false := by rfl) (hdb : (x == ("__debug__" : Str)) = false := by decide) :
    PI X tg (.Call (.Name x p) [e1, e2] [] pos) (iComb ta) := by
  refine ⟨fun pins s σ H R I h => Call_ (ld_glob I hg hm (PyProof.Rows.callWith_type1 (thn (ha.run pos pins s σ H _ I h) fun us s1 ⟨vs, H1, I1, r1, q1⟩ => ?_) hs hpl) hdb)⟩
  obtain ⟨r, n, m, rfl, hr, hn, hm', q⟩ := q1
  cases r1 with
  | cons r0 rr =>
    cases rr with
    | cons r2 rr =>
      cases rr
      cases r0
      obtain ⟨t, rfl⟩ := r2
      obtain ⟨t0, u0, v0, hR⟩ : ∃ t u v, IsRange s1.heap r 0 n 1 t u v := I1.hok r _ hr
      have hsm : Builtin.Range.small 0 (n : Int) 1 = true := small_one (by decide) (by decide) (by omega) (by omega)
      have hsz : Builtin.Range.rangeSize 0 (n : Int) 1 = n := by
        rw [rangeSize_one]
        split
        · exact Int.sub_zero _
        · show (0 : Int) = (n : Int)
          omega
      refine comb_call (I1.ok.hd hc) hR hsm hsz hn hm' fun h1 h' tk acc k1 k2 hacc hT hC => comb_iter hC ?_
      have kk : ∀ b o, s1.heap.get? b = some o → h'.get? b = some o := fun b o e => k2 b o (k1 b o e)
      have I2 : L2.Inv X pins σ H1 { s1 with heap := h1, toks := tk } := I1.kept k1
      have lb : ∀ b ∈ [h1.objs.size + 1, h1.objs.size], h1.objs.size ≤ b := fun b hb => by
        simp only [List.mem_cons, List.not_mem_nil, or_false] at hb
        rcases hb with rfl | rfl <;> omega
      exact ⟨h1.objs.size + 1, [h1.objs.size + 1, h1.objs.size], _, _, H1, rfl, I1.kept kk, turn_comb hacc hm' (h1.objs.size + 1) h1.objs.size (Nat.ne_of_lt (Nat.lt_succ_self _)), ⟨.inl ⟨rfl, _, hC⟩, hT⟩, fun b hb => I2.fpOk (lb b hb) (I2.hok.fresh (lb b hb)), q⟩
/-- the choices, told as a list -/
theorem walk_comb {n r : Nat} {L : List (List Nat)} (h : ∀ i, chs n r i = L[i]?) : Walk (ItC n r) L.length (fun _ => True) (fun i H x H' => ∃ T js, x = .ref T ∧ H T = none ∧ H' = upd H T (.tup (natsV js)) ∧ L[i]? = some js) := by
  refine ⟨fun i H hi _ => ?_, fun H _ => ?_, fun i x H H' hi _ y => ?_⟩
  · show (chs n r i).isSome = true
    rw [h, List.getElem?_eq_getElem hi]
    rfl
  · show chs n r L.length = none
    rw [h, List.getElem?_eq_none (Nat.le_refl _)]
  · obtain ⟨T, js, a, b, c, d⟩ := y
    exact ⟨T, js, a, b, c, by rw [← h]; exact d⟩
theorem chs_none {n r i j : Nat} (h : chs n r i = none) (hj : i ≤ j) : chs n r j = none := by
  induction hj with
  | refl => exact h
  | step _ ih =>
    show (chs n r _).bind (nxc n) = none
    rw [ih]
    rfl
/-- the list of choices, found by reckoning -/
theorem chs_of {n r : Nat} {L : List (List Nat)} (h1 : ∀ i < L.length + 1, chs n r i = L[i]?) : ∀ i, chs n r i = L[i]? := fun i => by
  rcases Nat.lt_or_ge i (L.length + 1) with z | z
  · exact h1 i z
  · rw [List.getElem?_eq_none (by omega)]
    exact chs_none ((h1 L.length (by omega)).trans (List.getElem?_eq_none (Nat.le_refl _))) (by omega)
end TL
namespace TL
example : ∀ i, chs 6 2 i = [[0, 1], [0, 2], [0, 3], [0, 4], [0, 5], [1, 2], [1, 3], [1, 4], [1, 5], [2, 3], [2, 4], [2, 5], [3, 4], [3, 5], [4, 5]][i]? := chs_of (by decide +kernel)
end TL
namespace TL
open PySem L2

def top (i : Nat) : Stmt := PySem.Challenge.pw_turnsleft_k43_whole_staircases.main.body.getD i (.Pass ⟨0, 0, 0, 0⟩)
abbrev s_lead_of : Stmt := top 10
abbrev N_lead_of : List Str := ["vector", "at", "item"]
theorem sc_lead_of : FnScope N_lead_of ["vector"] (defScope s_lead_of) := ⟨rfl, rfl, rfl, by decide +kernel, rfl, by decide +kernel, by decide +kernel⟩
abbrev s_less : Stmt := top 11
abbrev N_less : List Str := ["vector", "times", "row", "own", "item"]
theorem sc_less : FnScope N_less ["vector", "times", "row"] (defScope s_less) := ⟨rfl, rfl, rfl, by decide +kernel, rfl, by decide +kernel, by decide +kernel⟩
abbrev s__divided : Stmt := top 12
abbrev N__divided : List Str := ["row", "vector", "lead", "rest"]
theorem sc__divided : FnScope N__divided ["row", "vector", "lead"] (defScope s__divided) := ⟨rfl, rfl, rfl, by decide +kernel, rfl, by decide +kernel, by decide +kernel⟩
abbrev s__with_vector : Stmt := top 13
abbrev N__with_vector : List Str := ["stairs", "vector", "rows", "row", "lead", "own"]
theorem sc__with_vector : FnScope N__with_vector ["stairs", "vector"] (defScope s__with_vector) := ⟨rfl, rfl, rfl, by decide +kernel, rfl, by decide +kernel, by decide +kernel⟩
abbrev s__settled : Stmt := top 14
abbrev N__settled : List Str := ["rows", "settled", "row", "lead", "upper", "item"]
theorem sc__settled : FnScope N__settled ["rows"] (defScope s__settled) := ⟨rfl, rfl, rfl, by decide +kernel, rfl, by decide +kernel, by decide +kernel⟩
abbrev s_counts_on : Stmt := top 15
abbrev N_counts_on : List Str := ["stairs", "vector", "counts", "row", "lead", "times"]
theorem sc_counts_on : FnScope N_counts_on ["stairs", "vector"] (defScope s_counts_on) := ⟨rfl, rfl, rfl, by decide +kernel, rfl, by decide +kernel, by decide +kernel⟩
abbrev s_staircase_of : Stmt := top 16
abbrev N_staircase_of : List Str := ["vectors", "stairs", "vector"]
theorem sc_staircase_of : FnScope N_staircase_of ["vectors"] (defScope s_staircase_of) := ⟨rfl, rfl, rfl, by decide +kernel, rfl, by decide +kernel, by decide +kernel⟩
abbrev s_is_number : Stmt := top 6
abbrev N_is_number : List Str := ["value"]
theorem sc_is_number : FnScope N_is_number ["value"] (defScope s_is_number) := ⟨rfl, rfl, rfl, by decide +kernel, rfl, by decide +kernel, by decide +kernel⟩
abbrev s_is_listed : Stmt := top 7
abbrev N_is_listed : List Str := ["value"]
theorem sc_is_listed : FnScope N_is_listed ["value"] (defScope s_is_listed) := ⟨rfl, rfl, rfl, by decide +kernel, rfl, by decide +kernel, by decide +kernel⟩
abbrev s_are_numbers : Stmt := top 8
abbrev N_are_numbers : List Str := ["value", "many", "item"]
theorem sc_are_numbers : FnScope N_are_numbers ["value", "many"] (defScope s_are_numbers) := ⟨rfl, rfl, rfl, by decide +kernel, rfl, by decide +kernel, by decide +kernel⟩
abbrev s_Lattice_init : Stmt := inClass (top 19) 0
abbrev N_Lattice_init : List Str := ["self", "width", "vectors", "at", "vector"]
theorem sc_Lattice_init : FnScope N_Lattice_init ["self", "width", "vectors"] (defScope s_Lattice_init) := ⟨rfl, rfl, rfl, by decide +kernel, rfl, by decide +kernel, by decide +kernel⟩
abbrev s_Lattice_staircase : Stmt := inClass (top 19) 1
abbrev N_Lattice_staircase : List Str := ["self", "row"]
theorem sc_Lattice_staircase : FnScope N_Lattice_staircase ["self"] (defScope s_Lattice_staircase) := ⟨rfl, rfl, rfl, by decide +kernel, rfl, by decide +kernel, by decide +kernel⟩
abbrev s_Lattice_contains : Stmt := inClass (top 19) 5
abbrev N_Lattice_contains : List Str := ["self", "vector"]
theorem sc_Lattice_contains : FnScope N_Lattice_contains ["self", "vector"] (defScope s_Lattice_contains) := ⟨rfl, rfl, rfl, by decide +kernel, rfl, by decide +kernel, by decide +kernel⟩
abbrev s_Lattice_eq : Stmt := inClass (top 19) 6
abbrev N_Lattice_eq : List Str := ["self", "other"]
theorem sc_Lattice_eq : FnScope N_Lattice_eq ["self", "other"] (defScope s_Lattice_eq) := ⟨rfl, rfl, rfl, by decide +kernel, rfl, by decide +kernel, by decide +kernel⟩
abbrev s_Lattice_len : Stmt := inClass (top 19) 7
abbrev N_Lattice_len : List Str := ["self"]
theorem sc_Lattice_len : FnScope N_Lattice_len ["self"] (defScope s_Lattice_len) := ⟨rfl, rfl, rfl, by decide +kernel, rfl, by decide +kernel, by decide +kernel⟩
abbrev s_Lattice_bool : Stmt := inClass (top 19) 8
abbrev N_Lattice_bool : List Str := ["self"]
theorem sc_Lattice_bool : FnScope N_Lattice_bool ["self"] (defScope s_Lattice_bool) := ⟨rfl, rfl, rfl, by decide +kernel, rfl, by decide +kernel, by decide +kernel⟩
abbrev s_l_start : Stmt := top 21
abbrev N_l_start : List Str := ["_law_script", "_law_seed", "_law_cell"]
theorem sc_l_start : FnScope N_l_start ["_law_script"] (defScope s_l_start) := ⟨rfl, rfl, rfl, by decide +kernel, rfl, by decide +kernel, by decide +kernel⟩
abbrev s_l_pull : Stmt := top 22
abbrev N_l_pull : List Str := ["_law_bag", "_law_size", "_law_cell", "_law_digit", "_law_seed"]
theorem sc_l_pull : FnScope N_l_pull ["_law_bag", "_law_size"] (defScope s_l_pull) := ⟨rfl, rfl, rfl, by decide +kernel, rfl, by decide +kernel, by decide +kernel⟩
abbrev s_l_pick : Stmt := top 23
abbrev N_l_pick : List Str := ["_law_bag", "_law_some"]
theorem sc_l_pick : FnScope N_l_pick ["_law_bag", "_law_some"] (defScope s_l_pick) := ⟨rfl, rfl, rfl, by decide +kernel, rfl, by decide +kernel, by decide +kernel⟩
abbrev s_l_order : Stmt := top 24
abbrev N_l_order : List Str := ["_law_bag", "_law_count", "_law_rest", "_law_found", "_law_turn"]
theorem sc_l_order : FnScope N_l_order ["_law_bag", "_law_count"] (defScope s_l_order) := ⟨rfl, rfl, rfl, by decide +kernel, rfl, by decide +kernel, by decide +kernel⟩
abbrev s_l_same : Stmt := top 25
abbrev N_l_same : List Str := ["_law_found", "_law_due", "_law_x", "_law_y"]
theorem sc_l_same : FnScope N_l_same ["_law_found", "_law_due"] (defScope s_l_same) := ⟨rfl, rfl, rfl, by decide +kernel, rfl, by decide +kernel, by decide +kernel⟩
abbrev s_l_shuffled : Stmt := top 26
abbrev N_l_shuffled : List Str := ["_law_bag", "_law_some", "_law_at"]
theorem sc_l_shuffled : FnScope N_l_shuffled ["_law_bag", "_law_some"] (defScope s_l_shuffled) := ⟨rfl, rfl, rfl, by decide +kernel, rfl, by decide +kernel, by decide +kernel⟩
abbrev s_l_draw_number : Stmt := top 27
abbrev N_l_draw_number : List Str := ["_law_bag", "_law_way"]
theorem sc_l_draw_number : FnScope N_l_draw_number ["_law_bag"] (defScope s_l_draw_number) := ⟨rfl, rfl, rfl, by decide +kernel, rfl, by decide +kernel, by decide +kernel⟩
abbrev s_l_stairs : Stmt := top 28
abbrev N_l_stairs : List Str := ["_law_width", "_law_vectors", "_law_rest", "_law_found", "_law_place", "_law_some", "_law_lead", "_law_also", "_law_line", "_law_many", "_law_lower", "_law_stair", "_law_x", "_law_y"]
theorem sc_l_stairs : FnScope N_l_stairs ["_law_width", "_law_vectors"] (defScope s_l_stairs) := ⟨rfl, rfl, rfl, by decide +kernel, rfl, by decide +kernel, by decide +kernel⟩
abbrev s_l_within : Stmt := top 29
abbrev N_l_within : List Str := ["_law_stairs_here", "_law_line", "_law_rest", "_law_stair", "_law_place", "_law_many", "_law_x", "_law_y", "_law_at"]
theorem sc_l_within : FnScope N_l_within ["_law_stairs_here", "_law_line"] (defScope s_l_within) := ⟨rfl, rfl, rfl, by decide +kernel, rfl, by decide +kernel, by decide +kernel⟩
abbrev s_l_lattice : Stmt := top 30
abbrev N_l_lattice : List Str := ["_law_width", "_law_rows"]
theorem sc_l_lattice : FnScope N_l_lattice ["_law_width", "_law_rows"] (defScope s_l_lattice) := ⟨rfl, rfl, rfl, by decide +kernel, rfl, by decide +kernel, by decide +kernel⟩
abbrev s_l_summed : Stmt := top 31
abbrev N_l_summed : List Str := ["_law_width", "_law_rows", "_law_counts", "_law_found", "_law_row", "_law_many", "_law_x", "_law_y"]
theorem sc_l_summed : FnScope N_l_summed ["_law_width", "_law_rows", "_law_counts"] (defScope s_l_summed) := ⟨rfl, rfl, rfl, by decide +kernel, rfl, by decide +kernel, by decide +kernel⟩
abbrev s_l_draw_vectors : Stmt := top 32
abbrev N_l_draw_vectors : List Str := ["_law_bag", "_law_width", "_law_count", "_law_great", "_law_found", "_law_turn", "_law_way", "_law_one", "_law_at"]
theorem sc_l_draw_vectors : FnScope N_l_draw_vectors ["_law_bag", "_law_width", "_law_count"] (defScope s_l_draw_vectors) := ⟨rfl, rfl, rfl, by decide +kernel, rfl, by decide +kernel, by decide +kernel⟩
abbrev s_l_shapes : Stmt := top 33
abbrev N_l_shapes : List Str := ["_law_bag", "_law_rows", "_law_row"]
theorem sc_l_shapes : FnScope N_l_shapes ["_law_bag", "_law_rows"] (defScope s_l_shapes) := ⟨rfl, rfl, rfl, by decide +kernel, rfl, by decide +kernel, by decide +kernel⟩
abbrev s_l_right : Stmt := top 34
abbrev N_l_right : List Str := ["_law_lattice_here", "_law_width", "_law_stairs_here", "_law_due", "_law_shown", "_law_stair"]
theorem sc_l_right : FnScope N_l_right ["_law_lattice_here", "_law_width", "_law_stairs_here"] (defScope s_l_right) := ⟨rfl, rfl, rfl, by decide +kernel, rfl, by decide +kernel, by decide +kernel⟩
abbrev s_l_other_vectors : Stmt := top 35
abbrev N_l_other_vectors : List Str := ["_law_bag", "_law_width", "_law_rows", "_law_found", "_law_turn", "_law_at", "_law_also", "_law_many", "_law_x", "_law_y"]
theorem sc_l_other_vectors : FnScope N_l_other_vectors ["_law_bag", "_law_width", "_law_rows"] (defScope s_l_other_vectors) := ⟨rfl, rfl, rfl, by decide +kernel, rfl, by decide +kernel, by decide +kernel⟩
abbrev s_l_near_right : Stmt := top 36
abbrev N_l_near_right : List Str := ["_law_bag", "_law_lattice_here", "_law_width", "_law_rows", "_law_stairs_here", "_law_turn", "_law_line", "_law_at", "_law_row"]
theorem sc_l_near_right : FnScope N_l_near_right ["_law_bag", "_law_lattice_here", "_law_width", "_law_rows", "_law_stairs_here"] (defScope s_l_near_right) := ⟨rfl, rfl, rfl, by decide +kernel, rfl, by decide +kernel, by decide +kernel⟩
abbrev s_law : Stmt := top 37
abbrev N_law : List Str := ["_law_script", "_law_bag", "_law_width", "_law_rows", "_law_stairs_here", "_law_handed", "_law_lattice_here", "_law_row", "_law_others", "_law_again", "_law_bent", "_law_at", "_law_many", "_law_other", "_law_lower", "_law_wider", "_law_x", "_law_stair"]
theorem sc_law : FnScope N_law ["_law_script"] (defScope s_law) := ⟨rfl, rfl, rfl, by decide +kernel, rfl, by decide +kernel, by decide +kernel⟩
structure InsOk (K : PySem.W.Frag) (C : Addr) : Prop where
  ca : PySem.W.findIn K (.ref C) "__class__" = some (some (.builtin "object.__class__"))
  cn : PySem.W.specialIn K (.builtin "object.__class__") "__get__" = some (some (.builtin "getset_descriptor.__get__"))
  ct : PySem.W.takesIn K (.builtin "object.__class__") = some true
  cm : PySem.W.mroIn K C (.type "object") = some true
  me : PySem.W.kitOne K (.ref C) (.ref C) = some true
def PR : List (Nat × Nat) := [(0, 1), (0, 2), (0, 3), (0, 4), (0, 5), (1, 2), (1, 3), (1, 4), (1, 5), (2, 3), (2, 4), (2, 5), (3, 4), (3, 5), (4, 5)]
set_option maxHeartbeats 0 in
structure Tx (K : PySem.W.Frag) (mg : Str → Option Value) : Type where
  z_len : mg "len" = none
  z_abs : mg "abs" = none
  z_int : mg "int" = none
  z_isinstance : mg "isinstance" = none
  z_list : mg "list" = none
  z_tuple : mg "tuple" = none
  z_bool : mg "bool" = none
  z_str : mg "str" = none
  z_all : mg "all" = none
  z_any : mg "any" = none
  z_zip : mg "zip" = none
  z_range : mg "range" = none
  z_enumerate : mg "enumerate" = none
  C_Lattice : Addr
  c_Lattice : Cls K C_Lattice
  g_Lattice : mg "Lattice" = some (.ref C_Lattice)
  n_Lattice_width : NoAttr K C_Lattice "width"
  n_Lattice_vectors : NoAttr K C_Lattice "_vectors"
  n_Lattice_stairs : NoAttr K C_Lattice "_stairs"
  i_Lattice : InsOk K C_Lattice
  t_MOST_WIDTH : Tok
  m_MOST_WIDTH : mg "MOST_WIDTH" = some (.int 24 t_MOST_WIDTH)
  f_lead_of : Addr
  d_lead_of : FuncData
  F_lead_of : Fun K "lead_of" "lead_of" s_lead_of f_lead_of d_lead_of
  b_lead_of : Binds K d_lead_of ["vector"] []
  m_lead_of : mg "lead_of" = some (.ref f_lead_of)
  f_less : Addr
  d_less : FuncData
  F_less : Fun K "less" "less" s_less f_less d_less
  b_less : Binds K d_less ["vector", "times", "row"] []
  m_less : mg "less" = some (.ref f_less)
  f__divided : Addr
  d__divided : FuncData
  F__divided : Fun K "_divided" "_divided" s__divided f__divided d__divided
  b__divided : Binds K d__divided ["row", "vector", "lead"] []
  m__divided : mg "_divided" = some (.ref f__divided)
  f__with_vector : Addr
  d__with_vector : FuncData
  F__with_vector : Fun K "_with_vector" "_with_vector" s__with_vector f__with_vector d__with_vector
  b__with_vector : Binds K d__with_vector ["stairs", "vector"] []
  m__with_vector : mg "_with_vector" = some (.ref f__with_vector)
  f__settled : Addr
  d__settled : FuncData
  F__settled : Fun K "_settled" "_settled" s__settled f__settled d__settled
  b__settled : Binds K d__settled ["rows"] []
  m__settled : mg "_settled" = some (.ref f__settled)
  f_counts_on : Addr
  d_counts_on : FuncData
  F_counts_on : Fun K "counts_on" "counts_on" s_counts_on f_counts_on d_counts_on
  b_counts_on : Binds K d_counts_on ["stairs", "vector"] []
  m_counts_on : mg "counts_on" = some (.ref f_counts_on)
  f_staircase_of : Addr
  d_staircase_of : FuncData
  F_staircase_of : Fun K "staircase_of" "staircase_of" s_staircase_of f_staircase_of d_staircase_of
  b_staircase_of : Binds K d_staircase_of ["vectors"] []
  m_staircase_of : mg "staircase_of" = some (.ref f_staircase_of)
  f_is_number : Addr
  d_is_number : FuncData
  F_is_number : Fun K "is_number" "is_number" s_is_number f_is_number d_is_number
  b_is_number : Binds K d_is_number ["value"] []
  m_is_number : mg "is_number" = some (.ref f_is_number)
  f_is_listed : Addr
  d_is_listed : FuncData
  F_is_listed : Fun K "is_listed" "is_listed" s_is_listed f_is_listed d_is_listed
  b_is_listed : Binds K d_is_listed ["value"] []
  m_is_listed : mg "is_listed" = some (.ref f_is_listed)
  f_are_numbers : Addr
  d_are_numbers : FuncData
  F_are_numbers : Fun K "are_numbers" "are_numbers" s_are_numbers f_are_numbers d_are_numbers
  b_are_numbers : Binds K d_are_numbers ["value", "many"] []
  m_are_numbers : mg "are_numbers" = some (.ref f_are_numbers)
  f_Lattice_init : Addr
  d_Lattice_init : FuncData
  F_Lattice_init : Fun K "__init__" "Lattice.__init__" s_Lattice_init f_Lattice_init d_Lattice_init
  B_Lattice_init : StarB d_Lattice_init ["self", "width"] "vectors"
  k_Lattice : Mk K C_Lattice f_Lattice_init
  f_Lattice_staircase : Addr
  d_Lattice_staircase : FuncData
  F_Lattice_staircase : Fun K "staircase" "Lattice.staircase" s_Lattice_staircase f_Lattice_staircase d_Lattice_staircase
  b_Lattice_staircase : Binds K d_Lattice_staircase ["self"] []
  a_Lattice_staircase : Meth K C_Lattice "staircase" f_Lattice_staircase
  f_Lattice_contains : Addr
  d_Lattice_contains : FuncData
  F_Lattice_contains : Fun K "__contains__" "Lattice.__contains__" s_Lattice_contains f_Lattice_contains d_Lattice_contains
  b_Lattice_contains : Binds K d_Lattice_contains ["self", "vector"] []
  a_Lattice_contains : Meth K C_Lattice "__contains__" f_Lattice_contains
  f_Lattice_eq : Addr
  d_Lattice_eq : FuncData
  F_Lattice_eq : Fun K "__eq__" "Lattice.__eq__" s_Lattice_eq f_Lattice_eq d_Lattice_eq
  b_Lattice_eq : Binds K d_Lattice_eq ["self", "other"] []
  a_Lattice_eq : Meth K C_Lattice "__eq__" f_Lattice_eq
  f_Lattice_len : Addr
  d_Lattice_len : FuncData
  F_Lattice_len : Fun K "__len__" "Lattice.__len__" s_Lattice_len f_Lattice_len d_Lattice_len
  b_Lattice_len : Binds K d_Lattice_len ["self"] []
  a_Lattice_len : Meth K C_Lattice "__len__" f_Lattice_len
  f_Lattice_bool : Addr
  d_Lattice_bool : FuncData
  F_Lattice_bool : Fun K "__bool__" "Lattice.__bool__" s_Lattice_bool f_Lattice_bool d_Lattice_bool
  b_Lattice_bool : Binds K d_Lattice_bool ["self"] []
  a_Lattice_bool : Meth K C_Lattice "__bool__" f_Lattice_bool
  f_l_start : Addr
  d_l_start : FuncData
  F_l_start : Fun K "_law_start" "_law_start" s_l_start f_l_start d_l_start
  b_l_start : Binds K d_l_start ["_law_script"] []
  m_l_start : mg "_law_start" = some (.ref f_l_start)
  f_l_pull : Addr
  d_l_pull : FuncData
  F_l_pull : Fun K "_law_pull" "_law_pull" s_l_pull f_l_pull d_l_pull
  b_l_pull : Binds K d_l_pull ["_law_bag", "_law_size"] []
  m_l_pull : mg "_law_pull" = some (.ref f_l_pull)
  f_l_pick : Addr
  d_l_pick : FuncData
  F_l_pick : Fun K "_law_pick" "_law_pick" s_l_pick f_l_pick d_l_pick
  b_l_pick : Binds K d_l_pick ["_law_bag", "_law_some"] []
  m_l_pick : mg "_law_pick" = some (.ref f_l_pick)
  f_l_order : Addr
  d_l_order : FuncData
  F_l_order : Fun K "_law_order" "_law_order" s_l_order f_l_order d_l_order
  b_l_order : Binds K d_l_order ["_law_bag", "_law_count"] []
  m_l_order : mg "_law_order" = some (.ref f_l_order)
  f_l_same : Addr
  d_l_same : FuncData
  F_l_same : Fun K "_law_same" "_law_same" s_l_same f_l_same d_l_same
  b_l_same : Binds K d_l_same ["_law_found", "_law_due"] []
  m_l_same : mg "_law_same" = some (.ref f_l_same)
  f_l_shuffled : Addr
  d_l_shuffled : FuncData
  F_l_shuffled : Fun K "_law_shuffled" "_law_shuffled" s_l_shuffled f_l_shuffled d_l_shuffled
  b_l_shuffled : Binds K d_l_shuffled ["_law_bag", "_law_some"] []
  m_l_shuffled : mg "_law_shuffled" = some (.ref f_l_shuffled)
  f_l_draw_number : Addr
  d_l_draw_number : FuncData
  F_l_draw_number : Fun K "_law_draw_number" "_law_draw_number" s_l_draw_number f_l_draw_number d_l_draw_number
  b_l_draw_number : Binds K d_l_draw_number ["_law_bag"] []
  m_l_draw_number : mg "_law_draw_number" = some (.ref f_l_draw_number)
  f_l_stairs : Addr
  d_l_stairs : FuncData
  F_l_stairs : Fun K "_law_stairs" "_law_stairs" s_l_stairs f_l_stairs d_l_stairs
  b_l_stairs : Binds K d_l_stairs ["_law_width", "_law_vectors"] []
  m_l_stairs : mg "_law_stairs" = some (.ref f_l_stairs)
  f_l_within : Addr
  d_l_within : FuncData
  F_l_within : Fun K "_law_within" "_law_within" s_l_within f_l_within d_l_within
  b_l_within : Binds K d_l_within ["_law_stairs_here", "_law_line"] []
  m_l_within : mg "_law_within" = some (.ref f_l_within)
  f_l_lattice : Addr
  d_l_lattice : FuncData
  F_l_lattice : Fun K "_law_lattice" "_law_lattice" s_l_lattice f_l_lattice d_l_lattice
  b_l_lattice : Binds K d_l_lattice ["_law_width", "_law_rows"] []
  m_l_lattice : mg "_law_lattice" = some (.ref f_l_lattice)
  f_l_summed : Addr
  d_l_summed : FuncData
  F_l_summed : Fun K "_law_summed" "_law_summed" s_l_summed f_l_summed d_l_summed
  b_l_summed : Binds K d_l_summed ["_law_width", "_law_rows", "_law_counts"] []
  m_l_summed : mg "_law_summed" = some (.ref f_l_summed)
  f_l_draw_vectors : Addr
  d_l_draw_vectors : FuncData
  F_l_draw_vectors : Fun K "_law_draw_vectors" "_law_draw_vectors" s_l_draw_vectors f_l_draw_vectors d_l_draw_vectors
  b_l_draw_vectors : Binds K d_l_draw_vectors ["_law_bag", "_law_width", "_law_count"] []
  m_l_draw_vectors : mg "_law_draw_vectors" = some (.ref f_l_draw_vectors)
  f_l_shapes : Addr
  d_l_shapes : FuncData
  F_l_shapes : Fun K "_law_shapes" "_law_shapes" s_l_shapes f_l_shapes d_l_shapes
  b_l_shapes : Binds K d_l_shapes ["_law_bag", "_law_rows"] []
  m_l_shapes : mg "_law_shapes" = some (.ref f_l_shapes)
  f_l_right : Addr
  d_l_right : FuncData
  F_l_right : Fun K "_law_right" "_law_right" s_l_right f_l_right d_l_right
  b_l_right : Binds K d_l_right ["_law_lattice_here", "_law_width", "_law_stairs_here"] []
  m_l_right : mg "_law_right" = some (.ref f_l_right)
  f_l_other_vectors : Addr
  d_l_other_vectors : FuncData
  F_l_other_vectors : Fun K "_law_other_vectors" "_law_other_vectors" s_l_other_vectors f_l_other_vectors d_l_other_vectors
  b_l_other_vectors : Binds K d_l_other_vectors ["_law_bag", "_law_width", "_law_rows"] []
  m_l_other_vectors : mg "_law_other_vectors" = some (.ref f_l_other_vectors)
  f_l_near_right : Addr
  d_l_near_right : FuncData
  F_l_near_right : Fun K "_law_near_right" "_law_near_right" s_l_near_right f_l_near_right d_l_near_right
  b_l_near_right : Binds K d_l_near_right ["_law_bag", "_law_lattice_here", "_law_width", "_law_rows", "_law_stairs_here"] []
  m_l_near_right : mg "_law_near_right" = some (.ref f_l_near_right)
  f_law : Addr
  d_law : FuncData
  F_law : Fun K "law" "law" s_law f_law d_law
  b_law : Binds K d_law ["_law_script"] []
  m_law : mg "law" = some (.ref f_law)
  sees : Sees K mg
  kList : PySem.W.kitOne K (.type "list") (.ref C_Lattice) = some false
  jInt : PySem.W.mroIn K C_Lattice (.type "int") = some false
  jBool : PySem.W.mroIn K C_Lattice (.type "bool") = some false
  jList : PySem.W.mroIn K C_Lattice (.type "list") = some false
  jStr : PySem.W.mroIn K C_Lattice (.type "str") = some false
  jTuple : PySem.W.mroIn K C_Lattice (.type "tuple") = some false
  sList : PySem.W.subIn K (.type "list") (.ref C_Lattice) = some false
/-! ### steps of a reading -/
local macro_rules | `(tactic| walk_at "hp") => `(tactic| first | assumption | exact upd_same | (refine (upd_ne (by first | assumption | (exact Ne.symm (by assumption)))).trans ?_; walk_at "hp"))
local macro_rules | `(tactic| walk_at "ok") => `(tactic| first | (exact Or.inr ⟨by decide, by decide⟩) | (exact ⟨by decide, by decide⟩) | (exact ⟨by decide, by decide, by decide⟩) | (show _ ≠ _; omega) | (show _ ≠ _; decide) | (exact Or.inl ⟨by omega, by omega⟩) | decide)
local macro_rules | `(tactic| walk_at "sq") => `(tactic| first | assumption | exact SqL.of (by walk_at "hp") | exact SqT.of (by walk_at "hp"))
local macro_rules | `(tactic| walk_at "ty") => `(tactic| first | refine ⟨_, _, Value.type "int", Value.type "list", false, rfl, ClsV.ty _, TyX.base (TyOf.int _), kt_int_list, ?_⟩ | refine ⟨_, _, Value.type "bool", Value.type "list", false, rfl, ClsV.ty _, TyX.base (TyOf.bl _), kt_bool_list, ?_⟩ | refine ⟨_, _, Value.type "str", Value.type "list", false, rfl, ClsV.ty _, TyX.base (TyOf.str _), kt_str_list, ?_⟩ | refine ⟨_, _, Value.type "NoneType", Value.type "list", false, rfl, ClsV.ty _, TyX.base TyOf.non, kt_NoneType_list, ?_⟩ | refine ⟨_, _, Value.type "list", Value.type "list", true, rfl, ClsV.ty _, tyx_L (by walk_at "sq"), kt_list_list, ?_⟩ | refine ⟨_, _, Value.type "tuple", Value.type "list", false, rfl, ClsV.ty _, tyx_T (by walk_at "sq"), kt_tuple_list, ?_⟩ | refine ⟨_, _, Value.type "int", Value.type "tuple", false, rfl, ClsV.ty _, TyX.base (TyOf.int _), kt_int_tuple, ?_⟩ | refine ⟨_, _, Value.type "bool", Value.type "tuple", false, rfl, ClsV.ty _, TyX.base (TyOf.bl _), kt_bool_tuple, ?_⟩ | refine ⟨_, _, Value.type "str", Value.type "tuple", false, rfl, ClsV.ty _, TyX.base (TyOf.str _), kt_str_tuple, ?_⟩ | refine ⟨_, _, Value.type "NoneType", Value.type "tuple", false, rfl, ClsV.ty _, TyX.base TyOf.non, kt_NoneType_tuple, ?_⟩ | refine ⟨_, _, Value.type "list", Value.type "tuple", false, rfl, ClsV.ty _, tyx_L (by walk_at "sq"), kt_list_tuple, ?_⟩ | refine ⟨_, _, Value.type "tuple", Value.type "tuple", true, rfl, ClsV.ty _, tyx_T (by walk_at "sq"), kt_tuple_tuple, ?_⟩ | refine ⟨_, _, Value.type "int", Value.type "bool", false, rfl, ClsV.ty _, TyX.base (TyOf.int _), kt_int_bool, ?_⟩ | refine ⟨_, _, Value.type "bool", Value.type "bool", true, rfl, ClsV.ty _, TyX.base (TyOf.bl _), kt_bool_bool, ?_⟩ | refine ⟨_, _, Value.type "str", Value.type "bool", false, rfl, ClsV.ty _, TyX.base (TyOf.str _), kt_str_bool, ?_⟩ | refine ⟨_, _, Value.type "NoneType", Value.type "bool", false, rfl, ClsV.ty _, TyX.base TyOf.non, kt_NoneType_bool, ?_⟩ | refine ⟨_, _, Value.type "list", Value.type "bool", false, rfl, ClsV.ty _, tyx_L (by walk_at "sq"), kt_list_bool, ?_⟩ | refine ⟨_, _, Value.type "tuple", Value.type "bool", false, rfl, ClsV.ty _, tyx_T (by walk_at "sq"), kt_tuple_bool, ?_⟩ | refine ⟨_, _, Value.type "int", Value.type "int", true, rfl, ClsV.ty _, TyX.base (TyOf.int _), kt_int_int, ?_⟩ | refine ⟨_, _, Value.type "bool", Value.type "int", true, rfl, ClsV.ty _, TyX.base (TyOf.bl _), kt_bool_int, ?_⟩ | refine ⟨_, _, Value.type "str", Value.type "int", false, rfl, ClsV.ty _, TyX.base (TyOf.str _), kt_str_int, ?_⟩ | refine ⟨_, _, Value.type "NoneType", Value.type "int", false, rfl, ClsV.ty _, TyX.base TyOf.non, kt_NoneType_int, ?_⟩ | refine ⟨_, _, Value.type "list", Value.type "int", false, rfl, ClsV.ty _, tyx_L (by walk_at "sq"), kt_list_int, ?_⟩ | refine ⟨_, _, Value.type "tuple", Value.type "int", false, rfl, ClsV.ty _, tyx_T (by walk_at "sq"), kt_tuple_int, ?_⟩ | refine ⟨_, _, Value.type "int", Value.type "str", false, rfl, ClsV.ty _, TyX.base (TyOf.int _), kt_int_str, ?_⟩ | refine ⟨_, _, Value.type "bool", Value.type "str", false, rfl, ClsV.ty _, TyX.base (TyOf.bl _), kt_bool_str, ?_⟩ | refine ⟨_, _, Value.type "str", Value.type "str", true, rfl, ClsV.ty _, TyX.base (TyOf.str _), kt_str_str, ?_⟩ | refine ⟨_, _, Value.type "NoneType", Value.type "str", false, rfl, ClsV.ty _, TyX.base TyOf.non, kt_NoneType_str, ?_⟩ | refine ⟨_, _, Value.type "list", Value.type "str", false, rfl, ClsV.ty _, tyx_L (by walk_at "sq"), kt_list_str, ?_⟩ | refine ⟨_, _, Value.type "tuple", Value.type "str", false, rfl, ClsV.ty _, tyx_T (by walk_at "sq"), kt_tuple_str, ?_⟩)
local macro_rules | `(tactic| walk_at "go1") => `(tactic| first
  | (refine ⟨_, rfl, ?_⟩)
  | (refine ⟨_, _, rfl, rfl, ?_⟩)
  | (refine ⟨_, _, _, _, rfl, rfl, SqL.of (by walk_at "hp"), rfl, ?_⟩)
  | (refine Or.inl ⟨_, rfl, ?_⟩)
  | (refine ⟨rfl, ?_⟩)
  | (refine ⟨_, _, rfl, .inl (SqL.of (by walk_at "hp")), ?_⟩)
  | (refine ⟨_, _, rfl, Or.inl (by assumption), ?_⟩)
  | (refine ⟨_, _, rfl, Or.inr (by assumption), ?_⟩)
  | (refine ⟨(by walk_at "ok"), ?_⟩)
  | (refine ⟨_, _, _, _, rfl, rfl, (by walk_at "hp"), rfl, ?_⟩))
local macro_rules | `(tactic| walk_at "go") => `(tactic| repeat (walk_at "go1"))
local macro_rules | `(tactic| walk_at "gt") => `(tactic| repeat (first | walk_at "go1" | walk_at "ty"))

/-! ### the law's own helpers -/
section
variable {P : Program} {w : World} {K : PySem.W.Frag} {mg : Str → Option Value} {base : Heap}
def spPull : Sp := fun vs H Q _ => ∃ (B : Bg) (n : Int), vs = [.ref B.b, .int n] ∧ 0 < n ∧ n.natAbs < 2 ^ 200 ∧ Bag B H ∧ ∀ (d : Int) (H' : Hp), 0 ≤ d → d < n → Bag B H' → Kb B.b H H' → Q (.int d) H'
theorem ok_pull (T : Tx K mg) : FnOk P w K mg base CX0 1 T.f_l_pull T.d_l_pull ["_law_bag", "_law_size"] spPull := by
  refine T.F_l_pull.ok sc_l_pull (fun vs H Q E h => ?_) (fun cdv A outer s H vs Q E hr h => ?_)
  · obtain ⟨g, n, rfl, _⟩ := h
    rfl
  obtain ⟨⟨g, L, ns⟩, n, rfl, hn, hn2, ⟨⟨i, r, z, c, hg, hi, hrr, hz, hz2⟩, hL, hne⟩, q⟩ := h
  dsimp only at hg hL hne q
  have nd := sc_l_pull.nd
  refine ⟨_, (pss_cons (ps_asg (pe_op op_add (pe_ix (show IxR _ (rIxL K) from ix_list) (pv 0) pe_int (fun _ _ => rfl)) pe_int) (pg_sub (pv 0) pe_int set_list))
    (pss_cut (ps_if (PW.pt (pw_and (pt_cmpR op_eq (pe_ix (show IxR _ (rIxL K) from ix_list) (pv 0) pe_int (fun _ _ => rfl)) pe_int (nomark _)) (pw_and1 (pt_cmpR op_lt (pe_ix (show IxR _ (rIxL K) from ix_list) (pv 0) pe_int (fun _ _ => rfl)) (pe_callB (show CallR _ _ (rLenSq K) from call_len_seq) (by rfl) T.z_len (by decide +kernel) (pa_cons (pe_ix (show IxR _ (rIxL K) from ix_list) (pv 0) pe_int (fun _ _ => rfl)) pa_nil)) (nomark _))))) (pss_cons (ps_set (i := 2) nd rfl (Or.inl rfl) (pe_ix (show IxR _ (rIxL K) from ix_list) (pe_ix (show IxR _ (rIxL K) from ix_list) (pv 0) pe_int (fun _ _ => rfl)) (pe_ix (show IxR _ (rIxL K) from ix_list) (pv 0) pe_int (fun _ _ => rfl)) (fun _ _ => rfl)))
    (pss_cons (ps_asg (pe_op op_add (pe_ix (show IxR _ (rIxL K) from ix_list) (pv 0) pe_int (fun _ _ => rfl)) pe_int) (pg_sub (pv 0) pe_int set_list))
    (pss_one (ps_if (pt_cmpR op_ge (pv 2) (pe_op op_pow pe_int pe_int) (nomark _)) (pss_one (ps_asg (pv 2) (pg_sub (pv 0) pe_int set_list))) (pss_one (ps_asg (pe_op op_modN (pe_callTy call_int1 (by rfl) T.z_int (by decide +kernel) (pa_cons (pe_op op_add (pe_op op_add (pe_op op_mul (pe_ix (show IxR _ (rIxL K) from ix_list) (pv 0) pe_int (fun _ _ => rfl)) pe_int) (pe_op op_mul (pe_op op_modN (pe_callTy call_int1 (by rfl) T.z_int (by decide +kernel) (pa_cons (pv 2) pa_nil)) pe_int) pe_int)) pe_int) pa_nil)) pe_int) (pg_sub (pv 0) pe_int set_list))))))) pss_nil)
    (pss_cons (ps_if (pt_cmpR op_gt (pe_ix (show IxR _ (rIxL K) from ix_list) (pv 0) pe_int (fun _ _ => rfl)) pe_int (nomark _)) (pss_cons (ps_set (i := 3) nd rfl (Or.inl rfl) (pe_op op_modN (pe_callTy call_int1 (by rfl) T.z_int (by decide +kernel) (pa_cons (pe_ix (show IxR _ (rIxL K) from ix_list) (pv 0) pe_int (fun _ _ => rfl)) pa_nil)) (pv 1)))
    (pss_cons (ps_asg (pe_op op_fdivW (pe_ix (show IxR _ (rIxL K) from ix_list) (pv 0) pe_int (fun _ _ => rfl)) (pv 1)) (pg_sub (pv 0) pe_int set_list))
    (pss_one (ps_ret (pv 3))))) pss_nil)
    (pss_cons (ps_set (i := 4) nd rfl (Or.inl rfl) (pe_callTy call_int1 (by rfl) T.z_int (by decide +kernel) (pa_cons (pe_ix (show IxR _ (rIxL K) from ix_list) (pv 0) pe_int (fun _ _ => rfl)) pa_nil)))
    (pss_cons (ps_asg (pe_op op_modN (pe_callTy call_int1 (by rfl) T.z_int (by decide +kernel) (pa_cons (pe_op op_add (pe_op op_add (pe_op op_add (pe_op op_pow (pv 4) pe_int) (pe_op op_mul (pv 4) pe_int)) (pe_op op_mul (pe_ix (show IxR _ (rIxL K) from ix_list) (pv 0) pe_int (fun _ _ => rfl)) pe_int)) pe_int) pa_nil)) pe_int) (pg_sub (pv 0) pe_int set_list))
    (pss_one (ps_ret (pe_op op_modN (pe_callTy call_int1 (by rfl) T.z_int (by decide +kernel) (pa_cons (pe_op op_add (pe_op op_fdivN (pe_ix (show IxR _ (rIxL K) from ix_list) (pv 0) pe_int (fun _ _ => rfl)) pe_int) (pe_op op_mul (pe_op op_modN (pe_callTy call_int1 (by rfl) T.z_int (by decide +kernel) (pa_cons (pe_ix (show IxR _ (rIxL K) from ix_list) (pv 0) pe_int (fun _ _ => rfl)) pa_nil)) pe_int) pe_int)) pa_nil)) (pv 1))))))))), ?_⟩
  walk_at "go"
  refine ⟨fun σ' H' => (∃ a b : Option V, σ' = [some (.ref g), some (.int n), a, b, none]) ∧ Bag ⟨g, L, ns⟩ H' ∧ Kb g H H', ?_, ?_⟩
  · walk_at "go"
    refine ite2 (fun c1 => ?_) (fun c1 => ?_)
    · walk_at "go"
      refine ite2 (fun c2 => ?_) (fun c2 => ?_)
      · have c2' : i < (((ns.map V.int).length : Nat) : Int) := of_decide_eq_true c2
        rw [List.length_map] at c2'
        have hk : i.toNat < ns.length := by omega
        walk_at "go"
        refine ⟨L, ns.map V.int, i, V.int ns[i.toNat], rfl, rfl, SqL.of (by rw [upd_ne hne]; exact hL), at_of (j := i.toNat) (by omega) (by rw [List.getElem?_map, List.getElem?_eq_getElem hk]; rfl), ?_⟩
        walk_at "go"
        refine ite2 (fun c3 => ?_) (fun c3 => ?_)
        · have c3' := of_decide_eq_true c3
          have p18 : (0 : Int) ≤ 10 ^ Int.toNat 18 := by decide
          walk_at "go"
          exact ⟨⟨_, _, rfl⟩, ⟨⟨i + 1, _, z, c + 1, upd_same, by omega, by omega, hz, hz2⟩, by rw [upd_ne hne, upd_ne hne, upd_ne hne]; exact hL, hne⟩, (Kb.at.trans Kb.at).trans Kb.at⟩
        · walk_at "go"
          have m1 := fm (i := z * 40013 + ns[i.toNat].fmod 2147483543 * 587 + 71) (j := 2147483497) (by decide)
          exact ⟨⟨_, _, rfl⟩, ⟨⟨i + 1, r, _, c + 1, upd_same, by omega, hrr, m1.1, by omega⟩, by rw [upd_ne hne, upd_ne hne, upd_ne hne]; exact hL, hne⟩, (Kb.at.trans Kb.at).trans Kb.at⟩
      · exact ⟨⟨_, _, rfl⟩, ⟨⟨i, r, z, c + 1, upd_same, hi, hrr, hz, hz2⟩, by rw [upd_ne hne]; exact hL, hne⟩, Kb.at⟩
    · exact ⟨⟨_, _, rfl⟩, ⟨⟨i, r, z, c + 1, upd_same, hi, hrr, hz, hz2⟩, by rw [upd_ne hne]; exact hL, hne⟩, Kb.at⟩
  · clear hg hL hne hi hrr hz hz2
    rintro σ' H' ⟨⟨a, b, rfl⟩, ⟨⟨i, r, z, c, hg, hi, hrr, hz, hz2⟩, hL, hne⟩, kb⟩
    dsimp only at hg hL hne
    walk_at "go"
    refine ite2 (fun c1 => ?_) (fun c1 => ?_)
    · have m1 := fm (i := r) (j := n) hn
      walk_at "go"
      refine ⟨wide_div hn hn2 (by decide) (by decide), ?_⟩
      walk_at "go"
      exact q _ _ m1.1 m1.2 ⟨⟨i, _, z, c, upd_same, hi, Int.ediv_nonneg hrr (by omega), hz, hz2⟩, by rw [upd_ne hne]; exact hL, hne⟩ (kb.trans Kb.at)
    · walk_at "go"
      refine ⟨⟨by decide, by decide, by omega⟩, ?_⟩
      walk_at "go"
      have m1 := fm (i := z ^ (3 : Int).toNat + z * 25013 + c * 1500007 + 60013) (j := 2147483497) (by decide)
      have m2 := fm (i := ((z ^ (3 : Int).toNat + z * 25013 + c * 1500007 + 60013).fmod 2147483497).fdiv 83 + ((z ^ (3 : Int).toNat + z * 25013 + c * 1500007 + 60013).fmod 2147483497).fmod 9001 * 61) (j := n) hn
      exact q _ _ m2.1 m2.2 ⟨⟨i, r, _, _, upd_same, hi, hrr, m1.1, by omega⟩, by rw [upd_ne hne]; exact hL, hne⟩ (kb.trans Kb.at)
/-- the law's bag of a script -/
def spBag (K : PySem.W.Frag) : Sp := fun vs H Q _ => ∃ (a : Addr) (ns : List Int), vs = [.ref a] ∧ SqL K H a (ns.map V.int) ∧ ns.length ≤ 63 ∧ ∀ (B : Bg) (H' : Hp), Same H H' → Bag B H' → H B.b = none → Q (.ref B.b) H'
theorem cut63 {xs : List V} (h : xs.length ≤ 63) : cutV xs none (some 63) = xs := by
  unfold cutV
  have e1 : HT.sIx xs.length 0 none = 0 := rfl
  have e2 : HT.sIx xs.length xs.length (some 63) = xs.length := by
    unfold HT.sIx
    simp
    omega
  rw [e1, e2]
  simp
theorem ok_start (T : Tx K mg) : FnOk P w K mg base CX0 1 T.f_l_start T.d_l_start ["_law_script"] (spBag K) := by
  refine T.F_l_start.ok sc_l_start (fun vs H Q E h => ?_) (fun cdv A outer s H vs Q E hr h => ?_)
  · obtain ⟨a, ns, rfl, _⟩ := h
    rfl
  obtain ⟨a, ns, rfl, hS, h63, q⟩ := h
  have nd := sc_l_start.nd
  have hc : cutV (ns.map V.int) none (some 63) = ns.map V.int := cut63 (by rw [List.length_map]; exact h63)
  refine ⟨_, (pss_cons (ps_set (i := 1) nd rfl (Or.inl rfl) pe_int)
    (pss_cons (ps_for PassesOwn.never rfl (show PI _ _ _ (iList K _) from pi_list (pe_slice (show SlR _ (rSlL K) from sl_list) (pv 0) po_none (po_some pe_int))) (pg_name (i := 2) nd rfl (Or.inl rfl)) (pss_one (ps_set (i := 1) nd rfl (Or.inl rfl) (pe_op op_modN (pe_callTy call_int1 (by rfl) T.z_int (by decide +kernel) (pa_cons (pe_op op_add (pe_op op_add (pe_op op_mul (pv 1) pe_int) (pe_op op_modN (pe_callTy call_int1 (by rfl) T.z_int (by decide +kernel) (pa_cons (pv 2) pa_nil)) pe_int)) pe_int) pa_nil)) pe_int))))
    (pss_one (ps_ret (pe_lst (pa_cons (pe_callTy (show CallR _ _ (rListOf K) from call_list_of) (by rfl) T.z_list (by decide +kernel) (pa_cons (pe_slice (show SlR _ (rSlL K) from sl_list) (pv 0) po_none (po_some pe_int)) pa_nil)) (pa_cons pe_int (pa_cons pe_int (pa_cons (pv 1) (pa_cons pe_int pa_nil)))))))))), ?_⟩
  refine ⟨_, rfl, _, rfl, a, _, rfl, hS, fun p hp => ?_⟩
  rw [hc]
  refine ⟨p, rfl, ⟨_, SqL.of upd_same⟩, for_list (K := K) (a := p) (xs := ns.map V.int) (fun i σ' H' => (∃ (z : Int) (v : Option V), σ' = [some (.ref a), some (.int z), v] ∧ 0 ≤ z ∧ z < 2147483648) ∧ H' = upd H p (.lst (ns.map V.int)))
    ⟨⟨733211, none, rfl, by decide, by decide⟩, rfl⟩ (fun i σ' H' _ h => by rw [h.2]; exact SqL.of upd_same) ?_ ?_⟩
  · rintro i y σ' H' hi ⟨⟨z, v, rfl, h1, h2⟩, rfl⟩
    obtain ⟨k, rfl⟩ : ∃ k, y = V.int k := by
      rw [List.getElem?_map] at hi
      cases e : ns[i]? with
      | none => rw [e] at hi; cases hi
      | some k => rw [e] at hi; exact ⟨k, (Option.some.inj hi).symm⟩
    walk_at "go"
    have m1 := fm (i := z * 45007 + k.fmod 2147483353 + 59) (j := 2147483423) (by decide)
    exact ⟨⟨_, _, rfl, m1.1, by omega⟩, rfl⟩
  · rintro σ' H' ⟨⟨z, v, rfl, h1, h2⟩, rfl⟩
    have s1 : Same H (upd H p (.lst (ns.map V.int))) := Same.new hp
    refine ⟨_, rfl, _, rfl, a, _, rfl, s1.seq hS, fun p2 hp2 => ?_⟩
    rw [hc]
    have s2 := s1.trans (Same.new (o := .lst (ns.map V.int)) hp2)
    refine ⟨_, _, rfl, .inl (SqL.of upd_same), fun p3 hp3 => ?_⟩
    have s3 := s2.trans (Same.new (o := .lst (ns.map V.int)) hp3)
    walk_at "go"
    refine ⟨(by show 5 ≤ sizeLine; decide), fun p4 hp4 => ?_⟩
    have n4 : p3 ≠ p4 := ne_of_none upd_same hp4
    exact q ⟨p4, p3, ns⟩ _ (s3.trans (Same.new hp4)) ⟨⟨0, 0, z, 0, upd_same, by decide, by decide, h1, h2⟩, by rw [upd_ne n4]; exact upd_same, n4⟩ (s3.free hp4)
/-- one of some things -/
def spOf (K : PySem.W.Frag) : Sp := fun vs H Q _ => ∃ (B : Bg) (a : Addr) (xs : List V), vs = [.ref B.b, .ref a] ∧ SqL K H a xs ∧ a ≠ B.b ∧ 0 < xs.length ∧ xs.length ≤ 1000 ∧ Bag B H ∧ ∀ (i : Nat) (v : V) (H' : Hp), xs[i]? = some v → Bag B H' → Kb B.b H H' → Q v H'
theorem Kb.seq {g : Addr} {H H' : Hp} {a : Addr} {xs : List V} (e : Kb g H H') (n : a ≠ g) (h : SqL K H a xs) : SqL K H' a xs := by
  rcases h with (h | ⟨o, h⟩) | h
  · exact .inl (.inl (e _ _ h n))
  · exact .inl (.inr ⟨o, e _ _ h n⟩)
  · exact .inr h
theorem ok_pick (T : Tx K mg) : FnOk P w K mg base CX0 2 T.f_l_pick T.d_l_pick ["_law_bag", "_law_some"] (spOf K) := by
  have G_l_pull := ok_pull (P := P) (w := w) (base := base) T
  refine T.F_l_pick.ok sc_l_pick (fun vs H Q E h => ?_) (fun cdv A outer s H vs Q E hr h => ?_)
  · obtain ⟨B, a, xs, rfl, _⟩ := h
    rfl
  obtain ⟨B, a, xs, rfl, hS, hne, h0, h1, hB, q⟩ := h
  have nd := sc_l_pick.nd
  refine ⟨_, (pss_one (ps_ret (pe_ix (show IxR _ (rIxL K) from ix_list) (pv 1) (pe_call G_l_pull (hr.mono (by decide)) (by rfl) T.m_l_pull T.F_l_pull.kp T.b_l_pull .nil pass0 (pa_cons (pv 0) (pa_cons (pe_callB (show CallR _ _ (rLenSq K) from call_len_seq) (by rfl) T.z_len (by decide +kernel) (pa_cons (pv 1) pa_nil)) pa_nil))) (fun _ _ => rfl)))), ?_⟩
  refine ⟨_, rfl, _, rfl, _, rfl, _, _, rfl, .inl hS, B, _, rfl, by omega, Nat.lt_of_le_of_lt (by omega : ((xs.length : Int)).natAbs ≤ 1000) (by decide), hB, fun d H' d0 d1 hB' kb => ?_⟩
  have hk : d.toNat < xs.length := by omega
  refine ⟨_, _, _, xs[d.toNat], rfl, rfl, kb.seq hne hS, at_of (j := d.toNat) (by omega) (List.getElem?_eq_getElem hk), ?_⟩
  exact q d.toNat _ H' (List.getElem?_eq_getElem hk) hB' kb
/-! ### equal data -/
inductive DEq (K : PySem.W.Frag) (H : Hp) : Nat → V → V → Prop where
  | non {n : Nat} : DEq K H n .non .non
  | bl {n : Nat} (b : Bool) : DEq K H n (.bl b) (.bl b)
  | int {n : Nat} (i : Int) : DEq K H n (.int i) (.int i)
  | str {n : Nat} (x : Str) : DEq K H n (.str x) (.str x)
  | lst {n : Nat} {a b : Addr} {xs ys : List V} (h1 : SqL K H a xs) (h2 : SqL K H b ys) (hlen : xs.length ≤ 100000) (hl : xs.length = ys.length) (h : ∀ (i : Nat) (x y : V), xs[i]? = some x → ys[i]? = some y → DEq K H n x y) : DEq K H (n + 1) (.ref a) (.ref b)
  | tup {n : Nat} {a b : Addr} {xs ys : List V} (h1 : SqT K H a xs) (h2 : SqT K H b ys) (hlen : xs.length ≤ 100000) (hl : xs.length = ys.length) (h : ∀ (i : Nat) (x y : V), xs[i]? = some x → ys[i]? = some y → DEq K H n x y) : DEq K H (n + 1) (.ref a) (.ref b)
theorem DEq.same {n : Nat} {H H' : Hp} {x y : V} (h : DEq K H n x y) (s : Same H H') : DEq K H' n x y := by
  induction h with
  | non => exact .non
  | bl b => exact .bl b
  | int i => exact .int i
  | str x => exact .str x
  | lst h1 h2 hlen hl _ ih => exact .lst (s.seq h1) (s.seq h2) hlen hl ih
  | tup h1 h2 hlen hl _ ih => exact .tup (seqT s h1) (seqT s h2) hlen hl ih
end

end TL
namespace TL
open PySem PySem.Spec PyProof.Rows L2 PySem.W
/-! ### enumerate over a tuple -/
set_option maxHeartbeats 1000000 in
theorem enumT_new (t : Addr) (its : Array Value) : Meets (Builtin.«enumerate.__new__» ⟨[.type "enumerate", .ref t], []⟩) (fun _ R s => s.heap.IsTuple t its ∧
    R (.ok (.ret (.ref (s.heap.objs.size + 1)))) { s with heap := (s.heap.push { cls := .type "tuple_iterator", data := .fields #[.ref t, .int 0 0] }).push { cls := .type "enumerate", data := .fields #[.none, .bool false, .ref s.heap.objs.size, rawInt 0, .none, .none] } }) :=
  .of_wp fun prog w A R s h => by
    obtain ⟨h0, g, d, tk, os⟩ := s
    obtain ⟨hT, h⟩ := h
    have hz : (h0.push { cls := .type "tuple_iterator", data := .fields #[.ref t, .int 0 0] }).objs.size = h0.objs.size + 1 := Heap.size_push ..
    rw [← hz] at h
    have se := sub_enumerate
    have go : ∀ {A2 : Around} {E2 Q2 : Value → Shared → Prop}, Q2 (.ref h0.objs.size) ⟨h0.push { cls := .type "tuple_iterator", data := .fields #[.ref t, .int 0 0] }, g, d, tk, os⟩ → wpAny (model prog w) A2 (pyIter (.ref t)) Q2 E2 ⟨h0, g, d, tk, os⟩ :=
      fun k => wpAny_pyIter_tuple hT k
    wp_walk using go
    refine wpAny_stack_any fun _ => wpAny_pure ?_
    split
    · rename_i c _ _ _ _ _
      rcases hb : (c == Value.type "enumerate") <;> wp_walk using go <;> exact ⟨_, rfl, h⟩
    · wp_walk using go
      exact ⟨_, rfl, h⟩
theorem enumT_call {prog : Program} {w : World} {A : Around} {E Q : Value → Shared → Prop} {s : Shared} {t : Addr} {its : Array Value} (hT : s.heap.IsTuple t its)
    (k : ∀ h', IsEnum h' (s.heap.objs.size + 1) s.heap.objs.size 0 .none → h'.IsTupleIter s.heap.objs.size t 0 → (∀ b o, s.heap.get? b = some o → h'.get? b = some o) → Q (.ref (s.heap.objs.size + 1)) { s with heap := h' }) :
    wpAny (model prog w) A (call (.type "enumerate") [.ref t]) Q E s := by
  have hz : (s.heap.push { cls := .type "tuple_iterator", data := .fields #[.ref t, .int 0 0] }).objs.size = s.heap.objs.size + 1 := Heap.size_push ..
  have he := Heap.get?_push_size (s.heap.push { cls := .type "tuple_iterator", data := .fields #[.ref t, .int 0 0] }) (o := { cls := .type "enumerate", data := .fields #[.none, .bool false, .ref s.heap.objs.size, rawInt 0, .none, .none] }) rfl
  rw [hz] at he
  refine callType_new F.called_enumerate (by decide) (F.typeCall_enumerate_1 _) (F.newCall_enumerate_1 _) (fun o => F.args_object_init_2 o _) F.entry_enumerate_new (enumT_new t its) ⟨hT, ?_⟩
  exact ⟨⟨_, he, rfl⟩, k _ he ⟨_, Heap.get?_push_of_some _ (Heap.get?_push_size _ rfl), rfl, rfl⟩ fun b o z => Heap.get?_push_of_some _ (Heap.get?_push_of_some _ z)⟩
def IteT (K : PySem.W.Frag) (a : Addr) : It :=
  ⟨fun i H => ∃ xs x, SqT K H a xs ∧ xs[i]? = some x, fun i H v H' => ∃ T x, v = .ref T ∧ H T = none ∧ H' = upd H T (.tup [.int (i : Nat), x]) ∧ ∀ xs, SqT K H a xs → xs[i]? = some x, fun i H => ∃ xs, SqT K H a xs ∧ xs.length ≤ i⟩
theorem cls_ne {h : Heap} {a b : Addr} {S T : String} (p : ∃ o, h.get? a = some o ∧ o.cls = .type S) (q : ∃ o, h.get? b = some o ∧ o.cls = .type T) (n : S ≠ T) : a ≠ b := by
  rintro rfl
  obtain ⟨o, e1, e2⟩ := p
  obtain ⟨o', e3, e4⟩ := q
  rw [e1] at e3
  cases e3
  rw [e2] at e4
  cases e4
  exact n rfl
theorem turn_enumT {P : Program} {w : World} {K : PySem.W.Frag} {elts : List Expr} {kk : Nat} {tp : Pos} (a e it : Addr) :
    Turn P w K (.Tuple elts kk tp) (IteT K a) [e, it] e (fun i h => (∃ z, IsEnum h e it ((i : Nat) : Int) z) ∧ h.IsTupleIter it a i ∧ e ≠ it) where
  mem := List.mem_cons_self ..
  obj := fun i h st b hb => by
    obtain ⟨⟨z, he⟩, ⟨o, ho, _, hd⟩, _⟩ := st
    simp only [List.mem_cons, List.not_mem_nil, or_false] at hb
    rcases hb with rfl | rfl
    · exact ⟨_, he, fun v q => nomatch q⟩
    · refine ⟨o, ho, fun v q => ?_⟩
      rw [hd] at q
      cases q
  keep := fun i h h' st k => let ⟨⟨z, he⟩, hi, n⟩ := st; ⟨⟨z, k e (by simp) _ he⟩, hi.at fun o q => k it (by simp) o q, n⟩
  item := by
    intro X hP hw hK hc i pins s σ H E I hf st hg
    subst hP hw hK
    obtain ⟨⟨z, he⟩, hi, n⟩ := st
    obtain ⟨xs, x, hq, hx⟩ := hg
    obtain ⟨its, rv, p, hz⟩ := I.tuple hq
    obtain ⟨u, hu, ru⟩ := rv.get hx
    have hT : s.heap.IsTuple a its.toArray := p
    have cT : ∃ o, s.heap.get? a = some o ∧ o.cls = .type "tuple" := let ⟨o, e1, e2, _⟩ := hT; ⟨o, e1, e2⟩
    have cI : ∃ o, s.heap.get? it = some o ∧ o.cls = .type "tuple_iterator" := let ⟨o, e1, e2, _⟩ := hi; ⟨o, e1, e2⟩
    have ai : a ≠ it := cls_ne cT cI (by decide)
    have ea : e ≠ a := Ne.symm (cls_ne cT ⟨_, he, rfl⟩ (by decide))
    have le : e < s.heap.objs.size := Heap.lt_size he
    have li : it < s.heap.objs.size := let ⟨_, q, _⟩ := cI; Heap.lt_size q
    have hd1 : X.A.in1.handled = none := I.ok.hd hc
    refine wpAny_pyNext_enum_itemD (Draws.tuple hd1 it a ai its.toArray) he ⟨hi, hT⟩ (by
      have := (List.getElem?_eq_some_iff.mp hu).1
      simpa using this) n (by simp [n, ea]) fun y h' tk hy ho hst hT2 hsz hk => ?_
    obtain rfl : u = y := by
      have hy' : its[i]? = some y := by simpa using hy
      rw [hu] at hy'
      exact Option.some.inj hy'
    refine ⟨_, rfl, wpAny_letOwnedTupleGo_enum (s := { s with heap := h', toks := tk + 1 }) ho fun h2 he2 sb => ?_⟩
    have hT3 : h2.get? s.heap.objs.size = some { cls := .type "tuple", data := .seq #[.int i tk, u] } := (sb.2 _ (Nat.ne_of_gt le)).trans hT2
    have new : ObjOk X.prog X.w (upd H s.heap.objs.size (.tup [.int (i : Nat), x])) h2 s.heap.objs.size (.tup [.int (i : Nat), x]) :=
      ⟨(show 2 ≤ sizeLine by decide), [.int i tk, u], .cons ⟨_, rfl⟩ (.cons ru .nil), ⟨_, hT3, rfl, _, rfl⟩⟩
    have I1 : Inv X pins σ (upd H s.heap.objs.size (.tup [.int (i : Nat), x])) { s with heap := h2, toks := tk + 1 } :=
      I.turnedNew (ch := [e, it]) (fun b ob hb q => (sb.2 b fun c => hb (by simp [c])).trans (hk b ob (fun c => hb (by simp [c])) (fun c => hb (by simp [c])) q)) hf (Nat.le_refl _) new
    refine ⟨.ref s.heap.objs.size, _, I1, rfl, ⟨_, x, rfl, I.hok.fresh (Nat.le_refl _), rfl, fun ys hy => ?_⟩, ⟨⟨u, ?_⟩, hst.1.at fun o q => (sb.2 it (Ne.symm n)).trans q, n⟩, fun b hb => ?_⟩
    · rw [I.tuple_inj hy hq]
      exact hx
    · rw [show ((i + 1 : Nat) : Int) = (i : Int) + 1 by omega]
      exact he2
    · have lb : b < s.heap.objs.size := by
        simp only [List.mem_cons, List.not_mem_nil, or_false] at hb
        rcases hb with rfl | rfl <;> assumption
      rw [upd_ne (Nat.ne_of_lt lb)]
      exact (hf b hb).1
  done := by
    intro X hP hw hK hc i pins s σ H E I hf st hg
    subst hP hw hK
    obtain ⟨⟨z, he⟩, hi, n⟩ := st
    obtain ⟨xs, hq, hx⟩ := hg
    obtain ⟨its, rv, p, hz⟩ := I.tuple hq
    have hT : s.heap.IsTuple a its.toArray := p
    have cT : ∃ o, s.heap.get? a = some o ∧ o.cls = .type "tuple" := let ⟨o, e1, e2, _⟩ := hT; ⟨o, e1, e2⟩
    have cI : ∃ o, s.heap.get? it = some o ∧ o.cls = .type "tuple_iterator" := let ⟨o, e1, e2, _⟩ := hi; ⟨o, e1, e2⟩
    have ai : a ≠ it := cls_ne cT cI (by decide)
    obtain ⟨f0, f1, f2, f3, f4, f5⟩ := hf it (by simp)
    have hl := rv.length
    have hd1 : X.A.in1.handled = none := I.ok.hd hc
    have D0 : Draws X.prog X.w X.A.in1 it [it, a] i (fun _ _ => True) (fun j h => j = i ∧ h.IsTupleIter it a i ∧ h.IsTuple a its.toArray) := {
      live := fun _ _ st => let ⟨o, ho, _⟩ := st.2.1; ⟨o, ho⟩
      frame := fun _ _ _ st k => ⟨st.1, st.2.1.at fun o e => k it (by simp) o e, st.2.2.at fun o e => k a (by simp) o e⟩
      item := fun j s1 Q1 E1 hj st _ => absurd st.1 (Nat.ne_of_lt hj)
      done := fun s1 Q1 E1 st hE => wpAny_nextOf_tuple_end hd1 st.2.1 st.2.2 (by simp; omega) hE }
    exact wpAny_pyNext_enum_endD D0 he ⟨rfl, hi, hT⟩ fun h' eb => ⟨rfl, I.turned (t' := s.toks) (fun b o hb e => eb b o hb e) f0 f1 f3 f4 f5⟩
  self := fun A i s Q E st h => let ⟨⟨_, he⟩, _⟩ := st; wpAny_pyIter_enum he h
def iEnumT (K : PySem.W.Frag) (ta : TA) : TI := fun σ H R => ta σ H fun vs H1 => ∃ a, vs = [.ref a] ∧ (∃ xs, SqT K H1 a xs) ∧ R (IteT K a) H1
theorem pi_enumT {X : Cx} {e : Expr} {ta : TA} {p pos tp : Pos} {elts : List Expr} {kk : Nat} (hg : Gl X "enumerate") (hm : X.mg "enumerate" = none) (ha : PA X [e] ta) (hs : starEach [e] X.env = [(false, eval e X.env)] := by rfl) :
    PI X (.Tuple elts kk tp) (.Call (.Name "enumerate" p) [e] [] pos) (iEnumT X.K ta) := by
  refine ⟨fun pins s σ H R I h => Call_ (ld_blt I hg hm boot_enumerate (PyProof.Rows.callWith_type1 (thn (ha.run pos pins s σ H _ I h) fun us s1 ⟨vs, H1, I1, r1, q1⟩ => ?_) hs rfl))⟩
  obtain ⟨a, ex, ⟨xs, hq⟩, q⟩ := q1
  subst ex
  cases r1 with
  | cons r rr =>
    cases rr
    cases r
    obtain ⟨its, rv, pT, hz⟩ := I1.tuple hq
    refine enumT_call (show s1.heap.IsTuple a its.toArray from pT) fun h' he hi hk => wpAny_pyIter_enum he ?_
    refine ⟨s1.heap.objs.size + 1, [s1.heap.objs.size + 1, s1.heap.objs.size], _, _, H1, rfl, I1.kept (t' := s1.toks) hk, turn_enumT a (s1.heap.objs.size + 1) s1.heap.objs.size, ⟨⟨.none, he⟩, hi, Nat.succ_ne_self _⟩, fun b hb => ?_, q⟩
    have lb : s1.heap.objs.size ≤ b := by
      simp only [List.mem_cons, List.not_mem_nil, or_false] at hb
      rcases hb with z | z
      · exact z ▸ Nat.le_succ _
      · exact z ▸ Nat.le_refl _
    exact I1.fpOk lb (I1.hok.fresh lb)
theorem walk_enumT {K : PySem.W.Frag} {a : Addr} {xs : List V} : Walk (IteT K a) xs.length (fun H => SqT K H a xs) (YPair (fun i => some (.int (i : Nat))) (fun i => xs[i]?)) := by
  refine ⟨fun i _ hi q => ⟨xs, xs[i], q, by simp [hi]⟩, fun _ q => ⟨xs, q, Nat.le_refl _⟩, fun i H v H' _ q y => ?_⟩
  obtain ⟨T, x, e1, e2, e3, e4⟩ := y
  exact ⟨T, .int (i : Nat), x, e1, e2, e3, rfl, e4 xs q⟩
end TL
namespace TL
open PySem PySem.Spec PyProof.Rows L2
/-! ### a loop's iterator, read in one of two ways -/
def iEither (a b : TI) : TI := fun σ H R => a σ H R ∨ b σ H R
theorem pi_either {X : Cx} {tg e : Expr} {a b : TI} (ha : PI X tg e a) (hb : PI X tg e b) : PI X tg e (iEither a b) := by
  refine ⟨fun pins s σ H R I h => ?_⟩
  rcases h with h | h
  · exact ha.run pins s σ H R I h
  · exact hb.run pins s σ H R I h
end TL
namespace TL
open PySem PySem.Spec PyProof.Rows L2 PySem.W
/-! ### zip of a tuple and a list -/
theorem at_tuple {prog : Program} {w : World} {A : Around} (hh : A.handled = none) {it t : Addr} {h : Heap} {its : Array Value} {i : Nat} (hi : h.IsTupleIter it t i) (hT : h.IsTuple t its) (ne : t ≠ it) :
    ∃ n P St, Draws prog w A it [it, t] n P St ∧ St i h ∧ i ≤ n ∧ (its.size ≤ i → n = i) := by
  by_cases c : i ≤ its.size
  · exact ⟨_, _, _, Draws.tuple hh it t ne its, ⟨hi, hT⟩, c, fun z => Nat.le_antisymm z c⟩
  · refine ⟨i, fun _ _ => True, fun j g => j = i ∧ g.IsTupleIter it t i ∧ g.IsTuple t its, ⟨fun _ _ st => let ⟨o, ho, _⟩ := st.2.1; ⟨o, ho⟩, fun _ _ _ st k => ⟨st.1, st.2.1.at fun o e => k it (by simp) o e, st.2.2.at fun o e => k t (by simp) o e⟩, fun j _ _ _ hj st _ => absurd st.1 (Nat.ne_of_lt hj),
      fun _ _ _ st hE => wpAny_nextOf_tuple_end hh st.2.1 st.2.2 (Array.getElem?_eq_none (by omega)) hE⟩, ⟨rfl, hi, hT⟩, Nat.le_refl _, fun _ => rfl⟩
theorem at_list {prog : Program} {w : World} {A : Around} (hh : A.handled = none) {it t : Addr} {h : Heap} {its : Array Value} {i : Nat} (hi : h.IsListIter it t i) (hT : h.IsList t its) (ne : t ≠ it) :
    ∃ n P St, Draws prog w A it [it, t] n P St ∧ St i h ∧ i ≤ n ∧ (its.size ≤ i → n = i) := by
  by_cases c : i ≤ its.size
  · exact ⟨_, _, _, Draws.list hh it t ne its, ⟨hi, hT⟩, c, fun z => Nat.le_antisymm z c⟩
  · refine ⟨i, fun _ _ => True, fun j g => j = i ∧ g.IsListIter it t i ∧ g.IsList t its, ⟨fun _ _ st => let ⟨o, ho, _⟩ := st.2.1; ⟨o, ho⟩, fun _ _ _ st k => ⟨st.1, st.2.1.at fun o e => k it (by simp) o e, st.2.2.at fun o e => k t (by simp) o e⟩, fun j _ _ _ hj st _ => absurd st.1 (Nat.ne_of_lt hj),
      fun _ _ _ st hE => wpAny_nextOf_list_end hh st.2.1 st.2.2 (Array.getElem?_eq_none (by omega)) hE⟩, ⟨rfl, hi, hT⟩, Nat.le_refl _, fun _ => rfl⟩
def ItzM (K : PySem.W.Frag) (a b : Addr) : It :=
  ⟨fun i H => ∃ xs ys x y, SqT K H a xs ∧ SqL K H b ys ∧ xs[i]? = some x ∧ ys[i]? = some y,
    fun i H v H' => ∃ T x y, v = .ref T ∧ H T = none ∧ H' = upd H T (.tup [x, y]) ∧ (∀ xs, SqT K H a xs → xs[i]? = some x) ∧ ∀ ys, SqL K H b ys → ys[i]? = some y,
    fun i H => ∃ xs ys, SqT K H a xs ∧ SqL K H b ys ∧ (xs.length ≤ i ∨ ys.length ≤ i)⟩
theorem turn_zipM {P : Program} {w : World} {K : PySem.W.Frag} {elts : List Expr} {kk : Nat} {tp : Pos} {a b z TI TO i1 i2 : Addr} (S : ZipSep2 z TI TO i1 i2 [i1, a] [i2, b]) :
    Turn P w K (.Tuple elts kk tp) (ItzM K a b) [z, TI, TO, i1, i2] z (fun i h => IsZip h z TI TO .none ∧ IsPair h TI (.ref i1) (.ref i2) ∧ (∃ x y, IsPair h TO x y) ∧ h.IsTupleIter i1 a i ∧ h.IsListIter i2 b i) where
  mem := List.mem_cons_self ..
  obj := fun i h st c hc => by
    obtain ⟨hz, hTI, ⟨x, y, hTO⟩, ⟨o1, e1, _, d1⟩, ⟨o2, e2, _, d2⟩⟩ := st
    simp only [List.mem_cons, List.not_mem_nil, or_false] at hc
    rcases hc with rfl | rfl | rfl | rfl | rfl
    · exact ⟨_, hz, fun v q => nomatch q⟩
    · exact ⟨_, hTI, fun v q => nomatch q⟩
    · exact ⟨_, hTO, fun v q => nomatch q⟩
    · exact ⟨o1, e1, fun v q => by rw [d1] at q; cases q⟩
    · exact ⟨o2, e2, fun v q => by rw [d2] at q; cases q⟩
  keep := fun i h h' st k => by
    obtain ⟨hz, hTI, ⟨x, y, hTO⟩, e1, e2⟩ := st
    exact ⟨k z (by simp) _ hz, k TI (by simp) _ hTI, ⟨x, y, k TO (by simp) _ hTO⟩, e1.at fun o q => k i1 (by simp) o q, e2.at fun o q => k i2 (by simp) o q⟩
  item := by
    intro X hP hw hK hc i pins s σ H E I hf st hg
    subst hP hw hK
    obtain ⟨hz, hTI, ⟨x0, y0, hTO⟩, e1, e2⟩ := st
    obtain ⟨xs, ys, x, y, qx, qy, hx, hy⟩ := hg
    obtain ⟨t1, r1, p1, _⟩ := I.tuple qx
    obtain ⟨t2, r2, p2, _⟩ := I.list qy
    obtain ⟨u1, hu1, ru1⟩ := r1.get hx
    obtain ⟨u2, hu2, ru2⟩ := r2.get hy
    have hT : s.heap.IsTuple a t1.toArray := p1
    have hL : s.heap.IsList b t2.toArray := p2.isList
    have n1 : a ≠ i1 := cls_ne (let ⟨o, q1, q2, _⟩ := hT; ⟨o, q1, q2⟩) (let ⟨o, q1, q2, _⟩ := e1; ⟨o, q1, q2⟩) (by decide)
    have n2 : b ≠ i2 := cls_ne (let ⟨o, q1, q2, _⟩ := hL; ⟨o, q1, q2⟩) (let ⟨o, q1, q2, _⟩ := e2; ⟨o, q1, q2⟩) (by decide)
    have hh : X.A.in1.handled = none := I.ok.hd hc
    have lz : z < s.heap.objs.size := Heap.lt_size hz
    have l1 : i < t1.toArray.size := by simpa using (List.getElem?_eq_some_iff.mp hu1).1
    have l2 : i < t2.toArray.size := by simpa using (List.getElem?_eq_some_iff.mp hu2).1
    refine wpAny_pyNext_zipD2_item S (Draws.tuple hh i1 a n1 t1.toArray) (Draws.list hh i2 b n2 t2.toArray) hz hTI hTO ⟨e1, hT⟩ ⟨e2, hL⟩ l1 l2 fun v1 v2 h' tk g1 g2 z' TO' s1 s2 hT2 hsz hk => ?_
    obtain rfl : u1 = v1 := Option.some.inj (hu1.symm.trans (by simpa using g1))
    obtain rfl : u2 = v2 := Option.some.inj (hu2.symm.trans (by simpa using g2))
    refine ⟨_, rfl, wpAny_letOwnedTupleGo_zip (s := { s with heap := h', toks := tk }) z' fun h2 z2 sb => ?_⟩
    have hT3 : h2.get? s.heap.objs.size = some { cls := .type "tuple", data := .seq #[u1, u2] } := (sb.2 _ (Nat.ne_of_gt lz)).trans hT2
    have new : ObjOk X.prog X.w (upd H s.heap.objs.size (.tup [x, y])) h2 s.heap.objs.size (.tup [x, y]) := ⟨(show 2 ≤ sizeLine by decide), [u1, u2], .cons ru1 (.cons ru2 .nil), ⟨_, hT3, rfl, _, rfl⟩⟩
    have I1 : Inv X pins σ (upd H s.heap.objs.size (.tup [x, y])) { s with heap := h2, toks := tk } :=
      I.turnedNew (ch := [z, TI, TO, i1, i2]) (fun c o hb q => (sb.2 c fun q' => hb (by simp [q'])).trans (hk c o (fun q' => hb (by simp [q'])) (fun q' => hb (by simp [q'])) (fun q' => hb (by simp [q'])) (fun q' => hb (by simp [q'])) q)) hf (Nat.le_refl _) new
    have z1 : z ≠ i1 := S.zi1
    have z3 : z ≠ i2 := S.zi2
    refine ⟨.ref s.heap.objs.size, _, I1, rfl, ⟨_, x, y, rfl, I.hok.fresh (Nat.le_refl _), rfl, fun l hl => by rw [I.tuple_inj hl qx]; exact hx, fun l hl => by rw [I.list_inj hl qy]; exact hy⟩, ⟨z2, ?_, ⟨u1, u2, ?_⟩, ?_, ?_⟩, fun c hcm => ?_⟩
    · exact (sb.2 _ S.TIz).trans (hk _ _ S.TIz S.TITO S.TIi1 S.TIi2 hTI)
    · exact (sb.2 _ S.TOz).trans TO'
    · exact s1.1.at fun o q => (sb.2 _ (Ne.symm z1)).trans q
    · exact s2.1.at fun o q => (sb.2 _ (Ne.symm z3)).trans q
    · have lc : c < s.heap.objs.size := by
        simp only [List.mem_cons, List.not_mem_nil, or_false] at hcm
        rcases hcm with rfl | rfl | rfl | rfl | rfl
        · exact lz
        · exact Heap.lt_size hTI
        · exact Heap.lt_size hTO
        · obtain ⟨_, q, _⟩ := e1
          exact Heap.lt_size q
        · obtain ⟨_, q, _⟩ := e2
          exact Heap.lt_size q
      rw [upd_ne (Nat.ne_of_lt lc)]
      exact (hf c hcm).1
  done := by
    intro X hP hw hK hc i pins s σ H E I hf st hg
    subst hP hw hK
    obtain ⟨hz, hTI, ⟨x0, y0, hTO⟩, e1, e2⟩ := st
    obtain ⟨xs, ys, qx, qy, hend⟩ := hg
    obtain ⟨t1, r1, p1, _⟩ := I.tuple qx
    obtain ⟨t2, r2, p2, _⟩ := I.list qy
    have hT : s.heap.IsTuple a t1.toArray := p1
    have hL : s.heap.IsList b t2.toArray := p2.isList
    have n1 : a ≠ i1 := cls_ne (let ⟨o, q1, q2, _⟩ := hT; ⟨o, q1, q2⟩) (let ⟨o, q1, q2, _⟩ := e1; ⟨o, q1, q2⟩) (by decide)
    have n2 : b ≠ i2 := cls_ne (let ⟨o, q1, q2, _⟩ := hL; ⟨o, q1, q2⟩) (let ⟨o, q1, q2, _⟩ := e2; ⟨o, q1, q2⟩) (by decide)
    have hh : X.A.in1.handled = none := I.ok.hd hc
    have l1 := r1.length
    have l2 := r2.length
    obtain ⟨m1, P1, S1, D1, g1, k1, f1⟩ := at_tuple (prog := X.prog) (w := X.w) hh e1 hT n1
    obtain ⟨m2, P2, S2, D2, g2, k2, f2⟩ := at_list (prog := X.prog) (w := X.w) hh e2 hL n2
    refine wpAny_pyNext_zipD2_end S D1 D2 hz hTI hTO g1 g2 k1 k2 ?_ fun h' tk hk => ⟨rfl, I.turnedL (t' := tk) (ch := [z, TI, TO, i1, i2]) (fun c o hb q => hk c o (fun q' => hb (by simp [q'])) (fun q' => hb (by simp [q'])) (fun q' => hb (by simp [q'])) (fun q' => hb (by simp [q'])) q) hf⟩
    rcases hend with q | q
    · exact .inl (f1 (by simp; omega)).symm
    · exact .inr (f2 (by simp; omega)).symm
  self := fun A i s Q E st h => wpAny_pyIter_zip st.1 h
/-- zip of a tuple and a list or a tuple -/
def ZipOf (K : PySem.W.Frag) (H : Hp) (a b : Addr) (ys : List V) (J : It) : Prop := (SqL K H b ys ∧ J = ItzM K a b) ∨ (SqT K H b ys ∧ J = RZ.ItzT K a b)
def iZipP (K : PySem.W.Frag) (ta : TA) : TI := fun σ H R => ta σ H fun vs H1 => ∃ a b xs ys, vs = [.ref a, .ref b] ∧ SqT K H1 a xs ∧ Sq K H1 b ys ∧ ∀ J, ZipOf K H1 a b ys J → R J H1
theorem pi_zipP {X : Cx} {e e2 : Expr} {ta : TA} {p pos tp : Pos} {elts : List Expr} {kk : Nat} (hg : Gl X "zip") (hm : X.mg "zip" = none) (ha : PA X [e, e2] ta)
    (hs : starEach [e, e2] X.env = (false, eval e X.env) :: starEach [e2] X.env := by rfl) (hpl : (backTo pos (starEach [e2] X.env)).any (·.1) = false := by rfl) :
    PI X (.Tuple elts kk tp) (.Call (.Name "zip" p) [e, e2] [] pos) (iZipP X.K ta) := by
  refine ⟨fun pins s σ H R I h => Call_ (ld_blt I hg hm PyProof.Rows.boot_zip (PyProof.Rows.callWith_type1 (thn (ha.run pos pins s σ H _ I h) fun us s1 ⟨vs, H1, I1, r1, q1⟩ => ?_) hs hpl))⟩
  obtain ⟨a, b, xs, ys, ex, hqx, hqB, q1⟩ := q1
  subst ex
  cases r1 with
  | cons r rr =>
    cases rr with
    | cons r' rr =>
      cases rr
      cases r
      cases r'
      have fresh5 : ∀ c, c ∈ [s1.heap.objs.size + 4, s1.heap.objs.size + 2, s1.heap.objs.size + 3, s1.heap.objs.size, s1.heap.objs.size + 1] → FpOk X pins H1 c := fun c hcm => by
        simp only [List.mem_cons, List.not_mem_nil, or_false] at hcm
        have lc : s1.heap.objs.size ≤ c := by
          rcases hcm with z | z | z | z | z
          · exact z ▸ Nat.le_add_right _ _
          · exact z ▸ Nat.le_add_right _ _
          · exact z ▸ Nat.le_add_right _ _
          · exact z ▸ Nat.le_refl _
          · exact z ▸ Nat.le_add_right _ _
        exact I1.fpOk lc (I1.hok.fresh lc)
      obtain ⟨its, rv, p1, _⟩ := I1.tuple hqx
      obtain ⟨o1, ho1, _⟩ := id p1
      have hT : s1.heap.IsTuple a its.toArray := p1
      rcases hqB with hqy | hqy
      · obtain ⟨its2, rv2, p2, _⟩ := I1.list hqy
        have hL : s1.heap.IsList b its2.toArray := p2.isList
        obtain ⟨o2, ho2, _⟩ := id hL
        refine zip_begins2 (begins_tuple a its.toArray) (begins_list b its2.toArray) hT hL fun h' hz hTI hTO h1 h2 hsz hk => wpAny_pyIter_zip hz ?_
        have I2 : Inv X pins σ H1 { s1 with heap := h' } := I1.kept (t' := s1.toks) hk
        exact ⟨s1.heap.objs.size + 4, [s1.heap.objs.size + 4, s1.heap.objs.size + 2, s1.heap.objs.size + 3, s1.heap.objs.size, s1.heap.objs.size + 1], _, _, H1, rfl, I2,
          turn_zipM (zip_sep2 (fp1 := [a]) (fp2 := [b]) (fun c hc => by rw [List.mem_singleton.mp hc]; exact Heap.lt_size ho1) (fun c hc => by rw [List.mem_singleton.mp hc]; exact Heap.lt_size ho2)), ⟨hz, hTI, ⟨_, _, hTO⟩, ⟨_, h1, rfl, rfl⟩, ⟨_, h2, rfl, rfl⟩⟩, fresh5, q1 _ (.inl ⟨hqy, rfl⟩)⟩
      · obtain ⟨its2, rv2, p2, _⟩ := I1.tuple hqy
        obtain ⟨o2, ho2, _⟩ := id p2
        refine RZ.call_zipT hT (show s1.heap.IsTuple b its2.toArray from p2) fun h' hz hTI hTO h1 h2 hsz hk => wpAny_pyIter_zip hz ?_
        have I2 : Inv X pins σ H1 { s1 with heap := h' } := I1.kept (t' := s1.toks) hk
        exact ⟨s1.heap.objs.size + 4, [s1.heap.objs.size + 4, s1.heap.objs.size + 2, s1.heap.objs.size + 3, s1.heap.objs.size, s1.heap.objs.size + 1], _, _, H1, rfl, I2, RZ.turn_zipT (PySem.W.ktu_apart s1.heap.objs.size a b (Heap.lt_size ho1) (Heap.lt_size ho2)), ⟨hz, hTI, ⟨_, _, hTO⟩, h1, h2⟩, fresh5, q1 _ (.inr ⟨hqy, rfl⟩)⟩
theorem walk_zipM {K : PySem.W.Frag} {a b : Addr} {xs ys : List V} (h : xs.length = ys.length) : Walk (ItzM K a b) xs.length (fun H => SqT K H a xs ∧ SqL K H b ys) (YPair (fun i => xs[i]?) (fun i => ys[i]?)) := by
  refine ⟨fun i _ hi q => ⟨xs, ys, xs[i], ys[i]'(h ▸ hi), q.1, q.2, List.getElem?_eq_getElem hi, List.getElem?_eq_getElem (h ▸ hi)⟩, fun _ q => ⟨xs, ys, q.1, q.2, .inl (Nat.le_refl _)⟩, fun i H v H' _ q y => ?_⟩
  obtain ⟨T, x, y, e1, e2, e3, e4, e5⟩ := y
  exact ⟨T, x, y, e1, e2, e3, e4 xs q.1, e5 ys q.2⟩
theorem ZipOf.walk {K : PySem.W.Frag} {H : Hp} {a b : Addr} {xs ys : List V} {J : It} (z : ZipOf K H a b ys J) (hx : SqT K H a xs) (h : xs.length = ys.length) :
    ∃ G : Hp → Prop, Walk J xs.length G (YPair (fun i => xs[i]?) (fun i => ys[i]?)) ∧ ∀ H', Same H H' → G H' := by
  rcases z with ⟨hy, rfl⟩ | ⟨hy, rfl⟩
  · exact ⟨_, walk_zipM h, fun H' s => ⟨seqT s hx, s.seq hy⟩⟩
  · exact ⟨_, walk_zipT (by omega), fun H' s => ⟨seqT s hx, seqT s hy⟩⟩
end TL
namespace TL
/-! ### determinants: rows put behind one another, columns told as a list -/
abbrev Vec := Nat → Int
abbrev Frm := List Nat → Int
def sgA : Nat → Int
  | 0 => 1
  | n + 1 => - sgA n
theorem sgA_sq : ∀ n, sgA n * sgA n = 1
  | 0 => rfl
  | n + 1 => by
    show - sgA n * - sgA n = 1
    rw [Int.neg_mul_neg]
    exact sgA_sq n
def Wd (x : Vec) : List Nat → Frm → Int
  | [], _ => 0
  | c :: cs, F => Wd x cs (fun ds => F (c :: ds)) + sgA cs.length * x c * F cs
/-- a form, and one more row -/
def WFd (F : Frm) (x : Vec) : Frm := fun cs => Wd x cs F
def d0 : Frm
  | [] => 1
  | _ :: _ => 0
def DF (F : Frm) (rows : List Vec) : Frm := rows.foldl WFd F
def Dt (rows : List Vec) : Frm := DF d0 rows
theorem wd_add (x : Vec) : ∀ (cs : List Nat) (F G : Frm), Wd x cs (fun ds => F ds + G ds) = Wd x cs F + Wd x cs G
  | [], _, _ => rfl
  | c :: cs, F, G => by
    show Wd x cs (fun ds => F (c :: ds) + G (c :: ds)) + _ = _
    rw [wd_add x cs (fun ds => F (c :: ds)) (fun ds => G (c :: ds))]
    show _ = (Wd x cs (fun ds => F (c :: ds)) + sgA cs.length * x c * F cs) + (Wd x cs (fun ds => G (c :: ds)) + sgA cs.length * x c * G cs)
    rw [Int.mul_add]
    omega
theorem wd_mul (x : Vec) (k : Int) : ∀ (cs : List Nat) (F : Frm), Wd x cs (fun ds => k * F ds) = k * Wd x cs F
  | [], _ => by show 0 = k * 0; rw [Int.mul_zero]
  | c :: cs, F => by
    show Wd x cs (fun ds => k * F (c :: ds)) + sgA cs.length * x c * (k * F cs) = k * (Wd x cs (fun ds => F (c :: ds)) + sgA cs.length * x c * F cs)
    rw [wd_mul x k cs (fun ds => F (c :: ds)), Int.mul_add]
    congr 1
    grind
theorem wd_zero (x : Vec) (cs : List Nat) : Wd x cs (fun _ => 0) = 0 := by
  have := wd_mul x 0 cs (fun _ => 0)
  simpa using this
theorem wd_lin (x y : Vec) (k l : Int) : ∀ (cs : List Nat) (F : Frm), Wd (fun j => k * x j + l * y j) cs F = k * Wd x cs F + l * Wd y cs F
  | [], _ => by show 0 = k * 0 + l * 0; simp
  | c :: cs, F => by
    show Wd (fun j => k * x j + l * y j) cs (fun ds => F (c :: ds)) + sgA cs.length * (k * x c + l * y c) * F cs = k * (Wd x cs (fun ds => F (c :: ds)) + sgA cs.length * x c * F cs) + l * (Wd y cs (fun ds => F (c :: ds)) + sgA cs.length * y c * F cs)
    rw [wd_lin x y k l cs (fun ds => F (c :: ds))]
    grind
theorem wd_sg (y : Vec) : ∀ (cs : List Nat) (G : Frm), Wd y cs (fun ds => sgA ds.length * G ds) = - (sgA cs.length * Wd y cs G)
  | [], _ => by show 0 = - (1 * 0); decide
  | c :: cs, G => by
    show Wd y cs (fun ds => sgA (ds.length + 1) * G (c :: ds)) + sgA cs.length * y c * (sgA cs.length * G cs) = - (sgA (cs.length + 1) * (Wd y cs (fun ds => G (c :: ds)) + sgA cs.length * y c * G cs))
    have e : (fun ds : List Nat => sgA (ds.length + 1) * G (c :: ds)) = fun ds => (-1) * (sgA ds.length * G (c :: ds)) := by
      funext ds
      show - sgA ds.length * _ = _
      rw [Int.neg_mul, Int.neg_one_mul]
    rw [e, wd_mul, wd_sg y cs (fun ds => G (c :: ds))]
    have e2 : sgA (cs.length + 1) = - sgA cs.length := rfl
    rw [e2]
    grind
theorem wd_anti (x y : Vec) : ∀ (cs : List Nat) (F : Frm), Wd y cs (fun ds => Wd x ds F) = - Wd x cs (fun ds => Wd y ds F)
  | [], _ => rfl
  | c :: cs, F => by
    show Wd y cs (fun ds => Wd x ds (fun es => F (c :: es)) + sgA ds.length * x c * F ds) + sgA cs.length * y c * Wd x cs F = - (Wd x cs (fun ds => Wd y ds (fun es => F (c :: es)) + sgA ds.length * y c * F ds) + sgA cs.length * x c * Wd y cs F)
    have ex : ∀ (u : Vec), (fun ds : List Nat => sgA ds.length * u c * F ds) = fun ds => sgA ds.length * (u c * F ds) := fun u => by
      funext ds
      rw [Int.mul_assoc]
    rw [wd_add y cs (fun ds => Wd x ds (fun es => F (c :: es))) (fun ds => sgA ds.length * x c * F ds), wd_add x cs (fun ds => Wd y ds (fun es => F (c :: es))) (fun ds => sgA ds.length * y c * F ds),
      ex x, ex y, wd_sg, wd_sg, wd_mul, wd_mul, wd_anti x y cs (fun es => F (c :: es))]
    grind
theorem wd_twice (x : Vec) (cs : List Nat) (F : Frm) : Wd x cs (fun ds => Wd x ds F) = 0 := by
  have := wd_anti x x cs F
  omega
theorem wd_block {x : Vec} {j : Nat} : ∀ {cs : List Nat} {F : Frm}, (∀ c ∈ cs, x c = 0) → Wd x (cs ++ [j]) F = x j * F cs
  | [], F, _ => by
    show 0 + 1 * x j * F [] = _
    grind
  | c :: cs, F, h => by
    show Wd x (cs ++ [j]) (fun ds => F (c :: ds)) + _ * x c * _ = _
    rw [wd_block (F := fun ds => F (c :: ds)) fun d hd => h d (List.mem_cons_of_mem _ hd), h c (List.mem_cons_self ..)]
    simp
theorem wd_block2 {x : Vec} {i j : Nat} : ∀ {cs : List Nat} {F : Frm}, (∀ c ∈ cs, x c = 0) → Wd x (cs ++ [i, j]) F = x j * F (cs ++ [i]) - x i * F (cs ++ [j])
  | [], F, _ => by
    show (0 + 1 * x j * F [i]) + (-1) * x i * F [j] = x j * F [i] - x i * F [j]
    grind
  | c :: cs, F, h => by
    show Wd x (cs ++ [i, j]) (fun ds => F (c :: ds)) + _ * x c * _ = _
    rw [wd_block2 (F := fun ds => F (c :: ds)) fun d hd => h d (List.mem_cons_of_mem _ hd), h c (List.mem_cons_self ..)]
    simp
theorem wd_last {x : Vec} {j : Nat} : ∀ {cs : List Nat} {F : Frm}, Wd x (cs ++ [j]) F = x j * F cs - Wd x cs (fun ds => F (ds ++ [j]))
  | [], F => by
    show 0 + 1 * x j * F [] = x j * F [] - 0
    grind
  | c :: cs, F => by
    show Wd x (cs ++ [j]) (fun ds => F (c :: ds)) + sgA (cs ++ [j]).length * x c * F (cs ++ [j]) = x j * F (c :: cs) - (Wd x cs (fun ds => F (c :: (ds ++ [j]))) + sgA cs.length * x c * F (cs ++ [j]))
    rw [wd_last (F := fun ds => F (c :: ds))]
    have e : sgA (cs ++ [j]).length = - sgA cs.length := by
      rw [List.length_append]
      rfl
    rw [e]
    grind
/-! ### sums -/
def sumN : Nat → (Nat → Int) → Int
  | 0, _ => 0
  | n + 1, f => sumN n f + f n
theorem sumN_congr {n : Nat} {f g : Nat → Int} (h : ∀ t, t < n → f t = g t) : sumN n f = sumN n g := by
  induction n with
  | zero => rfl
  | succ n ih =>
    show sumN n f + f n = sumN n g + g n
    rw [ih fun t ht => h t (by omega), h n (by omega)]
theorem sumN_zero {n : Nat} : sumN n (fun _ => 0) = 0 := by
  induction n with
  | zero => rfl
  | succ n ih =>
    show sumN n _ + 0 = 0
    rw [ih]
    rfl
theorem sumN_mul {n : Nat} (k : Int) (f : Nat → Int) : sumN n (fun t => k * f t) = k * sumN n f := by
  induction n with
  | zero => exact (Int.mul_zero k).symm
  | succ n ih =>
    show sumN n _ + k * f n = k * (sumN n f + f n)
    rw [ih, Int.mul_add]
theorem sumN_add {n : Nat} (f g : Nat → Int) : sumN n (fun t => f t + g t) = sumN n f + sumN n g := by
  induction n with
  | zero => rfl
  | succ n ih =>
    show sumN n _ + (f n + g n) = (sumN n f + f n) + (sumN n g + g n)
    rw [ih]
    omega
theorem wd_sum (x : Vec) (cs : List Nat) (n : Nat) (k : Nat → Int) (G : Nat → Frm) : Wd x cs (fun ds => sumN n (fun t => k t * G t ds)) = sumN n (fun t => k t * Wd x cs (G t)) := by
  induction n with
  | zero => exact wd_zero x cs
  | succ n ih =>
    show Wd x cs (fun ds => sumN n (fun t => k t * G t ds) + k n * G n ds) = sumN n _ + k n * Wd x cs (G n)
    rw [wd_add, ih, wd_mul]
/-- a row put together -/
theorem wd_comb (A : Nat → Vec) (m : Nat → Int) (n : Nat) (cs : List Nat) (F : Frm) : Wd (fun j => sumN n (fun t => A t j * m t)) cs F = sumN n (fun t => m t * Wd (A t) cs F) := by
  induction n with
  | zero =>
    have := wd_lin (fun _ => 0) (fun _ => 0) 0 0 cs F
    simp only [Int.zero_mul, Int.add_zero] at this
    exact this
  | succ n ih =>
    have e : (fun j => sumN (n + 1) (fun t => A t j * m t)) = fun j => 1 * sumN n (fun t => A t j * m t) + m n * A n j := by
      funext j
      show sumN n _ + A n j * m n = _
      rw [Int.one_mul, Int.mul_comm (A n j)]
    rw [e, wd_lin (fun j => sumN n (fun t => A t j * m t)) (A n) 1 (m n), ih]
    show _ = sumN n _ + _
    rw [Int.one_mul]
/-! ### rows and their forms -/
def rw_ (A : List Vec) (t : Nat) : Vec := A.getD t (fun _ => 0)
theorem rw_app {A B : List Vec} {t : Nat} (h : t < A.length) : rw_ (A ++ B) t = rw_ A t := by
  unfold rw_
  rw [List.getD_eq_getElem?_getD, List.getElem?_append_left h, ← List.getD_eq_getElem?_getD]
theorem rw_last {A : List Vec} {x : Vec} : rw_ (A ++ [x]) A.length = x := by
  unfold rw_
  rw [List.getD_eq_getElem?_getD, List.getElem?_append_right (Nat.le_refl _), Nat.sub_self]
  rfl
theorem df_snoc (F : Frm) (A : List Vec) (x : Vec) : DF F (A ++ [x]) = WFd (DF F A) x := by
  unfold DF
  rw [List.foldl_append]
  rfl
theorem dt_snoc (A : List Vec) (x : Vec) : Dt (A ++ [x]) = WFd (Dt A) x := df_snoc ..
theorem df_app (F : Frm) (A B : List Vec) : DF F (A ++ B) = DF (DF F A) B := by
  unfold DF
  rw [List.foldl_append]
theorem df_zero (A : List Vec) : DF (fun _ => 0) A = fun _ => 0 := by
  induction A with
  | nil => rfl
  | cons x A ih =>
    show DF (WFd (fun _ => 0) x) A = _
    have : WFd (fun _ => 0) x = fun _ => 0 := by
      funext cs
      exact wd_zero x cs
    rw [this, ih]
/-- induction from behind -/
theorem rev_ind {α : Type} {P : List α → Prop} (h0 : P []) (h1 : ∀ A x, P A → P (A ++ [x])) : ∀ A, P A := fun A => by
  have : ∀ n (A : List α), A.length = n → P A := by
    intro n
    induction n with
    | zero =>
      intro A h
      rw [List.eq_nil_of_length_eq_zero h]
      exact h0
    | succ n ih =>
      intro A h
      have hne : A ≠ [] := fun z => by rw [z] at h; cases h
      rw [← List.dropLast_concat_getLast hne]
      exact h1 _ _ (ih _ (by rw [List.length_dropLast]; omega))
  exact this _ A rfl
theorem df_again (F : Frm) (a : Vec) : ∀ A : List Vec, WFd (DF (WFd F a) A) a = fun _ => 0 := by
  refine rev_ind ?_ ?_
  · funext cs
    exact wd_twice a cs F
  · intro A y ih
    rw [df_snoc]
    funext cs
    show Wd a cs (fun ds => Wd y ds (DF (WFd F a) A)) = 0
    rw [wd_anti]
    have : (fun ds => Wd a ds (DF (WFd F a) A)) = fun _ => 0 := ih
    rw [this, wd_zero]
    rfl
/-- a row that is there already -/
theorem dt_mem {A : List Vec} {x : Vec} (h : x ∈ A) : Dt (A ++ [x]) = fun _ => 0 := by
  obtain ⟨A1, A2, rfl⟩ := List.append_of_mem h
  rw [dt_snoc]
  unfold Dt
  rw [df_app]
  exact df_again _ x A2
theorem rw_mem {A : List Vec} {t : Nat} (h : t < A.length) : rw_ A t ∈ A := by
  unfold rw_
  rw [List.getD_eq_getElem?_getD, List.getElem?_eq_getElem h]
  exact List.getElem_mem h
/-- expansion along the last column -/
theorem dt_col : ∀ A : List Vec, ∃ G : Nat → Frm, ∀ ds j, Dt A (ds ++ [j]) = sumN A.length (fun t => rw_ A t j * G t ds) := by
  refine rev_ind ?_ ?_
  · refine ⟨fun _ _ => 0, fun ds j => ?_⟩
    show d0 (ds ++ [j]) = 0
    cases ds <;> rfl
  · rintro A x ⟨G, h⟩
    refine ⟨fun t ds => if t = A.length then Dt A ds else - Wd x ds (G t), fun ds j => ?_⟩
    rw [dt_snoc]
    show Wd x (ds ++ [j]) (Dt A) = _
    rw [wd_last]
    have e : (fun es => Dt A (es ++ [j])) = fun es => sumN A.length (fun t => rw_ A t j * G t es) := by
      funext es
      exact h es j
    rw [e, wd_sum, List.length_append]
    show _ = sumN A.length _ + _
    dsimp only
    rw [rw_last, if_pos rfl]
    have e2 : sumN A.length (fun t => rw_ (A ++ [x]) t j * (if t = A.length then Dt A ds else - Wd x ds (G t))) = sumN A.length (fun t => (-1) * (rw_ A t j * Wd x ds (G t))) := sumN_congr fun t ht => by
      rw [rw_app ht, if_neg (by omega)]
      grind
    rw [e2, sumN_mul]
    omega
theorem dt_colS (A : List Vec) (x : Vec) : ∃ G : Nat → Frm, ∀ ds j, Dt (A ++ [x]) (ds ++ [j]) = x j * Dt A ds + sumN A.length (fun t => rw_ A t j * G t ds) := by
  obtain ⟨G, h⟩ := dt_col A
  refine ⟨fun t ds => - Wd x ds (G t), fun ds j => ?_⟩
  rw [dt_snoc]
  show Wd x (ds ++ [j]) (Dt A) = _
  rw [wd_last]
  have e : (fun es => Dt A (es ++ [j])) = fun es => sumN A.length (fun t => rw_ A t j * G t es) := by
    funext es
    exact h es j
  rw [e, wd_sum]
  have e2 : sumN A.length (fun t => rw_ A t j * - Wd x ds (G t)) = sumN A.length (fun t => (-1) * (rw_ A t j * Wd x ds (G t))) := sumN_congr fun t _ => by grind
  rw [e2, sumN_mul]
  omega
/-- the last row may be changed by the others -/
theorem dt_red {A : List Vec} {b v : Vec} {d : Int} {m : Nat → Int} (h : ∀ j, v j = d * b j + sumN A.length (fun t => rw_ A t j * m t)) (cs : List Nat) : Dt (A ++ [v]) cs = d * Dt (A ++ [b]) cs := by
  have e : v = fun j => d * b j + 1 * sumN A.length (fun t => rw_ A t j * m t) := by
    funext j
    rw [Int.one_mul]
    exact h j
  rw [dt_snoc, dt_snoc]
  show Wd v cs (Dt A) = d * Wd b cs (Dt A)
  rw [e, wd_lin b (fun j => sumN A.length (fun t => rw_ A t j * m t)) d 1, wd_comb]
  have e2 : sumN A.length (fun t => m t * Wd (rw_ A t) cs (Dt A)) = sumN A.length (fun _ => 0) := sumN_congr fun t ht => by
    have : Dt (A ++ [rw_ A t]) cs = 0 := congrFun (dt_mem (rw_mem ht)) cs
    rw [dt_snoc] at this
    have this : Wd (rw_ A t) cs (Dt A) = 0 := this
    rw [this, Int.mul_zero]
  rw [e2, sumN_zero]
  omega
/-- Bareiss' step: what is divided, and by what -/
theorem bareiss {A : List Vec} {a b u v : Vec} {C : List Nat} {mu mv : Nat → Int} (hd : Dt A C ≠ 0) (hu : ∀ j, u j = Dt A C * a j + sumN A.length (fun t => rw_ A t j * mu t)) (hv : ∀ j, v j = Dt A C * b j + sumN A.length (fun t => rw_ A t j * mv t))
    (zu : ∀ c ∈ C, u c = 0) (zv : ∀ c ∈ C, v c = 0) (c j : Nat) : u c = Dt (A ++ [a]) (C ++ [c]) ∧ u c * v j - v c * u j = Dt A C * Dt ((A ++ [a]) ++ [b]) ((C ++ [c]) ++ [j]) := by
  have k1 : ∀ i, u i * Dt A C = Dt A C * Dt (A ++ [a]) (C ++ [i]) := fun i => by
    rw [← dt_red hu (C ++ [i]), dt_snoc]
    exact (wd_block zu).symm
  have k2 : ∀ i, u i = Dt (A ++ [a]) (C ++ [i]) := fun i => Int.eq_of_mul_eq_mul_left hd (by rw [← k1 i, Int.mul_comm])
  refine ⟨k2 c, ?_⟩
  -- v behind A and a
  have hv' : ∀ j, v j = Dt A C * b j + sumN (A ++ [a]).length (fun t => rw_ (A ++ [a]) t j * (if t = A.length then 0 else mv t)) := fun j => by
    rw [hv j, List.length_append]
    show _ = _ + (sumN A.length _ + _)
    dsimp only
    rw [if_pos rfl, Int.mul_zero, Int.add_zero]
    congr 1
    exact sumN_congr fun t ht => by rw [rw_app ht, if_neg (by omega)]
  have e1 := dt_red hv' ((C ++ [c]) ++ [j])
  have e2 : Dt ((A ++ [a]) ++ [v]) ((C ++ [c]) ++ [j]) = v j * Dt (A ++ [a]) (C ++ [c]) - v c * Dt (A ++ [a]) (C ++ [j]) := by
    rw [dt_snoc, List.append_assoc]
    exact wd_block2 zv
  rw [e2, ← k2 c, ← k2 j] at e1
  have e3 : u c * v j - v c * u j = v j * u c - v c * u j := by rw [Int.mul_comm (u c)]
  rw [e3, e1]
end TL
namespace TL
/-! ### the clearing of a matrix, as the program does it -/
def ffrom (M : List (List Int)) (c : Nat) : Nat → Nat → Option Nat
  | _, 0 => none
  | i, n + 1 => if (M.getD i []).getD c 0 ≠ 0 then some i else ffrom M c (i + 1) n
def swapR (M : List (List Int)) (i j : Nat) : List (List Int) := (M.set i (M.getD j [])).set j (M.getD i [])
def redRow (last : Int) (head : List Int) (c : Nat) (row : List Int) : List Int :=
  List.zipWith (fun own top => (head.getD c 0 * own - row.getD c 0 * top).fdiv last) row head
/-- the rows from r + 1 up to k are reduced -/
def redTo (last : Int) (head : List Int) (c r k : Nat) (M : List (List Int)) : List (List Int) :=
  M.mapIdx fun i row => if r < i ∧ i < k then redRow last head c row else row
abbrev CSt := List (List Int) × Nat × Int × Int
def pivM (M : List (List Int)) (r f : Nat) : List (List Int) := if f = r then M else swapR M r f
def stepC (c : Nat) (s : CSt) : CSt :=
  match ffrom s.1 c s.2.1 (s.1.length - s.2.1) with
  | none => s
  | some f =>
    let M1 := pivM s.1 s.2.1 f
    let head := M1.getD s.2.1 []
    (redTo s.2.2.2 head c s.2.1 M1.length M1, s.2.1 + 1, if f = s.2.1 then s.2.2.1 else - s.2.2.1, head.getD c 0)
def clrN (M : List (List Int)) : Nat → CSt
  | 0 => (M, 0, 1, 1)
  | c + 1 => stepC c (clrN M c)
def widthOf (M : List (List Int)) : Nat := (M.getD 0 []).length
def clrRank (M : List (List Int)) : Nat := (clrN M (widthOf M)).2.1
def clrDet (M : List (List Int)) : Int := (clrN M (widthOf M)).2.2.1 * (clrN M (widthOf M)).2.2.2
/-! ### sizes -/
def Ent (b : Nat) (M : List (List Int)) : Prop := ∀ row ∈ M, ∀ x ∈ row, x.natAbs < 2 ^ b
def RowsW (w : Nat) (M : List (List Int)) : Prop := ∀ row ∈ M, row.length = w
def bk (E : Nat) : Nat → Nat
  | 0 => E
  | k + 1 => 2 * bk E k + 1
theorem fdiv_le (a d : Int) (hd : d ≠ 0) : (a.fdiv d).natAbs ≤ a.natAbs := by
  have h := Int.mul_fdiv_add_fmod a d
  have hq : ∀ q r : Int, d * q + r = a → (0 < d → 0 ≤ r ∧ r < d) → (d < 0 → d < r ∧ r ≤ 0) → q.natAbs ≤ a.natAbs := by
    intro q r e p1 p2
    rcases Int.lt_or_gt_of_ne hd with c | c
    · obtain ⟨r1, r2⟩ := p2 c
      rcases Int.lt_trichotomy q 0 with z | z | z
      · have : (-d) * (-q) ≥ 1 * (-q) := Int.mul_le_mul_of_nonneg_right (by omega) (by omega)
        rw [Int.neg_mul_neg] at this
        have h2 : d * q = d * (q + 1) - d := by rw [Int.mul_add]; omega
        have h3 : 0 ≤ d * (q + 1) := Int.mul_nonneg_of_nonpos_of_nonpos (by omega) (by omega)
        have h4 : (-d) * (-(q + 1)) ≥ 1 * (-(q + 1)) := Int.mul_le_mul_of_nonneg_right (by omega) (by omega)
        rw [Int.neg_mul_neg] at h4
        omega
      · omega
      · have : (-d) * q ≥ 1 * q := Int.mul_le_mul_of_nonneg_right (by omega) (by omega)
        rw [Int.neg_mul] at this
        omega
    · obtain ⟨r1, r2⟩ := p1 c
      rcases Int.lt_trichotomy q 0 with z | z | z
      · have h2 : d * q = d * (q + 1) - d := by rw [Int.mul_add]; omega
        have h4 : d * (-(q + 1)) ≥ 1 * (-(q + 1)) := Int.mul_le_mul_of_nonneg_right (by omega) (by omega)
        rw [Int.mul_neg] at h4
        omega
      · omega
      · have : d * q ≥ 1 * q := Int.mul_le_mul_of_nonneg_right (by omega) (by omega)
        omega
  exact hq _ _ h (fun c => ⟨Int.fmod_nonneg_of_pos a c, Int.fmod_lt_of_pos a c⟩) fun c => by
    have h1 := Int.fmod_nonneg_of_pos (-a) (b := -d) (by omega)
    have h2 := Int.fmod_lt_of_pos (-a) (b := -d) (by omega)
    have h3 : (-a).fmod (-d) = - a.fmod d := Int.neg_fmod_neg ..
    omega
theorem len_swap (M : List (List Int)) (i j : Nat) : (swapR M i j).length = M.length := by simp [swapR]
theorem len_piv (M : List (List Int)) (r f : Nat) : (pivM M r f).length = M.length := by
  unfold pivM
  split
  · rfl
  · exact len_swap ..
theorem len_red (l : Int) (h : List Int) (c r k : Nat) (M : List (List Int)) : (redTo l h c r k M).length = M.length := by simp [redTo]
theorem red_at (l : Int) (h : List Int) (c r k : Nat) (M : List (List Int)) (i : Nat) : (redTo l h c r k M)[i]? = M[i]?.map fun row => if r < i ∧ i < k then redRow l h c row else row := by
  unfold redTo
  rw [List.getElem?_mapIdx]
theorem red_start (l : Int) (h : List Int) (c r : Nat) (M : List (List Int)) : redTo l h c r (r + 1) M = M := by
  apply List.ext_getElem?
  intro i
  rw [red_at]
  have : ¬ (r < i ∧ i < r + 1) := by omega
  simp only [if_neg this]
  cases M[i]? <;> rfl
theorem red_step {l : Int} {h : List Int} {c r k : Nat} {M : List (List Int)} {row : List Int} (hr : r < k) (hk : M[k]? = some row) : redTo l h c r (k + 1) M = (redTo l h c r k M).set k (redRow l h c row) := by
  apply List.ext_getElem?
  intro i
  rw [red_at, List.getElem?_set]
  have hlen : k < M.length := (List.getElem?_eq_some_iff.mp hk).1
  by_cases e : k = i
  · subst e
    rw [if_pos rfl, if_pos (by rw [len_red]; exact hlen), hk]
    simp only [Option.map_some]
    rw [if_pos ⟨hr, by omega⟩]
  · rw [if_neg e, red_at]
    cases M[i]? with
    | none => rfl
    | some z =>
      simp only [Option.map_some]
      by_cases d : r < i ∧ i < k
      · rw [if_pos d, if_pos ⟨d.1, by omega⟩]
      · rw [if_neg d, if_neg (by omega)]
theorem red_keep {l : Int} {h : List Int} {c r k : Nat} {M : List (List Int)} {i : Nat} (hi : i ≤ r ∨ k ≤ i) : (redTo l h c r k M)[i]? = M[i]? := by
  rw [red_at]
  have : ¬ (r < i ∧ i < k) := by omega
  simp only [if_neg this]
  cases M[i]? <;> rfl
theorem ffrom_some {M : List (List Int)} {c : Nat} : ∀ {n i f : Nat}, ffrom M c i n = some f → i ≤ f ∧ f < i + n ∧ (M.getD f []).getD c 0 ≠ 0
  | 0, i, f, h => by cases h
  | n + 1, i, f, h => by
    unfold ffrom at h
    split at h
    · cases h
      exact ⟨Nat.le_refl _, by omega, by assumption⟩
    · have := ffrom_some h
      exact ⟨by omega, by omega, this.2.2⟩
theorem getD_mem {M : List (List Int)} {i : Nat} (h : i < M.length) : M.getD i [] ∈ M := by
  rw [List.getD_eq_getElem?_getD, List.getElem?_eq_getElem h]
  exact List.getElem_mem h
theorem getD_some {M : List (List Int)} {i : Nat} (h : i < M.length) : M[i]? = some (M.getD i []) := by
  rw [List.getD_eq_getElem?_getD, List.getElem?_eq_getElem h]
  rfl
theorem swap_mem {M : List (List Int)} {i j : Nat} (hi : i < M.length) (hj : j < M.length) : ∀ x ∈ swapR M i j, x ∈ M := fun x hx => by
  unfold swapR at hx
  rcases List.mem_or_eq_of_mem_set hx with h | h
  · rcases List.mem_or_eq_of_mem_set h with h | h
    · exact h
    · rw [h]
      exact getD_mem hj
  · rw [h]
    exact getD_mem hi
theorem piv_mem {M : List (List Int)} {r f : Nat} (hr : r < M.length) (hf : f < M.length) : ∀ x ∈ pivM M r f, x ∈ M := fun x hx => by
  unfold pivM at hx
  split at hx
  · exact hx
  · exact swap_mem hr hf x hx
theorem piv_at {M : List (List Int)} {r f : Nat} (hr : r < M.length) (hf : f < M.length) : (pivM M r f)[r]? = some (M.getD f []) := by
  unfold pivM
  split
  · rename_i e
    rw [e]
    exact getD_some hr
  · rename_i e
    unfold swapR
    rw [List.getElem?_set_ne e, List.getElem?_set_self hr]
theorem getD_of {M : List (List Int)} {i : Nat} {row : List Int} (h : M[i]? = some row) : M.getD i [] = row := by
  rw [List.getD_eq_getElem?_getD, h]
  rfl
theorem abs2 {p q u v : Int} {b : Nat} (a1 : p.natAbs < 2 ^ b) (a2 : q.natAbs < 2 ^ b) (a3 : u.natAbs < 2 ^ b) (a4 : v.natAbs < 2 ^ b) : (p * u - q * v).natAbs < 2 ^ (2 * b + 1) := by
  have m1 : (p * u).natAbs < 2 ^ b * 2 ^ b := by
    rw [Int.natAbs_mul]
    exact Nat.mul_lt_mul'' a1 a3
  have m2 : (q * v).natAbs < 2 ^ b * 2 ^ b := by
    rw [Int.natAbs_mul]
    exact Nat.mul_lt_mul'' a2 a4
  have e : 2 ^ (2 * b + 1) = 2 ^ b * 2 ^ b + 2 ^ b * 2 ^ b := by
    rw [Nat.pow_succ, Nat.two_mul, Nat.pow_add]
    omega
  rw [e]
  omega
theorem red_row_ent {b : Nat} {l : Int} {h row : List Int} {c : Nat} (hl : l ≠ 0) (hh : ∀ x ∈ h, x.natAbs < 2 ^ b) (hr : ∀ x ∈ row, x.natAbs < 2 ^ b) : ∀ x ∈ redRow l h c row, x.natAbs < 2 ^ (2 * b + 1) := by
  have g : ∀ (xs : List Int), (∀ x ∈ xs, x.natAbs < 2 ^ b) → (xs.getD c 0).natAbs < 2 ^ b := fun xs hx => by
    rw [List.getD_eq_getElem?_getD]
    rcases Nat.lt_or_ge c xs.length with z | z
    · rw [List.getElem?_eq_getElem z]
      exact hx _ (List.getElem_mem z)
    · rw [List.getElem?_eq_none z]
      exact Nat.pow_pos (by decide)
  intro x hx
  obtain ⟨i, hi, rfl⟩ := List.mem_iff_getElem.mp hx
  unfold redRow at hi ⊢
  rw [List.getElem_zipWith]
  refine Nat.lt_of_le_of_lt (fdiv_le _ _ hl) ?_
  simp only [List.length_zipWith] at hi
  have a1 := g h hh
  have a2 := g row hr
  have a3 := hr row[i] (List.getElem_mem _)
  have a4 := hh h[i] (List.getElem_mem _)
  exact abs2 a1 a2 a3 a4
theorem red_ent {b : Nat} {l : Int} {h : List Int} {c r k : Nat} {M : List (List Int)} (hl : l ≠ 0) (hh : ∀ x ∈ h, x.natAbs < 2 ^ b) (hM : Ent b M) : Ent (2 * b + 1) (redTo l h c r k M) := fun row hrow => by
  obtain ⟨i, e⟩ := List.mem_iff_getElem?.mp hrow
  rw [red_at] at e
  obtain ⟨z, hz, rfl⟩ := Option.map_eq_some_iff.mp e
  have hz' := hM z (List.mem_of_getElem? hz)
  split
  · exact red_row_ent hl hh hz'
  · intro x hx
    exact Nat.lt_of_lt_of_le (hz' x hx) (Nat.pow_le_pow_right (by decide) (by omega))
theorem red_rows {w : Nat} {l : Int} {h : List Int} {c r k : Nat} {M : List (List Int)} (hh : h.length = w) (hM : RowsW w M) : RowsW w (redTo l h c r k M) := fun row hrow => by
  obtain ⟨i, e⟩ := List.mem_iff_getElem?.mp hrow
  rw [red_at] at e
  obtain ⟨z, hz, rfl⟩ := Option.map_eq_some_iff.mp e
  have hz' := hM z (List.mem_of_getElem? hz)
  split
  · simp [redRow, hz', hh]
  · exact hz'
/-- what holds behind each column -/
structure ClrI (E n w : Nat) (s : CSt) : Prop where
  len : s.1.length = n
  rows : RowsW w s.1
  ent : Ent (bk E s.2.1) s.1
  le : s.2.1 ≤ n
  nz : s.2.2.2 ≠ 0
  sm : s.2.2.2.natAbs < 2 ^ bk E s.2.1
theorem bk_pos (E : Nat) (hE : 0 < E) : ∀ k, 0 < bk E k
  | 0 => hE
  | k + 1 => by unfold bk; omega
theorem clrI_start {E w : Nat} {M : List (List Int)} (hE : 0 < E) (hM : Ent E M) (hw : RowsW w M) : ClrI E M.length w (M, 0, 1, 1) :=
  ⟨rfl, hw, hM, Nat.zero_le _, by show (1 : Int) ≠ 0; decide, Nat.one_lt_two_pow (by show E ≠ 0; omega)⟩
theorem clrI_step {E n w c : Nat} {s : CSt} (h : ClrI E n w s) : ClrI E n w (stepC c s) := by
  obtain ⟨M, r, sg, last⟩ := s
  unfold stepC
  dsimp only
  split
  · exact h
  · rename_i f hf
    obtain ⟨f1, f2, f3⟩ := ffrom_some hf
    have hl : M.length = n := h.len
    have hle : r ≤ n := h.le
    have hfl : f < M.length := by omega
    have hrl : r < M.length := by omega
    have hp := piv_at hrl hfl
    have hd : (pivM M r f).getD r [] = M.getD f [] := getD_of hp
    have hmem := getD_mem hfl
    have hpe : Ent (bk E r) (pivM M r f) := fun row hr => h.ent row (piv_mem hrl hfl row hr)
    have hpw : RowsW w (pivM M r f) := fun row hr => h.rows row (piv_mem hrl hfl row hr)
    have hhe := h.ent _ hmem
    refine ⟨by dsimp only; rw [len_red, len_piv]; exact hl, red_rows (by rw [hd]; exact h.rows _ hmem) hpw, red_ent h.nz (by rw [hd]; exact hhe) hpe, by dsimp only; omega, by rw [hd]; exact f3, ?_⟩
    dsimp only
    rw [hd]
    have g : ((M.getD f []).getD c 0).natAbs < 2 ^ bk E r := by
      generalize M.getD f [] = xs at *
      rw [List.getD_eq_getElem?_getD]
      rcases Nat.lt_or_ge c xs.length with z | z
      · rw [List.getElem?_eq_getElem z]
        exact hhe _ (List.getElem_mem z)
      · rw [List.getElem?_eq_none z]
        exact Nat.pow_pos (by decide)
    exact Nat.lt_of_lt_of_le g (Nat.pow_le_pow_right (by decide) (by show bk E r ≤ 2 * bk E r + 1; omega))
theorem clrI_n {E w : Nat} {M : List (List Int)} (hE : 0 < E) (hM : Ent E M) (hw : RowsW w M) : ∀ c, ClrI E M.length w (clrN M c)
  | 0 => clrI_start hE hM hw
  | c + 1 => clrI_step (clrI_n hE hM hw c)
theorem bk_le {E k m : Nat} (h : k ≤ m) : bk E k ≤ bk E m := by
  induction m with
  | zero => rw [Nat.le_zero.mp h]; exact Nat.le_refl _
  | succ m ih =>
    rcases Nat.lt_or_ge k (m + 1) with c | c
    · have := ih (by omega)
      show bk E k ≤ 2 * bk E m + 1
      omega
    · rw [Nat.le_antisymm h c]
      exact Nat.le_refl _
theorem rank_le (M : List (List Int)) : ∀ c, (clrN M c).2.1 ≤ c
  | 0 => Nat.le_refl _
  | c + 1 => by
    have ih := rank_le M c
    show (stepC c (clrN M c)).2.1 ≤ c + 1
    unfold stepC
    split
    · omega
    · dsimp only
      omega
theorem sign_one (M : List (List Int)) : ∀ c, (clrN M c).2.2.1 = 1 ∨ (clrN M c).2.2.1 = -1
  | 0 => .inl rfl
  | c + 1 => by
    have ih := sign_one M c
    show (stepC c (clrN M c)).2.2.1 = 1 ∨ (stepC c (clrN M c)).2.2.1 = -1
    unfold stepC
    split
    · exact ih
    · dsimp only
      split <;> omega
end TL
namespace TL
/-! ### the rank of the table of two vectors -/
theorem pluecker (af ac ar aq bf bc br bq : Int) : (af * bc - ac * bf) * (ar * bq - aq * br) - (ar * bc - ac * br) * (af * bq - aq * bf) = (af * br - ar * bf) * (ac * bq - aq * bc) := by
  simp only [Int.mul_sub, Int.sub_mul, Int.mul_assoc, Int.mul_comm, Int.mul_left_comm]
  omega
theorem ffrom_none {M : List (List Int)} {c : Nat} : ∀ {n i : Nat}, ffrom M c i n = none → ∀ j, i ≤ j → j < i + n → (M.getD j []).getD c 0 = 0
  | 0, i, _, j, h1, h2 => by omega
  | n + 1, i, h, j, h1, h2 => by
    unfold ffrom at h
    split at h
    · cases h
    · rename_i hc
      rcases Nat.eq_or_lt_of_le h1 with e | e
      · subst e
        exact Decidable.not_not.mp hc
      · exact ffrom_none h j e (by omega)
theorem ffrom_zero2 {M : List (List Int)} {c : Nat} : ∀ {n i : Nat}, (∀ j, i ≤ j → j < i + n → (M.getD j []).getD c 0 = 0) → ffrom M c i n = none
  | 0, i, _ => by cases i <;> rfl
  | n + 1, i, h => by
    unfold ffrom
    rw [if_neg (by rw [h i (Nat.le_refl _) (by omega)]; decide)]
    exact ffrom_zero2 fun j h1 h2 => h j (by omega) (by omega)
/-- the table of two vectors, as six lists -/
def ctM (g : Nat → Nat → Int) : List (List Int) := (List.range 6).map fun p => (List.range 6).map fun q => g p q
theorem ctM_at {g : Nat → Nat → Int} {p : Nat} (h : p < 6) : (ctM g)[p]? = some ((List.range 6).map fun q => g p q) := by
  unfold ctM
  rw [List.getElem?_map, List.getElem?_range h]
  rfl
theorem row_at {f : Nat → Int} {q : Nat} (h : q < 6) : ((List.range 6).map f).getD q 0 = f q := by
  rw [List.getD_eq_getElem?_getD, List.getElem?_map, List.getElem?_range h]
  rfl
theorem zip_rows (F : Int → Int → Int) (f g : Nat → Int) : List.zipWith F ((List.range 6).map f) ((List.range 6).map g) = (List.range 6).map fun q => F (f q) (g q) := by
  apply List.ext_getElem
  · simp
  · intro i h1 h2
    simp
structure S0 (g : Nat → Nat → Int) (c : Nat) (s : CSt) : Prop where
  eq : s = (ctM g, 0, 1, 1)
  z : ∀ j, j < c → ∀ i, i < 6 → g i j = 0
structure S1 (c : Nat) (s : CSt) : Prop where
  len : s.1.length = 6
  rk : s.2.1 = 1
  ex : ∃ (k : Nat → Int) (w : Nat → Int), (∀ i, 1 ≤ i → i < 6 → s.1[i]? = some ((List.range 6).map fun q => k i * w q)) ∧ (∃ i, 1 ≤ i ∧ i < 6 ∧ k i ≠ 0) ∧ ∃ q, c ≤ q ∧ q < 6 ∧ w q ≠ 0
structure S2 (s : CSt) : Prop where
  len : s.1.length = 6
  rk : s.2.1 = 2
  z : ∀ i, 2 ≤ i → i < 6 → s.1[i]? = some ((List.range 6).map fun _ => (0 : Int))
theorem S2.step {c : Nat} {s : CSt} (h : S2 s) : S2 (stepC c s) := by
  have : stepC c s = s := by
    unfold stepC
    rw [ffrom_zero2]
    intro j h1 h2
    rw [h.len, h.rk] at h2
    rw [h.rk] at h1
    rw [getD_of (h.z j h1 (by omega)), List.getD_eq_getElem?_getD, List.getElem?_map]
    cases (List.range 6)[c]? <;> rfl
  rw [this]
  exact h
theorem fdiv_zero' (a : Int) : (0 : Int).fdiv a = 0 := by simp
theorem S1.step {c : Nat} {s : CSt} (hc : c < 6) (h : S1 c s) : S1 (c + 1) (stepC c s) ∨ S2 (stepC c s) := by
  obtain ⟨M, r, sg, last⟩ := s
  obtain ⟨hl, hr, k, w, h1, ⟨i0, i1, i2, i3⟩, q0, q1, q2, q3⟩ := h
  dsimp only at hl hr h1
  subst hr
  unfold stepC
  dsimp only
  split
  · rename_i hf
    left
    refine ⟨hl, rfl, k, w, h1, ⟨i0, i1, i2, i3⟩, q0, ?_, q2, q3⟩
    have := ffrom_none hf i0 i1 (by omega)
    rw [getD_of (h1 i0 i1 i2), row_at hc] at this
    rcases Int.mul_eq_zero.mp this with e | e
    · exact absurd e i3
    · rcases Nat.eq_or_lt_of_le q1 with e2 | e2
      · subst e2
        exact absurd e q3
      · exact e2
  · rename_i f hf
    right
    obtain ⟨f1, f2, f3⟩ := ffrom_some hf
    have f6 : f < 6 := by omega
    have hp : (pivM M 1 f).getD 1 [] = M.getD f [] := getD_of (piv_at (by omega) (by omega))
    have hh : M.getD f [] = (List.range 6).map fun q => k f * w q := getD_of (h1 f f1 f6)
    refine ⟨by dsimp only; rw [len_red, len_piv]; exact hl, rfl, fun i hi hi6 => ?_⟩
    dsimp only
    have hrow : ∃ κ : Int, (pivM M 1 f)[i]? = some ((List.range 6).map fun q => κ * w q) := by
      unfold pivM
      split
      · exact ⟨k i, h1 i (by omega) hi6⟩
      · unfold swapR
        by_cases e : f = i
        · subst e
          rw [List.getElem?_set_self (by rw [List.length_set]; omega)]
          exact ⟨k 1, by rw [getD_of (h1 1 (by decide) (by decide))]⟩
        · rw [List.getElem?_set_ne e, List.getElem?_set_ne (by omega)]
          exact ⟨k i, h1 i (by omega) hi6⟩
    obtain ⟨κ, hκ⟩ := hrow
    rw [red_at, hκ, Option.map_some, if_pos ⟨by omega, by rw [len_piv]; omega⟩, hp, hh]
    unfold redRow
    rw [zip_rows, row_at hc, row_at hc]
    refine congrArg some (List.map_congr_left fun q _ => ?_)
    have e : k f * w c * (κ * w q) - κ * w c * (k f * w q) = 0 := by
      have : k f * w c * (κ * w q) = κ * w c * (k f * w q) := by ac_rfl
      omega
    rw [e]
    exact fdiv_zero' _
def gg (a b : Nat → Int) (i j : Nat) : Int := a i * b j - a j * b i
theorem gg_neg (a b : Nat → Int) (i j : Nat) : gg a b j i = - gg a b i j := by
  unfold gg
  omega
theorem gg_self (a b : Nat → Int) (i : Nat) : gg a b i i = 0 := by
  unfold gg
  omega
theorem S0.step {a b : Nat → Int} {c : Nat} {s : CSt} (hc : c < 6) (h : S0 (gg a b) c s) : S0 (gg a b) (c + 1) (stepC c s) ∨ S1 (c + 1) (stepC c s) := by
  obtain ⟨rfl, hz⟩ := h
  have hl : (ctM (gg a b)).length = 6 := by simp [ctM]
  have cell : ∀ i, i < 6 → ((ctM (gg a b)).getD i []).getD c 0 = gg a b i c := fun i hi => by rw [getD_of (ctM_at hi), row_at hc]
  unfold stepC
  dsimp only
  rw [hl]
  split
  · rename_i hf
    left
    refine ⟨rfl, fun j hj i hi => ?_⟩
    rcases Nat.eq_or_lt_of_le (Nat.le_of_lt_succ hj) with e | e
    · subst e
      have := ffrom_none hf i (Nat.zero_le _) (by omega)
      rw [cell i hi] at this
      exact this
    · exact hz j e i hi
  · rename_i f hf
    right
    obtain ⟨_, f2, f3⟩ := ffrom_some hf
    have f6 : f < 6 := by omega
    rw [cell f f6] at f3
    have fc : c < f := by
      rcases Nat.lt_trichotomy f c with e | e | e
      · have := hz f e c hc
        rw [gg_neg] at f3
        omega
      · subst e
        exact absurd (gg_self a b f) f3
      · exact e
    have f0 : f ≠ 0 := by omega
    have hp : (pivM (ctM (gg a b)) 0 f).getD 0 [] = (List.range 6).map fun q => gg a b f q := by
      rw [getD_of (piv_at (by omega) (by omega)), getD_of (ctM_at f6)]
    refine ⟨by dsimp only; rw [len_red, len_piv]; exact hl, rfl, fun i => gg a b f (if i = f then 0 else i), fun q => gg a b c q, fun i hi hi6 => ?_, ?_, f, by omega, f6, by dsimp only; rw [gg_neg]; omega⟩
    · dsimp only
      have hrow : (pivM (ctM (gg a b)) 0 f)[i]? = some ((List.range 6).map fun q => gg a b (if i = f then 0 else i) q) := by
        unfold pivM
        rw [if_neg f0]
        unfold swapR
        by_cases e : i = f
        · subst e
          rw [List.getElem?_set_self (by rw [List.length_set]; omega), if_pos rfl, getD_of (ctM_at (by decide))]
        · rw [List.getElem?_set_ne (Ne.symm e), List.getElem?_set_ne (by omega), if_neg e, ctM_at hi6]
      rw [red_at, hrow, Option.map_some, if_pos ⟨by omega, by rw [len_piv]; omega⟩, hp]
      unfold redRow
      rw [zip_rows, row_at hc, row_at hc]
      refine congrArg some (List.map_congr_left fun q _ => ?_)
      rw [Int.fdiv_one]
      exact pluecker ..
    · rcases Nat.eq_zero_or_pos c with e | e
      · exact ⟨f, by omega, f6, by dsimp only; rw [if_pos rfl, ← e]; exact f3⟩
      · exact ⟨c, e, hc, by dsimp only; rw [if_neg (by omega)]; exact f3⟩
theorem states (a b : Nat → Int) : ∀ c, c ≤ 6 → S0 (gg a b) c (clrN (ctM (gg a b)) c) ∨ S1 c (clrN (ctM (gg a b)) c) ∨ S2 (clrN (ctM (gg a b)) c)
  | 0, _ => .inl ⟨rfl, fun j h => absurd h (Nat.not_lt_zero _)⟩
  | c + 1, h => by
    show _ ∨ S1 (c + 1) (stepC c _) ∨ S2 (stepC c _)
    rcases states a b c (by omega) with e | e | e
    · rcases e.step (by omega) with z | z
      · exact .inl z
      · exact .inr (.inl z)
    · exact .inr (e.step (by omega))
    · exact .inr (.inr e.step)
theorem clr_none {g : Nat → Nat → Int} (h : ∀ i j, i < 6 → j < 6 → g i j = 0) : ∀ c, c ≤ 6 → clrN (ctM g) c = (ctM g, 0, 1, 1)
  | 0, _ => rfl
  | c + 1, hc => by
    have hl : (ctM g).length = 6 := by simp [ctM]
    show stepC c (clrN (ctM g) c) = _
    rw [clr_none h c (by omega)]
    unfold stepC
    dsimp only
    rw [ffrom_zero2]
    intro j h1 h2
    rw [hl] at h2
    rw [getD_of (ctM_at (by omega)), row_at (by omega)]
    exact h j c (by omega) (by omega)
theorem ctM_width (g : Nat → Nat → Int) : widthOf (ctM g) = 6 := by simp [widthOf, ctM]
theorem rank_zero {g : Nat → Nat → Int} (h : ∀ i j, i < 6 → j < 6 → g i j = 0) : clrRank (ctM g) = 0 := by
  unfold clrRank
  rw [ctM_width, clr_none h 6 (Nat.le_refl _)]
theorem rank_two {a b : Nat → Int} (h : ¬ ∀ i j, i < 6 → j < 6 → gg a b i j = 0) : clrRank (ctM (gg a b)) = 2 := by
  unfold clrRank
  rw [ctM_width]
  rcases states a b 6 (Nat.le_refl _) with e | e | e
  · exact absurd (fun i j hi hj => e.z j hj i hi) h
  · obtain ⟨_, _, _, q, q1, q2, _⟩ := e.ex
    omega
  · exact e.rk
end TL
namespace TL
def vec (row : List Int) : Vec := fun j => row.getD j 0
theorem getD_set_eq {M : List (List Int)} {i : Nat} {x : List Int} (h : i < M.length) : (M.set i x).getD i [] = x := by
  rw [List.getD_eq_getElem?_getD, List.getElem?_set_self h]
  rfl
theorem getD_set_ne {M : List (List Int)} {i j : Nat} {x : List Int} (h : i ≠ j) : (M.set i x).getD j [] = M.getD j [] := by
  rw [List.getD_eq_getElem?_getD, List.getElem?_set_ne h, ← List.getD_eq_getElem?_getD]
theorem pivM_r {M : List (List Int)} {r f : Nat} (hr : r < M.length) (hf : f < M.length) : (pivM M r f).getD r [] = M.getD f [] := getD_of (piv_at hr hf)
theorem pivM_i {M : List (List Int)} {r f i : Nat} (hf : f < M.length) (hrf : r ≤ f) (hi : r < i) : (pivM M r f).getD i [] = M.getD (if i = f then r else i) [] := by
  unfold pivM
  by_cases e : f = r
  · rw [if_pos e, if_neg (by omega)]
  · rw [if_neg e]
    unfold swapR
    by_cases e2 : i = f
    · rw [if_pos e2, e2, getD_set_eq (by rw [List.length_set]; exact hf)]
    · rw [if_neg e2, getD_set_ne (by omega), getD_set_ne (by omega)]
theorem pivM_take {M : List (List Int)} {r f : Nat} (hf : f < M.length) (hrf : r ≤ f) : (pivM M r f).take (r + 1) = M.take r ++ [M.getD f []] := by
  apply List.ext_getElem?
  intro i
  have hr : r < M.length := by omega
  rcases Nat.lt_trichotomy i r with z | z | z
  · rw [List.getElem?_take, if_pos (by omega), List.getElem?_append_left (by rw [List.length_take]; omega), List.getElem?_take, if_pos z]
    unfold pivM
    by_cases e : f = r
    · rw [if_pos e]
    · rw [if_neg e]
      unfold swapR
      rw [List.getElem?_set_ne (by omega), List.getElem?_set_ne (by omega)]
  · subst z
    rw [List.getElem?_take, if_pos (by omega), piv_at hr hf, List.getElem?_append_right (by rw [List.length_take]; omega), List.length_take, Nat.min_eq_left (by omega), Nat.sub_self]
    rfl
  · rw [List.getElem?_take, if_neg (by omega), List.getElem?_eq_none]
    rw [List.length_append, List.length_take, List.length_singleton]
    omega
/-! ### rows changed about -/
theorem df_neg (k : Int) (F : Frm) (A : List Vec) : DF (fun ds => k * F ds) A = fun ds => k * DF F A ds := by
  induction A generalizing F with
  | nil => rfl
  | cons x A ih =>
    show DF (WFd (fun ds => k * F ds) x) A = fun ds => k * DF (WFd F x) A ds
    have : WFd (fun ds => k * F ds) x = fun ds => k * WFd F x ds := by
      funext cs
      exact wd_mul x k cs F
    rw [this]
    exact ih _
theorem df_swap2 (F : Frm) (x y : Vec) (A : List Vec) : DF F (x :: y :: A) = fun ds => (-1) * DF F (y :: x :: A) ds := by
  show DF (WFd (WFd F x) y) A = fun ds => (-1) * DF (WFd (WFd F y) x) A ds
  rw [← df_neg]
  congr 1
  funext cs
  show Wd y cs (fun ds => Wd x ds F) = (-1) * Wd x cs (fun ds => Wd y ds F)
  rw [wd_anti]
  omega
/-- rows in another order: the same form but for the sign -/
theorem df_perm {A B : List Vec} (h : A.Perm B) : ∀ F : Frm, ∃ s : Int, (s = 1 ∨ s = -1) ∧ DF F A = fun ds => s * DF F B ds := by
  induction h with
  | nil => exact fun F => ⟨1, .inl rfl, by funext ds; exact (Int.one_mul _).symm⟩
  | cons x _ ih => exact fun F => ih (WFd F x)
  | swap x y l =>
    intro F
    exact ⟨-1, .inr rfl, df_swap2 F y x l⟩
  | trans _ _ ih1 ih2 =>
    intro F
    obtain ⟨s, hs, e1⟩ := ih1 F
    obtain ⟨t, ht, e2⟩ := ih2 F
    refine ⟨s * t, ?_, ?_⟩
    · rcases hs with rfl | rfl <;> rcases ht with rfl | rfl <;> simp
    · rw [e1, e2]
      funext ds
      rw [Int.mul_assoc]
/-- one row moved ahead over n others -/
theorem df_move (y : Vec) : ∀ (L : List Vec) (F : Frm) (R : List Vec), DF F (L ++ y :: R) = fun ds => sgA L.length * DF F (y :: (L ++ R)) ds
  | [], F, R => by funext ds; exact (Int.one_mul _).symm
  | x :: L, F, R => by
    show DF (WFd F x) (L ++ y :: R) = _
    rw [df_move y L (WFd F x) R]
    funext ds
    have : DF F (x :: y :: (L ++ R)) ds = (-1) * DF F (y :: x :: (L ++ R)) ds := congrFun (df_swap2 F x y (L ++ R)) ds
    show sgA L.length * DF F (x :: y :: (L ++ R)) ds = - sgA L.length * DF F (y :: x :: (L ++ R)) ds
    rw [this]
    grind
/-- two rows exchanged -/
theorem df_exch (F : Frm) (x y : Vec) (L R : List Vec) : DF F (x :: (L ++ y :: R)) = fun ds => (-1) * DF F (y :: (L ++ x :: R)) ds := by
  have e1 : DF F (x :: (L ++ y :: R)) = fun ds => sgA L.length * DF F (x :: y :: (L ++ R)) ds := df_move y L (WFd F x) R
  have e2 : DF F (y :: (L ++ x :: R)) = fun ds => sgA L.length * DF F (y :: x :: (L ++ R)) ds := df_move x L (WFd F y) R
  rw [e1, e2]
  funext ds
  have : DF F (x :: y :: (L ++ R)) ds = (-1) * DF F (y :: x :: (L ++ R)) ds := congrFun (df_swap2 F x y (L ++ R)) ds
  dsimp only
  rw [this]
  grind
theorem swap_dec {M : List (List Int)} {r f : Nat} (hf : f < M.length) (hrf : r < f) : ∃ L N R, M = L ++ M.getD r [] :: (N ++ M.getD f [] :: R) ∧ swapR M r f = L ++ M.getD f [] :: (N ++ M.getD r [] :: R) := by
  have hr : r < M.length := by omega
  have e1 : M = M.take r ++ M.getD r [] :: M.drop (r + 1) := by
    have := List.take_append_drop r M
    rw [List.drop_eq_getElem_cons hr] at this
    rw [List.getD_eq_getElem?_getD, List.getElem?_eq_getElem hr]
    exact this.symm
  have e2 : M.drop (r + 1) = (M.drop (r + 1)).take (f - r - 1) ++ M.getD f [] :: (M.drop (r + 1)).drop (f - r) := by
    have hl : f - r - 1 < (M.drop (r + 1)).length := by rw [List.length_drop]; omega
    have := List.take_append_drop (f - r - 1) (M.drop (r + 1))
    rw [List.drop_eq_getElem_cons hl] at this
    rw [List.getD_eq_getElem?_getD, List.getElem?_eq_getElem hf]
    have e : (M.drop (r + 1))[f - r - 1] = M[f] := by
      rw [List.getElem_drop]
      congr 1
      omega
    rw [e, show f - r - 1 + 1 = f - r by omega] at this
    exact this.symm
  refine ⟨M.take r, (M.drop (r + 1)).take (f - r - 1), (M.drop (r + 1)).drop (f - r), by rw [← e2]; exact e1, ?_⟩
  apply List.ext_getElem?
  intro i
  have lt : (M.take r).length = r := by rw [List.length_take]; omega
  have ln : ((M.drop (r + 1)).take (f - r - 1)).length = f - r - 1 := by rw [List.length_take, List.length_drop]; omega
  unfold swapR
  rw [List.getElem?_set]
  by_cases c1 : f = i
  · subst c1
    rw [if_pos rfl, if_pos (by rw [List.length_set]; exact hf), List.getElem?_append_right (by omega), lt, List.getElem?_cons, if_neg (by omega), List.getElem?_append_right (by omega), ln,
      show f - r - 1 - (f - r - 1) = 0 by omega]
    rfl
  · rw [if_neg c1, List.getElem?_set]
    by_cases c2 : r = i
    · subst c2
      rw [if_pos rfl, if_pos hr, List.getElem?_append_right (by omega), lt, Nat.sub_self]
      rfl
    · rw [if_neg c2]
      rcases Nat.lt_or_ge i r with z | z
      · rw [List.getElem?_append_left (by omega), List.getElem?_take, if_pos z]
      · rw [List.getElem?_append_right (by omega), lt, List.getElem?_cons, if_neg (by omega)]
        rcases Nat.lt_or_ge i f with y | y
        · rw [List.getElem?_append_left (by omega), List.getElem?_take, if_pos (by omega), List.getElem?_drop]
          congr 1
          omega
        · rw [List.getElem?_append_right (by omega), ln, List.getElem?_cons, if_neg (by omega), List.getElem?_drop, List.getElem?_drop]
          congr 1
          omega
theorem pivM_perm {M : List (List Int)} {r f : Nat} (hf : f < M.length) (hrf : r ≤ f) : (pivM M r f).Perm M := by
  unfold pivM
  split
  · exact .refl _
  · rename_i c
    obtain ⟨L, N, R, e1, e2⟩ := swap_dec hf (by omega : r < f)
    rw [e2]
    refine .trans ?_ (.of_eq e1.symm)
    refine .append_left L ?_
    have p1 : (N ++ M.getD r [] :: R).Perm (M.getD r [] :: (N ++ R)) := List.perm_middle
    have p2 : (N ++ M.getD f [] :: R).Perm (M.getD f [] :: (N ++ R)) := List.perm_middle
    exact ((p1.cons _).trans (.swap _ _ _)).trans (p2.symm.cons _)
theorem pivM_dt {M : List (List Int)} {r f : Nat} (hf : f < M.length) (hrf : r ≤ f) : Dt ((pivM M r f).map vec) = fun ds => (if f = r then 1 else -1) * Dt (M.map vec) ds := by
  unfold pivM
  split
  · funext ds
    exact (Int.one_mul _).symm
  · rename_i c
    obtain ⟨L, N, R, e1, e2⟩ := swap_dec hf (by omega : r < f)
    rw [e2]
    have e3 : Dt (M.map vec) = Dt ((L ++ M.getD r [] :: (N ++ M.getD f [] :: R)).map vec) := by rw [← e1]
    rw [e3]
    generalize M.getD r [] = a
    generalize M.getD f [] = b
    simp only [List.map_append, List.map_cons]
    unfold Dt
    rw [df_app, df_app]
    exact df_exch _ _ _ _ _
end TL
namespace TL
theorem rw_map {A : List (List Int)} {t : Nat} (h : t < A.length) : rw_ (A.map vec) t = vec (A.getD t []) := by
  unfold rw_
  rw [List.getD_eq_getElem?_getD, List.getElem?_map, List.getElem?_eq_getElem h, List.getD_eq_getElem?_getD, List.getElem?_eq_getElem h]
  rfl
theorem vec_red {last : Int} {head row : List Int} {c j w : Nat} (hh : head.length = w) (hr : row.length = w) : vec (redRow last head c row) j = (vec head c * vec row j - vec row c * vec head j).fdiv last := by
  have at_ : ∀ {xs : List Int} {i : Nat} (h : i < xs.length), xs.getD i 0 = xs[i] := fun {xs i} h => by
    rw [List.getD_eq_getElem?_getD, List.getElem?_eq_getElem h]
    rfl
  have o : ∀ {xs : List Int} {i : Nat}, xs.length ≤ i → xs.getD i 0 = 0 := fun {xs i} h => by
    rw [List.getD_eq_getElem?_getD, List.getElem?_eq_none h]
    rfl
  unfold vec redRow
  rcases Nat.lt_or_ge j w with z | z
  · rw [at_ (i := j) (by rw [List.length_zipWith]; omega), List.getElem_zipWith, at_ (xs := row) (i := j) (by omega), at_ (xs := head) (i := j) (by omega)]
  · rw [o (by rw [List.length_zipWith]; omega), o (xs := row) (i := j) (by omega), o (xs := head) (i := j) (by omega)]
    simp
/-- what stands when the columns below c are through -/
structure BI (M : List (List Int)) (w c : Nat) (s : CSt) (B : List (List Int)) (C : List Nat) : Prop where
  perm : B.Perm M
  len : s.1.length = M.length
  le : s.2.1 ≤ M.length
  cl : C.length = s.2.1
  clt : ∀ j ∈ C, j < c
  asc : C.Pairwise (· < ·)
  rows : RowsW w s.1
  det : Dt ((B.take s.2.1).map vec) C = s.2.2.2
  nz : s.2.2.2 ≠ 0
  sg : s.2.2.1 = 1 ∨ s.2.2.1 = -1
  sgn : Dt (B.map vec) = fun ds => s.2.2.1 * Dt (M.map vec) ds
  rest : ∀ i, s.2.1 ≤ i → i < M.length → (∃ m : Nat → Int, ∀ j, vec (s.1.getD i []) j = s.2.2.2 * vec (B.getD i []) j + sumN s.2.1 (fun t => vec (B.getD t []) j * m t)) ∧ ∀ j, j < c → vec (s.1.getD i []) j = 0
theorem BI.start {M : List (List Int)} {w : Nat} (hw : RowsW w M) : BI M w 0 (M, 0, 1, 1) M [] where
  perm := .refl _
  len := rfl
  le := Nat.zero_le _
  cl := rfl
  clt := fun j h => by cases h
  asc := List.Pairwise.nil
  rows := hw
  det := rfl
  nz := by show (1 : Int) ≠ 0; decide
  sg := .inl rfl
  sgn := by funext ds; exact (Int.one_mul _).symm
  rest := fun i _ _ => ⟨⟨fun _ => 0, fun j => by show vec (M.getD i []) j = 1 * vec (M.getD i []) j + 0; omega⟩, fun j h => by omega⟩
theorem BI.blen {M : List (List Int)} {w c : Nat} {s : CSt} {B : List (List Int)} {C : List Nat} (h : BI M w c s B C) : B.length = M.length := h.perm.length_eq
theorem map_take_rw {B : List (List Int)} {r t : Nat} (hr : r ≤ B.length) (ht : t < r) : rw_ ((B.take r).map vec) t = vec (B.getD t []) := by
  rw [rw_map (by rw [List.length_take]; omega)]
  congr 1
  rw [List.getD_eq_getElem?_getD, List.getElem?_take, if_pos ht, ← List.getD_eq_getElem?_getD]
theorem BI.step {M : List (List Int)} {w c : Nat} {s : CSt} {B : List (List Int)} {C : List Nat} (h : BI M w c s B C) : ∃ B' C', BI M w (c + 1) (stepC c s) B' C' := by
  obtain ⟨Mi, r, sg, last⟩ := s
  have hbl := h.blen
  obtain ⟨hperm, hlen, hle, hcl, hclt, hasc, hrows, hdet, hnz, hsg, hsgn, hrest⟩ := h
  dsimp only at *
  unfold stepC
  dsimp only
  cases hf : ffrom Mi c r (Mi.length - r) with
  | none =>
    refine ⟨B, C, hperm, hlen, hle, hcl, fun j hj => Nat.lt_succ_of_lt (hclt j hj), hasc, hrows, hdet, hnz, hsg, hsgn, fun i hi hi2 => ⟨(hrest i hi hi2).1, fun j hj => ?_⟩⟩
    rcases Nat.lt_or_ge j c with z | z
    · exact (hrest i hi hi2).2 j z
    · have : j = c := by omega
      subst this
      exact ffrom_none hf i hi (by omega)
  | some f =>
    obtain ⟨f1, f2, f3⟩ := ffrom_some hf
    have hfM : f < Mi.length := by omega
    have hrM : r < Mi.length := by omega
    have hfB : f < B.length := by omega
    have hrB : r < B.length := by omega
    dsimp only
    rw [pivM_r hrM hfM]
    -- the pivot row
    have Hf := hrest f f1 (by omega)
    obtain ⟨⟨mu, hmu⟩, zu⟩ := Hf
    have hA : ((B.take r).map vec).length = r := by rw [List.length_map, List.length_take]; omega
    have conv : ∀ (m : Nat → Int) (j : Nat), sumN r (fun t => vec (B.getD t []) j * m t) = sumN ((B.take r).map vec).length (fun t => rw_ ((B.take r).map vec) t j * m t) := fun m j => by
      rw [hA]
      exact sumN_congr fun t ht => by rw [map_take_rw (by omega) ht]
    have hd0 : Dt ((B.take r).map vec) C ≠ 0 := by rw [hdet]; exact hnz
    have hu : ∀ j, vec (Mi.getD f []) j = Dt ((B.take r).map vec) C * vec (B.getD f []) j + sumN ((B.take r).map vec).length (fun t => rw_ ((B.take r).map vec) t j * mu t) := fun j => by rw [hdet, ← conv]; exact hmu j
    have hzu : ∀ d ∈ C, vec (Mi.getD f []) d = 0 := fun d hd => zu d (hclt d hd)
    have eA : ((pivM B r f).take (r + 1)).map vec = (B.take r).map vec ++ [vec (B.getD f [])] := by
      rw [pivM_take hfB f1, List.map_append]
      rfl
    have hu0 : vec (Mi.getD f []) c = Dt ((B.take r).map vec ++ [vec (B.getD f [])]) (C ++ [c]) := (bareiss hd0 hu hu hzu hzu c c).1
    have hA1 : ((B.take r).map vec ++ [vec (B.getD f [])]).length = r + 1 := by rw [List.length_append, hA]; rfl
    have hpl : (pivM Mi r f).length = M.length := by rw [len_piv]; exact hlen
    refine ⟨pivM B r f, C ++ [c], (pivM_perm hfB f1).trans hperm, by rw [len_red]; exact hpl, by show r + 1 ≤ M.length; omega, by rw [List.length_append, hcl]; rfl, fun j hj => ?_, List.pairwise_append.mpr ⟨hasc, List.pairwise_singleton _ _, fun a ha b hb => by rw [List.mem_singleton.mp hb]; exact hclt a ha⟩, ?_, ?_, f3, ?_, ?_, fun i hi hi2 => ?_⟩
    · rcases List.mem_append.mp hj with z | z
      · exact Nat.lt_succ_of_lt (hclt j z)
      · have := List.mem_singleton.mp z
        omega
    · exact red_rows (hrows _ (getD_mem hfM)) fun x hx => hrows x (piv_mem hrM hfM x hx)
    · show Dt (((pivM B r f).take (r + 1)).map vec) (C ++ [c]) = _
      rw [eA, ← hu0]
      rfl
    · show (if f = r then sg else -sg) = 1 ∨ _ = -1
      split
      · exact hsg
      · rcases hsg with e | e <;> rw [e] <;> simp
    · show Dt ((pivM B r f).map vec) = fun ds => (if f = r then sg else -sg) * Dt (M.map vec) ds
      rw [pivM_dt hfB f1, hsgn]
      funext ds
      dsimp only
      split
      · rw [Int.one_mul]
      · rw [← Int.mul_assoc]
        congr 1
        omega
    · have hi' : r + 1 ≤ i := hi
      have hiM : i < (pivM Mi r f).length := by omega
      -- the row that is reduced
      have ek : ∃ k, r ≤ k ∧ k < M.length ∧ (pivM Mi r f).getD i [] = Mi.getD k [] ∧ (pivM B r f).getD i [] = B.getD k [] :=
        ⟨if i = f then r else i, by split <;> omega, by split <;> omega, pivM_i hfM f1 (by omega), pivM_i hfB f1 (by omega)⟩
      obtain ⟨k, k1, k2, ek1, ek2⟩ := ek
      obtain ⟨⟨mv, hmv⟩, zv⟩ := hrest k k1 k2
      have hv : ∀ j, vec (Mi.getD k []) j = Dt ((B.take r).map vec) C * vec (B.getD k []) j + sumN ((B.take r).map vec).length (fun t => rw_ ((B.take r).map vec) t j * mv t) := fun j => by rw [hdet, ← conv]; exact hmv j
      have hzv : ∀ d ∈ C, vec (Mi.getD k []) d = 0 := fun d hd => zv d (hclt d hd)
      have er : (redTo last (Mi.getD f []) c r (pivM Mi r f).length (pivM Mi r f)).getD i [] = redRow last (Mi.getD f []) c (Mi.getD k []) := by
        refine getD_of ?_
        rw [red_at, getD_some hiM, ek1]
        show some (if r < i ∧ i < (pivM Mi r f).length then _ else _) = _
        rw [if_pos ⟨by omega, hiM⟩]
      have val : ∀ j, vec (redRow last (Mi.getD f []) c (Mi.getD k [])) j = Dt (((B.take r).map vec ++ [vec (B.getD f [])]) ++ [vec (B.getD k [])]) ((C ++ [c]) ++ [j]) := fun j => by
        rw [vec_red (hrows _ (getD_mem hfM)) (hrows _ (getD_mem (by omega : k < Mi.length))), (bareiss hd0 hu hv hzu hzv c j).2, hdet]
        exact Int.mul_fdiv_cancel_left _ hnz
      dsimp only
      rw [er, ek2]
      obtain ⟨G, hG⟩ := dt_colS ((B.take r).map vec ++ [vec (B.getD f [])]) (vec (B.getD k []))
      refine ⟨⟨fun t => G t (C ++ [c]), fun j => ?_⟩, fun j hj => ?_⟩
      · rw [val, hG, ← hu0, hA1, Int.mul_comm]
        congr 1
        refine sumN_congr fun t ht => ?_
        have e1 : rw_ ((B.take r).map vec ++ [vec (B.getD f [])]) t = vec ((pivM B r f).getD t []) := by
          rw [← eA]
          exact map_take_rw (by rw [len_piv]; omega) ht
        rw [e1]
      · rw [vec_red (hrows _ (getD_mem hfM)) (hrows _ (getD_mem (by omega : k < Mi.length)))]
        rcases Nat.lt_or_ge j c with z | z
        · rw [zu j z, zv j z]
          simp
        · have : j = c := by omega
          subst this
          rw [Int.mul_comm, Int.sub_self]
          simp
theorem BI.all {M : List (List Int)} {w : Nat} (hw : RowsW w M) : ∀ c, ∃ B C, BI M w c (clrN M c) B C
  | 0 => ⟨M, [], BI.start hw⟩
  | c + 1 => by
    obtain ⟨B, C, h⟩ := BI.all hw c
    exact h.step
/-- what the clearing tells: r rows of M with a minor that is not 0; all the others rest on them -/
theorem clr_struct {M : List (List Int)} {w : Nat} (hw : RowsW w M) : ∃ (B : List (List Int)) (C : List Nat), B.Perm M ∧ clrRank M ≤ M.length ∧ C.length = clrRank M ∧ (∀ j ∈ C, j < widthOf M) ∧ Dt ((B.take (clrRank M)).map vec) C ≠ 0 ∧
    (∀ i, clrRank M ≤ i → i < M.length → ∃ (d : Int) (m : Nat → Int), d ≠ 0 ∧ ∀ j, d * vec (B.getD i []) j = sumN (clrRank M) (fun t => vec (B.getD t []) j * m t)) ∧
    ∃ sg : Int, (sg = 1 ∨ sg = -1) ∧ clrDet M = sg * Dt ((B.take (clrRank M)).map vec) C ∧ Dt (B.map vec) = fun ds => sg * Dt (M.map vec) ds := by
  have hW : RowsW (widthOf M) M := by
    unfold widthOf
    cases M with
    | nil => exact fun row hr => by cases hr
    | cons x xs =>
      have e : x.length = w := hw x (List.mem_cons_self ..)
      exact fun row hr => (hw row hr).trans e.symm
  obtain ⟨B, C, h⟩ := BI.all hW (widthOf M)
  refine ⟨B, C, h.perm, h.le, h.cl, h.clt, ?_, fun i h1 h2 => ?_, _, h.sg, ?_, h.sgn⟩
  · show Dt ((B.take (clrN M (widthOf M)).2.1).map vec) C ≠ 0
    rw [h.det]
    exact h.nz
  · obtain ⟨⟨m, hm⟩, hz⟩ := h.rest i h1 h2
    refine ⟨(clrN M (widthOf M)).2.2.2, fun t => - m t, h.nz, fun j => ?_⟩
    have hv : vec ((clrN M (widthOf M)).1.getD i []) j = 0 := by
      rcases Nat.lt_or_ge j (widthOf M) with z | z
      · exact hz j z
      · have hl := h.rows _ (getD_mem (by rw [h.len]; exact h2 : i < (clrN M (widthOf M)).1.length))
        unfold vec
        rw [List.getD_eq_getElem?_getD, List.getElem?_eq_none (by omega)]
        rfl
    have := hm j
    rw [hv] at this
    have e2 : sumN (clrRank M) (fun t => vec (B.getD t []) j * - m t) = - sumN (clrRank M) (fun t => vec (B.getD t []) j * m t) := by
      have := sumN_mul (n := clrRank M) (-1) (fun t => vec (B.getD t []) j * m t)
      rw [show - sumN (clrRank M) (fun t => vec (B.getD t []) j * m t) = (-1) * sumN (clrRank M) (fun t => vec (B.getD t []) j * m t) by omega, ← this]
      exact sumN_congr fun t _ => by grind
    rw [e2]
    show _ = - sumN (clrN M (widthOf M)).2.1 _
    omega
  · show (clrN M (widthOf M)).2.2.1 * (clrN M (widthOf M)).2.2.2 = _ * Dt ((B.take (clrN M (widthOf M)).2.1).map vec) C
    rw [h.det]
/-- a full minor: the columns are all columns -/
theorem asc_range : ∀ {n : Nat} {C : List Nat}, C.Pairwise (· < ·) → (∀ j ∈ C, j < n) → C.length = n → C = List.range n := fun {n C} h1 h2 h3 => by
  have ge : ∀ (i : Nat) (h : i < C.length), i ≤ C[i] := fun i => by
    induction i with
    | zero => intro h; exact Nat.zero_le _
    | succ i ih =>
      intro h
      have a := ih (by omega)
      have b := List.pairwise_iff_getElem.mp h1 i (i + 1) (by omega) h (by omega)
      omega
  have le : ∀ (k i : Nat) (h : i < C.length), C.length - 1 - i = k → C[i] ≤ i := fun k => by
    induction k with
    | zero =>
      intro i h hk
      have := h2 _ (List.getElem_mem h)
      omega
    | succ k ih =>
      intro i h hk
      have a := ih (i + 1) (by omega) (by omega)
      have b := List.pairwise_iff_getElem.mp h1 i (i + 1) h (by omega) (by omega)
      omega
  refine List.ext_getElem (by rw [h3, List.length_range]) fun i a b => ?_
  rw [List.getElem_range]
  exact Nat.le_antisymm (le _ i a rfl) (ge i a)
theorem clr_det_full {M : List (List Int)} {w : Nat} (hw : RowsW w M) (hl : M.length = w) (hr : clrRank M = M.length) : clrDet M = Dt (M.map vec) (List.range w) := by
  have hW : RowsW (widthOf M) M ∧ widthOf M ≤ w := by
    unfold widthOf
    cases M with
    | nil => exact ⟨fun row hr => (by cases hr), Nat.zero_le _⟩
    | cons x xs =>
      have e : x.length = w := hw x (List.mem_cons_self ..)
      exact ⟨fun row hr => (hw row hr).trans e.symm, Nat.le_of_eq e⟩
  obtain ⟨B, C, h⟩ := BI.all hW.1 (widthOf M)
  have hC : C = List.range w := asc_range h.asc (fun j hj => Nat.lt_of_lt_of_le (h.clt j hj) hW.2) (h.cl.trans (hr.trans hl))
  have e1 : B.take (clrN M (widthOf M)).2.1 = B := List.take_of_length_le (by rw [h.blen]; exact Nat.le_of_eq hr.symm)
  have hd := h.det
  rw [e1, h.sgn, hC] at hd
  show (clrN M (widthOf M)).2.2.1 * (clrN M (widthOf M)).2.2.2 = _
  rw [← hd]
  rcases h.sg with e | e <;> rw [e] <;> grind
end TL
namespace TL
theorem sumN_ind {n t : Nat} (f : Nat → Int) (h : t < n) : sumN n (fun s => f s * (if s = t then 1 else 0)) = f t := by
  induction n with
  | zero => omega
  | succ n ih =>
    show sumN n _ + f n * (if n = t then 1 else 0) = f t
    by_cases e : n = t
    · subst e
      rw [if_pos rfl, sumN_congr (g := fun _ => 0) fun s hs => by rw [if_neg (by omega), Int.mul_zero], sumN_zero]
      omega
    · rw [if_neg e, ih (by omega)]
      omega
/-- a row that rests on the rows of A -/
def RestsOn (A : List Vec) (v : Vec) : Prop := ∃ (d : Int) (m : Nat → Int), d ≠ 0 ∧ ∀ j, d * v j = sumN A.length (fun t => rw_ A t j * m t)
theorem RestsOn.mem {A : List Vec} {t : Nat} (h : t < A.length) : RestsOn A (rw_ A t) := ⟨1, fun s => if s = t then 1 else 0, by decide, fun j => by rw [sumN_ind (fun s => rw_ A s j) h, Int.one_mul]⟩
inductive ClF (A : List Vec) : Nat → Frm → Prop
  | base (l : List Nat) {k : Nat} (hl : l.length = k) (h : ∀ t ∈ l, t < A.length) : ClF A k (Dt (l.map (rw_ A)))
  | zero {k : Nat} : ClF A k (fun _ => 0)
  | add {k : Nat} {F G : Frm} (a : ClF A k F) (b : ClF A k G) : ClF A k (fun cs => F cs + G cs)
  | mul {k : Nat} {F : Frm} (c : Int) (a : ClF A k F) : ClF A k (fun cs => c * F cs)
theorem ClF.step {A : List Vec} {k t : Nat} {F : Frm} (h : ClF A k F) (ht : t < A.length) : ClF A (k + 1) (WFd F (rw_ A t)) := by
  induction h with
  | base l hl hh =>
    have e : WFd (Dt (l.map (rw_ A))) (rw_ A t) = Dt ((l ++ [t]).map (rw_ A)) := by
      rw [List.map_append]
      exact (dt_snoc _ _).symm
    rw [e]
    refine .base _ (by rw [List.length_append, hl]; rfl) fun s hs => ?_
    rcases List.mem_append.mp hs with z | z
    · exact hh s z
    · rw [List.mem_singleton.mp z]
      exact ht
  | zero =>
    have e : WFd (fun _ => 0) (rw_ A t) = fun _ => 0 := by
      funext cs
      exact wd_zero _ cs
    rw [e]
    exact .zero
  | @add k F G _ _ ia ib =>
    have e : WFd (fun cs => F cs + G cs) (rw_ A t) = fun cs => WFd F (rw_ A t) cs + WFd G (rw_ A t) cs := by
      funext cs
      exact wd_add _ cs F G
    rw [e]
    exact .add ia ib
  | @mul k F c _ ia =>
    have e : WFd (fun cs => c * F cs) (rw_ A t) = fun cs => c * WFd F (rw_ A t) cs := by
      funext cs
      exact wd_mul _ c cs F
    rw [e]
    exact .mul c ia
theorem ClF.sum {A : List Vec} {k : Nat} {n : Nat} {m : Nat → Int} {F : Nat → Frm} (h : ∀ t, t < n → ClF A k (F t)) : ClF A k (fun cs => sumN n (fun t => m t * F t cs)) := by
  induction n with
  | zero => exact .zero
  | succ n ih => exact .add (ih fun t ht => h t (by omega)) (.mul _ (h n (by omega)))
theorem cl_of {A : List Vec} : ∀ X : List Vec, (∀ x ∈ X, RestsOn A x) → ∃ d : Int, d ≠ 0 ∧ ClF A X.length (fun cs => d * Dt X cs) := by
  refine rev_ind ?_ ?_
  · intro _
    refine ⟨1, by decide, ?_⟩
    exact .mul 1 (.base [] rfl fun t h => by cases h)
  · intro X x ih h
    obtain ⟨d1, n1, h1⟩ := ih fun y hy => h y (List.mem_append.mpr (.inl hy))
    obtain ⟨d2, m, n2, h2⟩ := h x (List.mem_append.mpr (.inr (List.mem_singleton.mpr rfl)))
    refine ⟨d2 * d1, Int.mul_ne_zero n2 n1, ?_⟩
    have e : (fun cs => d2 * d1 * Dt (X ++ [x]) cs) = fun cs => sumN A.length (fun t => m t * WFd (fun cs => d1 * Dt X cs) (rw_ A t) cs) := by
      funext cs
      rw [dt_snoc]
      show d2 * d1 * Wd x cs (Dt X) = sumN A.length (fun t => m t * Wd (rw_ A t) cs (fun ds => d1 * Dt X ds))
      rw [← wd_comb]
      have e2 : (fun j => sumN A.length (fun t => rw_ A t j * m t)) = fun j => d2 * x j + 0 * x j := by
        funext j
        rw [← h2 j]
        omega
      rw [e2, wd_lin x x d2 0, wd_mul]
      grind
    rw [e, List.length_append]
    exact ClF.sum fun t ht => h1.step ht
theorem nodup_le : ∀ {n : Nat} {l : List Nat}, l.Nodup → (∀ t ∈ l, t < n) → l.length ≤ n
  | 0, l, _, h => by
    cases l with
    | nil => exact Nat.le_refl _
    | cons x xs => exact absurd (h x (List.mem_cons_self ..)) (by omega)
  | n + 1, l, hn, h => by
    have h2 : (l.erase n).length ≤ n := nodup_le (hn.erase n) fun t ht => by
      obtain ⟨h1, h3⟩ := hn.mem_erase_iff.mp ht
      have := h t h3
      omega
    rw [List.length_erase] at h2
    split at h2 <;> omega
theorem dup_split : ∀ {l : List Nat}, ¬ l.Nodup → ∃ a l1 l2 l3, l = l1 ++ a :: (l2 ++ a :: l3)
  | [], h => absurd List.nodup_nil h
  | a :: l, h => by
    by_cases z : a ∈ l
    · obtain ⟨l2, l3, rfl⟩ := List.append_of_mem z
      exact ⟨a, [], l2, l3, rfl⟩
    · have : ¬ l.Nodup := fun q => h (List.nodup_cons.mpr ⟨z, q⟩)
      obtain ⟨b, l1, l2, l3, rfl⟩ := dup_split this
      exact ⟨b, a :: l1, l2, l3, rfl⟩
theorem dt_dup (x : Vec) (L1 L2 L3 : List Vec) : Dt (L1 ++ x :: (L2 ++ x :: L3)) = fun _ => 0 := by
  have e : L1 ++ x :: (L2 ++ x :: L3) = ((L1 ++ x :: L2) ++ [x]) ++ L3 := by simp
  rw [e]
  unfold Dt
  rw [df_app]
  have : DF d0 ((L1 ++ x :: L2) ++ [x]) = fun _ => 0 := dt_mem (A := L1 ++ x :: L2) (by simp)
  rw [this, df_zero]
theorem ClF.many {A : List Vec} {k : Nat} {F : Frm} (h : ClF A k F) (hk : A.length < k) : F = fun _ => 0 := by
  induction h with
  | base l hl hh =>
    obtain ⟨a, l1, l2, l3, rfl⟩ := dup_split fun q => by
      have := nodup_le q hh
      omega
    simp only [List.map_append, List.map_cons]
    exact dt_dup _ _ _ _
  | zero => rfl
  | add _ _ ia ib =>
    rw [ia hk, ib hk]
    rfl
  | mul c _ ia =>
    rw [ia hk]
    funext cs
    exact Int.mul_zero c
/-- more rows than they rest on: no minor is left -/
theorem dt_dep {A X : List Vec} (h : ∀ x ∈ X, RestsOn A x) (hl : A.length < X.length) : Dt X = fun _ => 0 := by
  obtain ⟨d, hd, hc⟩ := cl_of X h
  have := hc.many hl
  funext cs
  have e : d * Dt X cs = 0 := congrFun this cs
  exact (Int.mul_eq_zero.mp e).resolve_left hd
theorem clr_span {M : List (List Int)} {w : Nat} (hw : RowsW w M) : ∃ A : List Vec, A.length = clrRank M ∧ (∀ x ∈ A, ∃ row ∈ M, x = vec row) ∧ (∀ row ∈ M, RestsOn A (vec row)) ∧ ∃ C : List Nat, C.length = clrRank M ∧ Dt A C ≠ 0 := by
  obtain ⟨B, C, hp, hr, hc, _, hd, hrest, _⟩ := clr_struct hw
  have hbl := hp.length_eq
  have hA : ((B.take (clrRank M)).map vec).length = clrRank M := by rw [List.length_map, List.length_take]; omega
  refine ⟨(B.take (clrRank M)).map vec, hA, fun x hx => ?_, fun row hrow => ?_, C, hc, hd⟩
  · obtain ⟨row, h1, rfl⟩ := List.mem_map.mp hx
    exact ⟨row, hp.mem_iff.mp (List.mem_of_mem_take h1), rfl⟩
  · obtain ⟨i, hi⟩ := List.mem_iff_getElem?.mp (hp.mem_iff.mpr hrow)
    have hiB := (List.getElem?_eq_some_iff.mp hi).1
    rcases Nat.lt_or_ge i (clrRank M) with z | z
    · have := RestsOn.mem (A := (B.take (clrRank M)).map vec) (t := i) (by omega)
      rw [map_take_rw (by omega) z, getD_of hi] at this
      exact this
    · obtain ⟨d, m, nd, h⟩ := hrest i z (by omega)
      refine ⟨d, m, nd, fun j => ?_⟩
      rw [← getD_of hi, h j, hA]
      exact sumN_congr fun t ht => by rw [map_take_rw (by omega) ht]
/-- a minor of m rows that is not 0: the rank is m or more -/
theorem rank_ge {M : List (List Int)} {w : Nat} (hw : RowsW w M) {X : List Vec} (hX : ∀ x ∈ X, ∃ row ∈ M, x = vec row) {cs : List Nat} (hd : Dt X cs ≠ 0) : X.length ≤ clrRank M := by
  obtain ⟨A, hA, _, hs, _⟩ := clr_span hw
  refine Nat.le_of_not_lt fun z => hd ?_
  exact congrFun (dt_dep (A := A) (fun x hx => by
    obtain ⟨row, h1, rfl⟩ := hX x hx
    exact hs row h1) (by omega)) cs
/-- all rows rest on m rows: the rank is m or less -/
theorem rank_le_of {M : List (List Int)} {w : Nat} (hw : RowsW w M) {A : List Vec} (h : ∀ row ∈ M, RestsOn A (vec row)) : clrRank M ≤ A.length := by
  obtain ⟨A', hA, hm, _, C, _, hd⟩ := clr_span hw
  refine Nat.le_of_not_lt fun z => hd ?_
  exact congrFun (dt_dep (A := A) (fun x hx => by
    obtain ⟨row, h1, rfl⟩ := hm x hx
    exact h row h1) (by omega)) C
end TL
namespace TL
/-! ### staircases of whole vectors: there is one for each lattice -/
/-- r's places at the leads of rs are reduced -/
def Red (r : Nat → Int) (rs : List (Nat → Int)) : Prop := ∀ s ∈ rs, ∀ m, (∀ j, j < m → s j = 0) → s m ≠ 0 → 0 ≤ r m ∧ r m < s m
/-- a staircase whose first lead is b or more -/
def Stc : Nat → List (Nat → Int) → Prop
  | _, [] => True
  | b, r :: rs => ∃ l, b ≤ l ∧ (∀ j, j < l → r j = 0) ∧ 0 < r l ∧ Stc (l + 1) rs ∧ Red r rs
/-- the whole sums of the rows -/
def Spn : List (Nat → Int) → (Nat → Int) → Prop
  | [], v => ∀ j, v j = 0
  | r :: rs, v => ∃ c : Int, Spn rs (fun j => v j - c * r j)
theorem Spn.zero : ∀ (S : List (Nat → Int)), Spn S (fun _ => 0)
  | [] => fun _ => rfl
  | r :: rs => ⟨0, by
    have := Spn.zero rs
    simpa using this⟩
theorem Spn.congr {S : List (Nat → Int)} {u v : Nat → Int} (h : ∀ j, u j = v j) (k : Spn S u) : Spn S v := by
  have : u = v := funext h
  rw [← this]
  exact k
theorem Spn.add : ∀ {S : List (Nat → Int)} {u v : Nat → Int}, Spn S u → Spn S v → Spn S (fun j => u j + v j)
  | [], u, v, h, k => fun j => by
    have := h j
    have := k j
    show u j + v j = 0
    omega
  | r :: rs, u, v, ⟨c, h⟩, ⟨d, k⟩ => ⟨c + d, (Spn.add h k).congr fun j => by
    show u j - c * r j + (v j - d * r j) = u j + v j - (c + d) * r j
    rw [Int.add_mul]
    omega⟩
theorem Spn.mul : ∀ {S : List (Nat → Int)} {u : Nat → Int} (k : Int), Spn S u → Spn S (fun j => k * u j)
  | [], u, k, h => fun j => by
    show k * u j = 0
    rw [h j, Int.mul_zero]
  | r :: rs, u, k, ⟨c, h⟩ => ⟨k * c, (Spn.mul k h).congr fun j => by rw [Int.mul_sub, Int.mul_assoc]⟩
theorem Spn.head (r : Nat → Int) (rs : List (Nat → Int)) : Spn (r :: rs) r := ⟨1, (Spn.zero rs).congr fun j => by omega⟩
theorem Spn.tail {r : Nat → Int} {rs : List (Nat → Int)} {v : Nat → Int} (h : Spn rs v) : Spn (r :: rs) v := ⟨0, h.congr fun j => by omega⟩
theorem Spn.mem {r : Nat → Int} : ∀ {S : List (Nat → Int)}, r ∈ S → Spn S r
  | s :: S, h => by
    rcases List.mem_cons.mp h with rfl | h
    · exact Spn.head _ _
    · exact (Spn.mem h).tail
/-- a span lies in another when its rows do -/
theorem Spn.sub : ∀ {S T : List (Nat → Int)}, (∀ r ∈ S, Spn T r) → ∀ {v : Nat → Int}, Spn S v → Spn T v
  | [], T, _, v, h => (Spn.zero T).congr fun j => (h j).symm
  | r :: rs, T, g, v, ⟨c, h⟩ => ((Spn.sub (fun x hx => g x (List.mem_cons_of_mem _ hx)) h).add ((g r (List.mem_cons_self ..)).mul c)).congr fun j => by omega
theorem Spn.below : ∀ {S : List (Nat → Int)} {b : Nat} {v : Nat → Int}, Stc b S → Spn S v → ∀ j, j < b → v j = 0
  | [], b, v, _, h, j, _ => h j
  | r :: rs, b, v, ⟨l, hl, h0, hp, hs, _⟩, ⟨c, h⟩, j, hj => by
    have h1 := Spn.below hs h j (by omega)
    have h2 := h0 j (by omega)
    rw [h2, Int.mul_zero] at h1
    omega
theorem Stc.le {b c : Nat} {S : List (Nat → Int)} (h : Stc b S) (hc : c ≤ b) : Stc c S := by
  cases S with
  | nil => trivial
  | cons r rs =>
    obtain ⟨l, hl, k⟩ := h
    exact ⟨l, by omega, k⟩
/-- what is small at all leads is nothing -/
theorem Spn.small : ∀ {S : List (Nat → Int)} {b : Nat} {d : Nat → Int}, Stc b S → Spn S d → (∀ s ∈ S, ∀ m, (∀ j, j < m → s j = 0) → s m ≠ 0 → (d m).natAbs < (s m).natAbs) → ∀ j, d j = 0
  | [], b, d, _, h, _, j => h j
  | r :: rs, b, d, ⟨l, hl, h0, hp, hs, _⟩, ⟨c, h⟩, g, j => by
    have h1 := Spn.below hs h l (by omega)
    have h2 := g r (List.mem_cons_self ..) l h0 (by omega)
    have hc : c = 0 := by
      rcases Int.lt_trichotomy c 0 with z | z | z
      · exfalso
        have e : d l = c * r l := by omega
        rw [e, Int.natAbs_mul] at h2
        have : 1 * (r l).natAbs ≤ c.natAbs * (r l).natAbs := Nat.mul_le_mul_right _ (by omega)
        omega
      · exact z
      · exfalso
        have e : d l = c * r l := by omega
        rw [e, Int.natAbs_mul] at h2
        have : 1 * (r l).natAbs ≤ c.natAbs * (r l).natAbs := Nat.mul_le_mul_right _ (by omega)
        omega
    subst hc
    have h3 : Spn rs d := h.congr fun j => by omega
    exact Spn.small hs h3 (fun s hs => g s (List.mem_cons_of_mem _ hs)) j
theorem Spn.drop {r : Nat → Int} {rs : List (Nat → Int)} {l : Nat} {v : Nat → Int} (hs : Stc (l + 1) rs) (hp : 0 < r l) (h : Spn (r :: rs) v) (hv : v l = 0) : Spn rs v := by
  obtain ⟨c, h⟩ := h
  have h1 := Spn.below hs h l (by omega)
  have h2 : c * r l = 0 := by omega
  rcases Int.mul_eq_zero.mp h2 with z | z
  · subst z
    exact h.congr fun j => by omega
  · omega
theorem str_uniq : ∀ {S T : List (Nat → Int)} {b : Nat}, Stc b S → Stc b T → (∀ v, Spn S v ↔ Spn T v) → S = T
  | [], [], _, _, _, _ => rfl
  | [], t :: ts, _, _, ⟨l, _, _, hp, _⟩, e => by
    have := (e t).mpr (Spn.head t ts) l
    omega
  | r :: rs, [], _, ⟨l, _, _, hp, _⟩, _, e => by
    have := (e r).mp (Spn.head r rs) l
    omega
  | r :: rs, t :: ts, b, ⟨l, hl, h0, hp, hs, hr⟩, ⟨m, hm, k0, kp, ks, kr⟩, e => by
    have e1 : m ≤ l := by
      rcases Nat.lt_or_ge l m with z | z
      · have := Spn.below (b := m) (S := t :: ts) ⟨m, Nat.le_refl _, k0, kp, ks, kr⟩ ((e r).mp (Spn.head r rs)) l z
        omega
      · exact z
    have e2 : l ≤ m := by
      rcases Nat.lt_or_ge m l with z | z
      · have := Spn.below (b := l) (S := r :: rs) ⟨l, Nat.le_refl _, h0, hp, hs, hr⟩ ((e t).mpr (Spn.head t ts)) m z
        omega
      · exact z
    obtain rfl : l = m := by omega
    have e3 : ∀ v, Spn rs v ↔ Spn ts v := fun v => ⟨fun h => Spn.drop ks kp ((e v).mp h.tail) (Spn.below hs h l (by omega)), fun h => Spn.drop hs hp ((e v).mpr h.tail) (Spn.below ks h l (by omega))⟩
    have e4 : rs = ts := str_uniq hs ks e3
    subst e4
    have hlt : r l = t l := by
      obtain ⟨c, h⟩ := (e r).mp (Spn.head r rs)
      obtain ⟨d, k⟩ := (e t).mpr (Spn.head t rs)
      have h1 : r l - c * t l = 0 := Spn.below hs h l (by omega)
      have k1 : t l - d * r l = 0 := Spn.below hs k l (by omega)
      have c1 : 0 < c := by
        rcases Int.lt_or_le 0 c with z | z
        · exact z
        · have : c * t l ≤ 0 := Int.mul_nonpos_of_nonpos_of_nonneg z (by omega)
          omega
      have d1 : 0 < d := by
        rcases Int.lt_or_le 0 d with z | z
        · exact z
        · have : d * r l ≤ 0 := Int.mul_nonpos_of_nonpos_of_nonneg z (by omega)
          omega
      have c2 : 1 * t l ≤ c * t l := Int.mul_le_mul_of_nonneg_right (by omega) (by omega)
      have d2 : 1 * r l ≤ d * r l := Int.mul_le_mul_of_nonneg_right (by omega) (by omega)
      omega
    have hd : Spn rs (fun j => r j - t j) := by
      obtain ⟨c, h⟩ := (e r).mp (Spn.head r rs)
      refine Spn.drop hs kp (r := t) ⟨c - 1, h.congr fun j => ?_⟩ (by show r l - t l = 0; omega)
      show r j - c * t j = r j - t j - (c - 1) * t j
      rw [Int.sub_mul]
      omega
    have hz := Spn.small hs hd fun s hs m h1 h2 => by
      have a1 := hr s hs m h1 h2
      have a2 := kr s hs m h1 h2
      show (r m - t m).natAbs < _
      omega
    have : r = t := funext fun j => by
      have := hz j
      omega
    rw [this]
end TL
namespace TL
def vecL (v : List Int) : Nat → Int := fun j => v.getD j 0
/-- the first place that is not 0 -/
def leadOf : List Int → Option Nat
  | [] => none
  | x :: xs => if x ≠ 0 then some 0 else (leadOf xs).map (· + 1)
def lessL (v : List Int) (t : Int) (r : List Int) : List Int := List.zipWith (fun own item => own - t * item) v r
theorem lead_none : ∀ {v : List Int}, leadOf v = none → ∀ j, vecL v j = 0
  | [], _, j => rfl
  | x :: xs, h, j => by
    unfold leadOf at h
    by_cases c : x ≠ 0
    · rw [if_pos c] at h
      cases h
    · rw [if_neg c] at h
      have h2 : leadOf xs = none := by
        cases e : leadOf xs with
        | none => rfl
        | some i => rw [e] at h; cases h
      cases j with
      | zero => exact Decidable.not_not.mp c
      | succ j => exact lead_none h2 j
theorem lead_some : ∀ {v : List Int} {l : Nat}, leadOf v = some l → (∀ j, j < l → vecL v j = 0) ∧ vecL v l ≠ 0 ∧ l < v.length
  | [], _, h => by cases h
  | x :: xs, l, h => by
    unfold leadOf at h
    by_cases c : x ≠ 0
    · rw [if_pos c] at h
      cases h
      exact ⟨fun j hj => by omega, c, Nat.succ_pos _⟩
    · rw [if_neg c] at h
      obtain ⟨i, hi, rfl⟩ := Option.map_eq_some_iff.mp h
      obtain ⟨h1, h2, h3⟩ := lead_some hi
      refine ⟨fun j hj => ?_, h2, Nat.succ_lt_succ h3⟩
      cases j with
      | zero => exact Decidable.not_not.mp c
      | succ j => exact h1 j (by omega)
theorem less_len {v r : List Int} {t : Int} (h : v.length = r.length) : (lessL v t r).length = v.length := by
  unfold lessL
  rw [List.length_zipWith]
  omega
theorem less_vec {v r : List Int} {t : Int} (h : v.length = r.length) : vecL (lessL v t r) = fun j => vecL v j - t * vecL r j := by
  funext j
  unfold vecL lessL
  rw [List.getD_eq_getElem?_getD, List.getD_eq_getElem?_getD, List.getD_eq_getElem?_getD, List.getElem?_zipWith]
  rcases Nat.lt_or_ge j v.length with z | z
  · rw [List.getElem?_eq_getElem z, List.getElem?_eq_getElem (by omega)]
    rfl
  · rw [List.getElem?_eq_none z, List.getElem?_eq_none (by omega)]
    show (0 : Int) = 0 - t * 0
    omega
theorem fmod_lt (a : Int) {b : Int} (hb : b ≠ 0) : (a - a.fdiv b * b).natAbs < b.natAbs := by
  have h := Int.mul_fdiv_add_fmod a b
  rw [Int.mul_comm] at h
  have e : a - a.fdiv b * b = a.fmod b := by omega
  rw [e]
  rcases Int.lt_or_gt_of_ne hb with c | c
  · have h1 := Int.fmod_nonneg_of_pos (-a) (b := -b) (by omega)
    have h2 := Int.fmod_lt_of_pos (-a) (b := -b) (by omega)
    have h3 : (-a).fmod (-b) = - a.fmod b := Int.neg_fmod_neg ..
    omega
  · have h1 := Int.fmod_nonneg_of_pos a c
    have h2 := Int.fmod_lt_of_pos a c
    omega
/-- Euclid on two rows, as the program does it; fuel: the size of the second's place -/
def dvd2 (l : Nat) : Nat → List Int → List Int → List Int × List Int
  | 0, row, vec => (row, vec)
  | n + 1, row, vec => if vecL vec l ≠ 0 then dvd2 l n vec (lessL row ((vecL row l).fdiv (vecL vec l)) vec) else (row, vec)
theorem dvd2_ok {w l : Nat} : ∀ (n : Nat) (row vec : List Int), row.length = w → vec.length = w → (vecL vec l).natAbs ≤ n → (vecL row l ≠ 0 ∨ vecL vec l ≠ 0) → (∀ j, j < l → vecL row j = 0) → (∀ j, j < l → vecL vec j = 0) →
    ∃ r v, dvd2 l n row vec = (r, v) ∧ r.length = w ∧ v.length = w ∧ vecL v l = 0 ∧ vecL r l ≠ 0 ∧ (∀ j, j < l → vecL r j = 0) ∧ (∀ j, j < l → vecL v j = 0) ∧ ∀ S u, Spn (vecL r :: vecL v :: S) u ↔ Spn (vecL row :: vecL vec :: S) u
  | 0, row, vec, hr, hv, hn, h0, z1, z2 => by
    refine ⟨row, vec, rfl, hr, hv, by omega, by omega, z1, z2, fun S u => Iff.rfl⟩
  | n + 1, row, vec, hr, hv, hn, h0, z1, z2 => by
    unfold dvd2
    by_cases c : vecL vec l ≠ 0
    · rw [if_pos c]
      have e := less_vec (v := row) (r := vec) (t := (vecL row l).fdiv (vecL vec l)) (by omega)
      have hl := less_len (v := row) (r := vec) (t := (vecL row l).fdiv (vecL vec l)) (by omega)
      have hb := fmod_lt (vecL row l) c
      have e1 : vecL (lessL row ((vecL row l).fdiv (vecL vec l)) vec) l = vecL row l - (vecL row l).fdiv (vecL vec l) * vecL vec l := by rw [e]
      obtain ⟨r, v, a1, a2, a3, a4, a5, a6, a7, a8⟩ := dvd2_ok n vec (lessL row ((vecL row l).fdiv (vecL vec l)) vec) hv (by omega) (by rw [e1]; omega) (.inl c) z2 (fun j hj => by rw [e]; show vecL row j - _ * vecL vec j = 0; rw [z1 j hj, z2 j hj]; omega)
      refine ⟨r, v, a1, a2, a3, a4, a5, a6, a7, fun S u => (a8 S u).trans ?_⟩
      rw [e]
      generalize (vecL row l).fdiv (vecL vec l) = t
      constructor
      · refine Spn.sub fun x hx => ?_
        rcases List.mem_cons.mp hx with rfl | hx
        · exact (Spn.head _ _).tail
        · rcases List.mem_cons.mp hx with rfl | hx
          · exact ((Spn.head (vecL row) _).add (((Spn.head (vecL vec) S).tail).mul (-t))).congr fun j => by
              show vecL row j + -t * vecL vec j = vecL row j - t * vecL vec j
              rw [Int.neg_mul]
              omega
          · exact (Spn.mem hx).tail.tail
      · refine Spn.sub fun x hx => ?_
        rcases List.mem_cons.mp hx with rfl | hx
        · exact (((Spn.head (fun j => vecL row j - t * vecL vec j) S).tail).add ((Spn.head (vecL vec) _).mul t)).congr fun j => by
            show vecL row j - t * vecL vec j + t * vecL vec j = vecL row j
            omega
        · rcases List.mem_cons.mp hx with rfl | hx
          · exact Spn.head _ _
          · exact (Spn.mem hx).tail.tail
    · rw [if_neg c]
      exact ⟨row, vec, rfl, hr, hv, by omega, by omega, z1, z2, fun S u => Iff.rfl⟩
/-! ### a vector put into stairs -/
def Ech : Nat → List (Nat → Int) → Prop
  | _, [] => True
  | b, r :: rs => ∃ l, b ≤ l ∧ (∀ j, j < l → r j = 0) ∧ r l ≠ 0 ∧ Ech (l + 1) rs
theorem Ech.le {b c : Nat} {S : List (Nat → Int)} (h : Ech b S) (hc : c ≤ b) : Ech c S := by
  cases S with
  | nil => trivial
  | cons r rs =>
    obtain ⟨l, hl, k⟩ := h
    exact ⟨l, by omega, k⟩
theorem Spn.cons {r : Nat → Int} {A B : List (Nat → Int)} (h : ∀ u, Spn A u ↔ Spn B u) (u : Nat → Int) : Spn (r :: A) u ↔ Spn (r :: B) u := ⟨fun ⟨c, k⟩ => ⟨c, (h _).mp k⟩, fun ⟨c, k⟩ => ⟨c, (h _).mpr k⟩⟩
theorem Spn.swap {a b : Nat → Int} {S : List (Nat → Int)} (u : Nat → Int) : Spn (a :: b :: S) u ↔ Spn (b :: a :: S) u := by
  have g : ∀ (a b : Nat → Int), ∀ x ∈ a :: b :: S, Spn (b :: a :: S) x := fun a b x hx => by
    rcases List.mem_cons.mp hx with rfl | hx
    · exact (Spn.head _ _).tail
    · rcases List.mem_cons.mp hx with rfl | hx
      · exact Spn.head _ _
      · exact (Spn.mem hx).tail.tail
  exact ⟨Spn.sub (g a b), Spn.sub (g b a)⟩
theorem Spn.nought {a : Nat → Int} {S : List (Nat → Int)} (h : ∀ j, a j = 0) (u : Nat → Int) : Spn (a :: S) u ↔ Spn S u := ⟨fun ⟨c, k⟩ => k.congr fun j => by rw [h j]; omega, fun k => k.tail⟩
def withV : List (List Int) → List Int → List (List Int)
  | [], v => match leadOf v with
    | none => []
    | some _ => [v]
  | r :: rs, v => match leadOf v with
    | none => r :: withV rs v
    | some own => match leadOf r with
      | none => r :: withV rs v
      | some lead => if lead < own then r :: withV rs v else if own < lead then v :: withV rs r else (dvd2 lead (vecL v lead).natAbs r v).1 :: withV rs (dvd2 lead (vecL v lead).natAbs r v).2
theorem lead_uniq {v : List Int} {l m : Nat} (h : leadOf v = some l) (z : ∀ j, j < m → vecL v j = 0) (n : vecL v m ≠ 0) : l = m := by
  obtain ⟨h1, h2, _⟩ := lead_some h
  rcases Nat.lt_trichotomy l m with c | c | c
  · exact absurd (z l c) h2
  · exact c
  · exact absurd (h1 m c) n
theorem withV_ok {w : Nat} : ∀ (S : List (List Int)) (v : List Int) (b : Nat), (∀ r ∈ S, r.length = w) → v.length = w → Ech b (S.map vecL) → (∀ j, j < b → vecL v j = 0) →
    (∀ r ∈ withV S v, r.length = w) ∧ Ech b ((withV S v).map vecL) ∧ ∀ u, Spn ((withV S v).map vecL) u ↔ Spn (vecL v :: S.map vecL) u
  | [], v, b, hS, hv, he, hz => by
    unfold withV
    cases h : leadOf v with
    | none =>
      dsimp only
      refine ⟨fun r hr => (by cases hr), trivial, fun u => ?_⟩
      exact (Spn.nought (lead_none h) u).symm
    | some l =>
      dsimp only
      obtain ⟨h1, h2, _⟩ := lead_some h
      refine ⟨fun r hr => by rw [List.mem_singleton.mp hr]; exact hv, ⟨l, ?_, h1, h2, trivial⟩, fun u => Iff.rfl⟩
      rcases Nat.lt_or_ge l b with c | c
      · exact absurd (hz l c) h2
      · exact c
  | r :: rs, v, b, hS, hv, ⟨l, hl, h0, hp, he⟩, hz => by
    have hr := hS r (List.mem_cons_self ..)
    have hrs : ∀ x ∈ rs, x.length = w := fun x hx => hS x (List.mem_cons_of_mem _ hx)
    -- r stays
    have stay : (∀ j, j < l + 1 → vecL v j = 0) → (∀ x ∈ r :: withV rs v, x.length = w) ∧ Ech b ((r :: withV rs v).map vecL) ∧ ∀ u, Spn ((r :: withV rs v).map vecL) u ↔ Spn (vecL v :: (r :: rs).map vecL) u := fun hz' => by
      obtain ⟨a1, a2, a3⟩ := withV_ok rs v (l + 1) hrs hv he hz'
      refine ⟨fun x hx => ?_, ⟨l, hl, h0, hp, a2⟩, fun u => (Spn.cons a3 u).trans (Spn.swap u)⟩
      rcases List.mem_cons.mp hx with rfl | hx
      · exact hr
      · exact a1 x hx
    unfold withV
    cases h : leadOf v with
    | none => exact stay fun j _ => lead_none h j
    | some own =>
      obtain ⟨h1, h2, _⟩ := lead_some h
      have hob : b ≤ own := by
        rcases Nat.lt_or_ge own b with c | c
        · exact absurd (hz own c) h2
        · exact c
      cases k : leadOf r with
      | none => exact absurd (lead_none k l) hp
      | some lead =>
        obtain rfl := lead_uniq k h0 hp
        dsimp only
        by_cases c1 : lead < own
        · rw [if_pos c1]
          exact stay fun j hj => h1 j (by omega)
        · rw [if_neg c1]
          by_cases c2 : own < lead
          · rw [if_pos c2]
            obtain ⟨a1, a2, a3⟩ := withV_ok rs r (own + 1) hrs hr (he.le (by omega)) (fun j hj => h0 j (by omega))
            refine ⟨fun x hx => ?_, ⟨own, hob, h1, h2, a2⟩, fun u => Spn.cons a3 u⟩
            rcases List.mem_cons.mp hx with rfl | hx
            · exact hv
            · exact a1 x hx
          · rw [if_neg c2]
            obtain rfl : own = lead := by omega
            obtain ⟨r', v', e, b1, b2, b3, b4, b5, b6, b7⟩ := dvd2_ok (vecL v own).natAbs r v hr hv (Nat.le_refl _) (.inl hp) h0 h1
            rw [e]
            dsimp only
            obtain ⟨a1, a2, a3⟩ := withV_ok rs v' (own + 1) hrs b2 he (fun j hj => by
              rcases Nat.lt_or_ge j own with z | z
              · exact b6 j z
              · obtain rfl : j = own := by omega
                exact b3)
            refine ⟨fun x hx => ?_, ⟨own, hl, b5, b4, a2⟩, fun u => ((Spn.cons a3 u).trans (b7 _ u)).trans (Spn.swap u)⟩
            rcases List.mem_cons.mp hx with rfl | hx
            · exact b1
            · exact a1 x hx
end TL
namespace TL
/-! ### the rows settled: positive leads, reduced above -/
def StrI : Nat → Nat → List (Nat → Int) → Prop
  | b, c, [] => True
  | b, c, r :: rs => ∃ l, b ≤ l ∧ l < c ∧ (∀ j, j < l → r j = 0) ∧ 0 < r l ∧ StrI (l + 1) c rs ∧ Red r rs
theorem StrI.str : ∀ {S : List (Nat → Int)} {b c : Nat}, StrI b c S → Stc b S
  | [], _, _, _ => trivial
  | r :: rs, b, c, ⟨l, h1, h2, h3, h4, h5, h6⟩ => ⟨l, h1, h3, h4, h5.str, h6⟩
theorem StrI.lead : ∀ {S : List (Nat → Int)} {b c : Nat} {s : Nat → Int}, StrI b c S → s ∈ S → ∃ l, b ≤ l ∧ l < c ∧ (∀ j, j < l → s j = 0) ∧ 0 < s l
  | r :: rs, b, c, s, ⟨l, h1, h2, h3, h4, h5, h6⟩, hs => by
    rcases List.mem_cons.mp hs with rfl | hs
    · exact ⟨l, h1, h2, h3, h4⟩
    · obtain ⟨m, g1, g⟩ := h5.lead hs
      exact ⟨m, by omega, g⟩
theorem StrI.le {S : List (Nat → Int)} {b c d : Nat} (h : StrI b c S) (hd : c ≤ d) : StrI b d S := by
  induction S generalizing b with
  | nil => trivial
  | cons r rs ih =>
    obtain ⟨l, h1, h2, h3, h4, h5, h6⟩ := h
    exact ⟨l, h1, by omega, h3, h4, ih h5, h6⟩
/-- an upper row, reduced at the place m of row -/
def redF (row : Nat → Int) (m : Nat) (up : Nat → Int) : Nat → Int := fun j => up j - (up m).fdiv (row m) * row j
theorem red_fmod (a : Int) {b : Int} (hb : 0 < b) : 0 ≤ a - a.fdiv b * b ∧ a - a.fdiv b * b < b := by
  have h := Int.mul_fdiv_add_fmod a b
  rw [Int.mul_comm] at h
  have h1 := Int.fmod_nonneg_of_pos a hb
  have h2 := Int.fmod_lt_of_pos a hb
  omega
theorem redF_low {row up : Nat → Int} {m j : Nat} (h : row j = 0) : redF row m up j = up j := by
  unfold redF
  rw [h]
  omega
theorem lead_same {s : Nat → Int} {l m : Nat} (h1 : ∀ j, j < l → s j = 0) (h2 : s l ≠ 0) (h3 : ∀ j, j < m → s j = 0) (h4 : s m ≠ 0) : l = m := by
  rcases Nat.lt_trichotomy l m with c | c | c
  · exact absurd (h3 l c) h2
  · exact c
  · exact absurd (h1 m c) h4
theorem strI_snoc {row : Nat → Int} {m : Nat} (z : ∀ j, j < m → row j = 0) (hp : 0 < row m) : ∀ {S : List (Nat → Int)} {b c : Nat}, StrI b c S → c ≤ m → b ≤ m → StrI b (m + 1) (S.map (redF row m) ++ [row])
  | [], b, c, _, _, hb => ⟨m, hb, Nat.lt_succ_self m, z, hp, trivial, fun s hs => by cases hs⟩
  | r :: rs, b, c, ⟨l, h1, h2, h3, h4, h5, h6⟩, hc, hb => by
    have low : ∀ (up : Nat → Int) j, j < m → redF row m up j = up j := fun up j hj => redF_low (z j hj)
    refine ⟨l, h1, by omega, fun j hj => by rw [low r j (by omega)]; exact h3 j hj, by rw [low r l (by omega)]; exact h4, strI_snoc z hp h5 hc (by omega), fun s' hs' k k1 k2 => ?_⟩
    rcases List.mem_append.mp hs' with hs' | hs'
    · obtain ⟨s, hs, rfl⟩ := List.mem_map.mp hs'
      obtain ⟨ls, g1, g2, g3, g4⟩ := h5.lead hs
      have e : ls = k := lead_same (s := redF row m s) (fun j hj => by rw [low s j (by omega)]; exact g3 j hj) (by rw [low s ls (by omega)]; omega) k1 k2
      subst e
      rw [low r ls (by omega), low s ls (by omega)]
      exact h6 s hs ls g3 (by omega)
    · rw [List.mem_singleton.mp hs'] at k1 k2 ⊢
      have e : m = k := lead_same z (by omega) k1 k2
      subst e
      exact red_fmod (r m) hp
/-- the rows settled one by one -/
def settle : List (List Int) → List (List Int) → List (List Int)
  | acc, [] => acc
  | acc, row :: rest =>
    let m := (leadOf row).getD 0
    let row' := if vecL row m < 0 then row.map (- ·) else row
    settle (acc.map (fun up => lessL up ((vecL up m).fdiv (vecL row' m)) row') ++ [row']) rest
theorem vec_neg (v : List Int) : vecL (v.map (- ·)) = fun j => - vecL v j := by
  funext j
  unfold vecL
  rw [List.getD_eq_getElem?_getD, List.getD_eq_getElem?_getD, List.getElem?_map]
  cases v[j]? with
  | none => rfl
  | some u => rfl
/-- the span of a list is that of its rows, in any order -/
theorem Spn.iff {S T : List (Nat → Int)} (h : ∀ r ∈ S, Spn T r) (k : ∀ r ∈ T, Spn S r) (u : Nat → Int) : Spn S u ↔ Spn T u := ⟨Spn.sub h, Spn.sub k⟩
theorem settle_ok {w : Nat} : ∀ (rest acc : List (List Int)) (c : Nat), (∀ r ∈ acc, r.length = w) → (∀ r ∈ rest, r.length = w) → StrI 0 c (acc.map vecL) → Ech c (rest.map vecL) →
    (∀ r ∈ settle acc rest, r.length = w) ∧ Stc 0 ((settle acc rest).map vecL) ∧ ∀ u, Spn ((settle acc rest).map vecL) u ↔ Spn ((acc ++ rest).map vecL) u
  | [], acc, c, ha, _, hs, _ => by
    rw [List.append_nil]
    exact ⟨ha, hs.str, fun u => Iff.rfl⟩
  | row :: rest, acc, c, ha, hr, hs, ⟨l, hl, h0, hp, he⟩ => by
    have hrow := hr row (List.mem_cons_self ..)
    have hm : (leadOf row).getD 0 = l := by
      cases k : leadOf row with
      | none => exact absurd (lead_none k l) hp
      | some m => exact lead_uniq k h0 hp
    unfold settle
    rw [hm]
    dsimp only
    generalize e : (if vecL row l < 0 then row.map (- ·) else row) = row'
    have hrow' : row'.length = w := by
      rw [← e]
      split
      · rw [List.length_map]; exact hrow
      · exact hrow
    have hsg : (∀ j, vecL row' j = vecL row j) ∨ (∀ j, vecL row' j = - vecL row j) := by
      rw [← e]
      split
      · exact .inr fun j => by rw [vec_neg]
      · exact .inl fun j => rfl
    have h0' : ∀ j, j < l → vecL row' j = 0 := fun j hj => by
      have := h0 j hj
      rcases hsg with g | g <;> rw [g] <;> omega
    have hp' : 0 < vecL row' l := by
      rw [← e]
      split
      · rw [vec_neg]
        show 0 < - vecL row l
        omega
      · omega
    have em : ∀ up ∈ acc, vecL (lessL up ((vecL up l).fdiv (vecL row' l)) row') = redF (vecL row') l (vecL up) := fun up hu => by
      rw [less_vec (by rw [ha up hu, hrow'])]
      rfl
    have emap : (acc.map (fun up => lessL up ((vecL up l).fdiv (vecL row' l)) row') ++ [row']).map vecL = (acc.map vecL).map (redF (vecL row') l) ++ [vecL row'] := by
      rw [List.map_append, List.map_map, List.map_map]
      congr 1
      exact List.map_congr_left fun up hu => em up hu
    obtain ⟨a1, a2, a3⟩ := settle_ok rest (acc.map (fun up => lessL up ((vecL up l).fdiv (vecL row' l)) row') ++ [row']) (l + 1) (fun x hx => by
      rcases List.mem_append.mp hx with hx | hx
      · obtain ⟨up, hu, rfl⟩ := List.mem_map.mp hx
        rw [less_len (by rw [ha up hu, hrow'])]
        exact ha up hu
      · rw [List.mem_singleton.mp hx]
        exact hrow') (fun x hx => hr x (List.mem_cons_of_mem _ hx)) (by
      rw [emap]
      exact strI_snoc h0' hp' hs hl (Nat.zero_le _)) he
    refine ⟨a1, a2, fun u => (a3 u).trans ?_⟩
    rw [List.map_append, emap, List.map_append, List.map_cons]
    have r1 : ∀ T : List (Nat → Int), Spn T (vecL row') → Spn T (vecL row) := fun T h => by
      rcases hsg with g | g
      · exact h.congr g
      · exact (h.mul (-1)).congr fun j => by show -1 * vecL row' j = vecL row j; rw [g]; omega
    have r2 : ∀ T : List (Nat → Int), Spn T (vecL row) → Spn T (vecL row') := fun T h => by
      rcases hsg with g | g
      · exact h.congr fun j => (g j).symm
      · exact (h.mul (-1)).congr fun j => by show -1 * vecL row j = vecL row' j; rw [g]; omega
    refine Spn.iff (fun x hx => ?_) (fun x hx => ?_) u
    · have hrow2 : Spn (acc.map vecL ++ vecL row :: rest.map vecL) (vecL row') := r2 _ (Spn.mem (List.mem_append_right _ (List.mem_cons_self ..)))
      rcases List.mem_append.mp hx with hx | hx
      · rcases List.mem_append.mp hx with hx | hx
        · obtain ⟨up, hu, rfl⟩ := List.mem_map.mp hx
          have h1 : Spn (acc.map vecL ++ vecL row :: rest.map vecL) up := Spn.mem (List.mem_append_left _ hu)
          exact (h1.add (hrow2.mul (-((up l).fdiv (vecL row' l))))).congr fun j => by
            show up j + -((up l).fdiv (vecL row' l)) * vecL row' j = up j - (up l).fdiv (vecL row' l) * vecL row' j
            rw [Int.neg_mul]
            omega
        · rw [List.mem_singleton.mp hx]
          exact hrow2
      · exact Spn.mem (List.mem_append_right _ (List.mem_cons_of_mem _ hx))
    · have hrow2 : Spn ((acc.map vecL).map (redF (vecL row') l) ++ [vecL row'] ++ rest.map vecL) (vecL row') := Spn.mem (List.mem_append_left _ (List.mem_append_right _ (List.mem_singleton.mpr rfl)))
      rcases List.mem_append.mp hx with hx | hx
      · have h1 : Spn ((acc.map vecL).map (redF (vecL row') l) ++ [vecL row'] ++ rest.map vecL) (redF (vecL row') l x) := Spn.mem (List.mem_append_left _ (List.mem_append_left _ (List.mem_map.mpr ⟨x, hx, rfl⟩)))
        exact (h1.add (hrow2.mul ((x l).fdiv (vecL row' l)))).congr fun j => by
          show x j - (x l).fdiv (vecL row' l) * vecL row' j + (x l).fdiv (vecL row' l) * vecL row' j = x j
          omega
      · rcases List.mem_cons.mp hx with rfl | hx
        · exact r1 _ hrow2
        · exact Spn.mem (List.mem_append_right _ hx)
end TL
namespace TL
theorem Stc.ech : ∀ {S : List (Nat → Int)} {b : Nat}, Stc b S → Ech b S
  | [], _, _ => trivial
  | r :: rs, b, ⟨l, h1, h2, h3, h4, _⟩ => ⟨l, h1, h2, by omega, h4.ech⟩
theorem Stc.zero {S : List (Nat → Int)} {b : Nat} (h : Stc b S) : Stc 0 S := h.le (Nat.zero_le _)
/-- what is left of a vector on stairs -/
def remV : List (List Int) → List Int → List Int
  | [], v => v
  | r :: rs, v => remV rs (lessL v ((vecL v ((leadOf r).getD 0)).fdiv (vecL r ((leadOf r).getD 0))) r)
theorem remV_ok {w : Nat} : ∀ (S : List (List Int)) (v : List Int) (b : Nat), (∀ r ∈ S, r.length = w) → v.length = w → Stc b (S.map vecL) → (remV S v).length = w ∧ ((∀ j, vecL (remV S v) j = 0) ↔ Spn (S.map vecL) (vecL v))
  | [], v, b, _, hv, _ => ⟨hv, Iff.rfl⟩
  | r :: rs, v, b, hS, hv, ⟨l, hl, h0, hp, hs, hr⟩ => by
    have hrl := hS r (List.mem_cons_self ..)
    have hm : (leadOf r).getD 0 = l := by
      cases k : leadOf r with
      | none => have := lead_none k l; omega
      | some m => exact lead_uniq k h0 (by omega)
    unfold remV
    rw [hm]
    obtain ⟨a1, a2⟩ := remV_ok rs (lessL v ((vecL v l).fdiv (vecL r l)) r) (l + 1) (fun x hx => hS x (List.mem_cons_of_mem _ hx)) (by rw [less_len (by omega)]; exact hv) hs
    refine ⟨a1, a2.trans ?_⟩
    rw [less_vec (by omega)]
    constructor
    · intro h
      exact ⟨_, h⟩
    · rintro ⟨c, h⟩
      have h1 : vecL v l - c * vecL r l = 0 := Spn.below hs h l (by omega)
      have e : (vecL v l).fdiv (vecL r l) = c := by
        rw [show vecL v l = c * vecL r l by omega]
        exact Int.mul_fdiv_cancel _ (by omega)
      rw [e]
      exact h
/-- the staircase of vectors; those that lie within are left out -/
def stairStep (S : List (List Int)) (v : List Int) : List (List Int) := if (remV S v).all (· == 0) then S else settle [] (withV S v)
def stairsOf (vs : List (List Int)) : List (List Int) := vs.foldl stairStep []
theorem all_zero {v : List Int} : v.all (· == 0) = true ↔ ∀ j, vecL v j = 0 := by
  rw [List.all_eq_true]
  constructor
  · intro h j
    unfold vecL
    rw [List.getD_eq_getElem?_getD]
    cases k : v[j]? with
    | none => rfl
    | some x => exact eq_of_beq (h x (List.mem_of_getElem? k))
  · intro h x hx
    obtain ⟨j, hj⟩ := List.mem_iff_getElem?.mp hx
    have := h j
    unfold vecL at this
    rw [List.getD_eq_getElem?_getD, hj] at this
    exact beq_iff_eq.mpr this
theorem step_ok {w : Nat} {S : List (List Int)} {v : List Int} (hS : ∀ r ∈ S, r.length = w) (hv : v.length = w) (hs : Stc 0 (S.map vecL)) :
    (∀ r ∈ stairStep S v, r.length = w) ∧ Stc 0 ((stairStep S v).map vecL) ∧ ∀ u, Spn ((stairStep S v).map vecL) u ↔ Spn (vecL v :: S.map vecL) u := by
  have hr := remV_ok S v 0 hS hv hs
  unfold stairStep
  by_cases c : (remV S v).all (· == 0) = true
  · rw [if_pos c]
    refine ⟨hS, hs, fun u => Spn.iff (fun x hx => (Spn.mem hx).tail) (fun x hx => ?_) u⟩
    rcases List.mem_cons.mp hx with rfl | hx
    · exact hr.2.mp (all_zero.mp c)
    · exact Spn.mem hx
  · rw [if_neg c]
    obtain ⟨a1, a2, a3⟩ := withV_ok S v 0 hS hv hs.ech (fun j hj => by omega)
    obtain ⟨b1, b2, b3⟩ := settle_ok (withV S v) [] 0 (fun r hr => by cases hr) a1 trivial a2
    exact ⟨b1, b2, fun u => (b3 u).trans (a3 u)⟩
theorem fold_ok {w : Nat} : ∀ (vs S : List (List Int)), (∀ v ∈ vs, v.length = w) → (∀ r ∈ S, r.length = w) → Stc 0 (S.map vecL) →
    (∀ r ∈ vs.foldl stairStep S, r.length = w) ∧ Stc 0 ((vs.foldl stairStep S).map vecL) ∧ ∀ u, Spn ((vs.foldl stairStep S).map vecL) u ↔ Spn (S.map vecL ++ vs.map vecL) u
  | [], S, _, hS, hs => by
    rw [List.map_nil, List.append_nil]
    exact ⟨hS, hs, fun u => Iff.rfl⟩
  | v :: vs, S, hv, hS, hs => by
    obtain ⟨a1, a2, a3⟩ := step_ok hS (hv v (List.mem_cons_self ..)) hs
    obtain ⟨b1, b2, b3⟩ := fold_ok vs (stairStep S v) (fun x hx => hv x (List.mem_cons_of_mem _ hx)) a1 a2
    refine ⟨b1, b2, fun u => (b3 u).trans (Spn.iff (fun x hx => ?_) (fun x hx => ?_) u)⟩
    · rcases List.mem_append.mp hx with hx | hx
      · refine Spn.sub (S := vecL v :: S.map vecL) (fun y hy => ?_) ((a3 x).mp (Spn.mem hx))
        rcases List.mem_cons.mp hy with rfl | hy
        · exact Spn.mem (List.mem_append_right _ (List.mem_cons_self ..))
        · exact Spn.mem (List.mem_append_left _ hy)
      · exact Spn.mem (List.mem_append_right _ (List.mem_cons_of_mem _ hx))
    · rcases List.mem_append.mp hx with hx | hx
      · exact Spn.sub (fun y hy => Spn.mem (List.mem_append_left _ hy)) ((a3 x).mpr (Spn.mem hx).tail)
      · rcases List.mem_cons.mp hx with rfl | hx
        · exact Spn.sub (fun y hy => Spn.mem (List.mem_append_left _ hy)) ((a3 _).mpr (Spn.head _ _))
        · exact Spn.mem (List.mem_append_right _ hx)
theorem stairs_ok {w : Nat} {vs : List (List Int)} (h : ∀ v ∈ vs, v.length = w) : (∀ r ∈ stairsOf vs, r.length = w) ∧ Stc 0 ((stairsOf vs).map vecL) ∧ ∀ u, Spn ((stairsOf vs).map vecL) u ↔ Spn (vs.map vecL) u :=
  fold_ok vs [] h (fun r hr => by cases hr) trivial
theorem vecL_inj {w : Nat} {a b : List Int} (ha : a.length = w) (hb : b.length = w) (h : vecL a = vecL b) : a = b := by
  refine List.ext_getElem (by omega) fun j h1 h2 => ?_
  have := congrFun h j
  unfold vecL at this
  rw [List.getD_eq_getElem?_getD, List.getD_eq_getElem?_getD, List.getElem?_eq_getElem h1, List.getElem?_eq_getElem h2] at this
  exact this
theorem vecL_maps {w : Nat} : ∀ {A B : List (List Int)}, (∀ r ∈ A, r.length = w) → (∀ r ∈ B, r.length = w) → A.map vecL = B.map vecL → A = B
  | [], [], _, _, _ => rfl
  | [], b :: bs, _, _, h => by cases h
  | a :: as, [], _, _, h => by cases h
  | a :: as, b :: bs, ha, hb, h => by
    rw [List.map_cons, List.map_cons, List.cons.injEq] at h
    rw [vecL_inj (ha a (List.mem_cons_self ..)) (hb b (List.mem_cons_self ..)) h.1, vecL_maps (fun r hr => ha r (List.mem_cons_of_mem _ hr)) (fun r hr => hb r (List.mem_cons_of_mem _ hr)) h.2]
/-- two staircases of one span are one -/
theorem stairs_one {w : Nat} {A B : List (List Int)} (ha : ∀ r ∈ A, r.length = w) (hb : ∀ r ∈ B, r.length = w) (sa : Stc 0 (A.map vecL)) (sb : Stc 0 (B.map vecL)) (h : ∀ u, Spn (A.map vecL) u ↔ Spn (B.map vecL) u) : A = B := vecL_maps ha hb (str_uniq sa sb h)
/-- the staircase tells the lattice -/
theorem stairs_same {w : Nat} {vs us : List (List Int)} (hv : ∀ v ∈ vs, v.length = w) (hu : ∀ v ∈ us, v.length = w) : stairsOf vs = stairsOf us ↔ ∀ u, Spn (vs.map vecL) u ↔ Spn (us.map vecL) u := by
  obtain ⟨a1, a2, a3⟩ := stairs_ok hv
  obtain ⟨b1, b2, b3⟩ := stairs_ok hu
  constructor
  · intro h u
    rw [← a3, ← b3, h]
  · intro h
    exact stairs_one a1 b1 a2 b2 fun u => ((a3 u).trans (h u)).trans (b3 u).symm
end TL
namespace TL
theorem vec_is (v : List Int) : vec v = vecL v := rfl
theorem RestsOn.nil (A : List Vec) : RestsOn A (fun _ => 0) := ⟨1, fun _ => 0, by decide, fun j => by
  have : (fun t => rw_ A t j * (0 : Int)) = fun _ => 0 := funext fun t => Int.mul_zero _
  rw [this, sumN_zero]
  rfl⟩
theorem RestsOn.comb {A : List Vec} {u v : Vec} (h : RestsOn A u) (k : RestsOn A v) (c : Int) : RestsOn A (fun j => u j + c * v j) := by
  obtain ⟨d, m, hd, h⟩ := h
  obtain ⟨e, n, he, k⟩ := k
  refine ⟨d * e, fun t => e * m t + d * c * n t, Int.mul_ne_zero hd he, fun j => ?_⟩
  have e1 : (fun t => rw_ A t j * (e * m t + d * c * n t)) = fun t => e * (rw_ A t j * m t) + d * c * (rw_ A t j * n t) := by
    funext t
    grind
  rw [e1, sumN_add, sumN_mul, sumN_mul, ← h j, ← k j]
  grind
/-- a whole sum of rows that rest on A rests on A -/
theorem Spn.rests {A : List Vec} : ∀ {S : List (Nat → Int)} {v : Nat → Int}, (∀ r ∈ S, RestsOn A r) → Spn S v → RestsOn A v
  | [], v, _, h => by
    have : v = fun _ => 0 := funext h
    rw [this]
    exact RestsOn.nil A
  | r :: rs, v, g, ⟨c, h⟩ => by
    have h1 := Spn.rests (fun x hx => g x (List.mem_cons_of_mem _ hx)) h
    have h2 := h1.comb (g r (List.mem_cons_self ..)) c
    have e : (fun j => (v j - c * r j) + c * r j) = v := funext fun j => by omega
    rw [e] at h2
    exact h2
/-- what lies within has no greater rank -/
theorem rank_sub {A B : List (List Int)} {w : Nat} (ha : RowsW w A) (hb : RowsW w B) (h : ∀ row ∈ A, Spn (B.map vecL) (vecL row)) : clrRank A ≤ clrRank B := by
  obtain ⟨C, hl, _, hr, _⟩ := clr_span hb
  rw [← hl]
  refine rank_le_of ha fun row hrow => ?_
  refine Spn.rests (fun r hr' => ?_) (h row hrow)
  obtain ⟨x, hx, rfl⟩ := List.mem_map.mp hr'
  exact hr x hx
theorem rank_same {A B : List (List Int)} {w : Nat} (ha : RowsW w A) (hb : RowsW w B) (h : ∀ u, Spn (A.map vecL) u ↔ Spn (B.map vecL) u) : clrRank A = clrRank B :=
  Nat.le_antisymm (rank_sub ha hb fun row hr => (h _).mp (Spn.mem (List.mem_map.mpr ⟨row, hr, rfl⟩))) (rank_sub hb ha fun row hr => (h _).mpr (Spn.mem (List.mem_map.mpr ⟨row, hr, rfl⟩)))
theorem ech_dt : ∀ (rest A : List Vec) (cs : List Nat) (b : Nat), Dt A cs ≠ 0 → (∀ c ∈ cs, c < b) → Ech b rest → ∃ ds, Dt (A ++ rest) ds ≠ 0
  | [], A, cs, b, h, _, _ => ⟨cs, by rw [List.append_nil]; exact h⟩
  | r :: rs, A, cs, b, h, hc, ⟨l, hl, h0, hp, he⟩ => by
    have e : Dt (A ++ [r]) (cs ++ [l]) = r l * Dt A cs := by
      rw [dt_snoc]
      exact wd_block fun c hcc => h0 c (Nat.lt_of_lt_of_le (hc c hcc) hl)
    have := ech_dt rs (A ++ [r]) (cs ++ [l]) (l + 1) (by rw [e]; exact Int.mul_ne_zero hp h) (fun c hcc => by
      rcases List.mem_append.mp hcc with q | q
      · have := hc c q
        omega
      · rw [List.mem_singleton.mp q]
        omega) he
    rw [List.append_assoc] at this
    exact this
/-- the rank of stairs is their number -/
theorem ech_rank {S : List (List Int)} {w b : Nat} (hw : RowsW w S) (h : Ech b (S.map vecL)) : clrRank S = S.length := by
  obtain ⟨_, _, _, hle, _⟩ := clr_struct hw
  obtain ⟨ds, hd⟩ := ech_dt (S.map vecL) [] [] b (show d0 [] ≠ 0 by decide) (fun c hc => by cases hc) h
  have := rank_ge hw (X := S.map vecL) (fun x hx => by
    obtain ⟨row, h1, rfl⟩ := List.mem_map.mp hx
    exact ⟨row, h1, rfl⟩) hd
  rw [List.length_map] at this
  omega
/-- the rank is the number of stairs -/
theorem rank_stairs {vs : List (List Int)} {w : Nat} (h : RowsW w vs) : clrRank vs = (stairsOf vs).length := by
  obtain ⟨a1, a2, a3⟩ := stairs_ok (w := w) h
  rw [← ech_rank a1 a2.ech]
  exact rank_same h a1 fun u => (a3 u).symm
end TL
namespace TL
/-! ### the rank by Euclid on the rows, column by column -/
theorem dvd2_any {w l : Nat} (row vec : List Int) (hr : row.length = w) (hv : vec.length = w) (z1 : ∀ j, j < l → vecL row j = 0) (z2 : ∀ j, j < l → vecL vec j = 0) :
    ∃ r v, dvd2 l (vecL vec l).natAbs row vec = (r, v) ∧ r.length = w ∧ v.length = w ∧ vecL v l = 0 ∧ (∀ j, j < l → vecL r j = 0) ∧ (∀ j, j < l → vecL v j = 0) ∧ ∀ S u, Spn (vecL r :: vecL v :: S) u ↔ Spn (vecL row :: vecL vec :: S) u := by
  by_cases c : vecL row l ≠ 0 ∨ vecL vec l ≠ 0
  · obtain ⟨r, v, a1, a2, a3, a4, a5, a6, a7, a8⟩ := dvd2_ok (vecL vec l).natAbs row vec hr hv (Nat.le_refl _) c z1 z2
    exact ⟨r, v, a1, a2, a3, a4, a6, a7, a8⟩
  · have h1 : vecL vec l = 0 := Decidable.not_not.mp fun z => c (.inr z)
    rw [h1]
    exact ⟨row, vec, rfl, hr, hv, h1, z1, z2, fun S u => Iff.rfl⟩
def eucCol (j : Nat) : List Int → List (List Int) → List Int × List (List Int)
  | h, [] => (h, [])
  | h, r :: rs => ((eucCol j (dvd2 j (vecL r j).natAbs h r).1 rs).1, (dvd2 j (vecL r j).natAbs h r).2 :: (eucCol j (dvd2 j (vecL r j).natAbs h r).1 rs).2)
def Low (w j : Nat) (r : List Int) : Prop := r.length = w ∧ ∀ i, i < j → vecL r i = 0
theorem eucCol_ok {w j : Nat} : ∀ (rs : List (List Int)) (h : List Int), Low w j h → (∀ r ∈ rs, Low w j r) →
    Low w j (eucCol j h rs).1 ∧ (∀ r ∈ (eucCol j h rs).2, Low w (j + 1) r) ∧ ∀ u, Spn (vecL (eucCol j h rs).1 :: (eucCol j h rs).2.map vecL) u ↔ Spn (vecL h :: rs.map vecL) u
  | [], h, hh, _ => ⟨hh, fun r hr => (by cases hr), fun u => Iff.rfl⟩
  | r :: rs, h, hh, hr => by
    have hr0 := hr r (List.mem_cons_self ..)
    obtain ⟨p, v, e, a2, a3, a4, a6, a7, a8⟩ := dvd2_any h r hh.1 hr0.1 hh.2 hr0.2
    unfold eucCol
    rw [e]
    dsimp only
    obtain ⟨b1, b2, b3⟩ := eucCol_ok rs p ⟨a2, a6⟩ (fun x hx => hr x (List.mem_cons_of_mem _ hx))
    refine ⟨b1, fun x hx => ?_, fun u => ?_⟩
    · rcases List.mem_cons.mp hx with rfl | hx
      · refine ⟨a3, fun i hi => ?_⟩
        rcases Nat.lt_or_ge i j with z | z
        · exact a7 i z
        · rw [show i = j by omega]
          exact a4
      · exact b2 x hx
    · show Spn (vecL (eucCol j p rs).1 :: vecL v :: (eucCol j p rs).2.map vecL) u ↔ Spn (vecL h :: vecL r :: rs.map vecL) u
      refine (Spn.swap u).trans (((Spn.cons b3 u).trans (Spn.swap u)).trans (a8 _ u))
def eucR : Nat → Nat → List (List Int) → Nat
  | 0, _, _ => 0
  | _ + 1, _, [] => 0
  | k + 1, j, h :: rs => if vecL (eucCol j h rs).1 j ≠ 0 then 1 + eucR k (j + 1) (eucCol j h rs).2 else eucR k (j + 1) ((eucCol j h rs).1 :: (eucCol j h rs).2)
theorem eucR_ok {w : Nat} : ∀ (k j : Nat) (rows : List (List Int)), j + k = w → (∀ r ∈ rows, Low w j r) → ∃ S : List (List Int), (∀ r ∈ S, r.length = w) ∧ S.length = eucR k j rows ∧ Ech j (S.map vecL) ∧ ∀ u, Spn (S.map vecL) u ↔ Spn (rows.map vecL) u
  | 0, j, rows, hk, hr => by
    refine ⟨[], fun r h => (by cases h), by unfold eucR; rfl, trivial, fun u => ⟨fun h => (Spn.zero _).congr fun i => (h i).symm, fun h => ?_⟩⟩
    refine Spn.sub (T := []) (fun r hr' => ?_) h
    obtain ⟨x, hx, rfl⟩ := List.mem_map.mp hr'
    obtain ⟨h1, h2⟩ := hr x hx
    intro i
    rcases Nat.lt_or_ge i j with z | z
    · exact h2 i z
    · unfold vecL
      rw [List.getD_eq_getElem?_getD, List.getElem?_eq_none (by omega)]
      rfl
  | k + 1, j, [], hk, hr => ⟨[], fun r h => (by cases h), rfl, trivial, fun u => Iff.rfl⟩
  | k + 1, j, h :: rs, hk, hr => by
    obtain ⟨a1, a2, a3⟩ := eucCol_ok rs h (hr h (List.mem_cons_self ..)) (fun r hr' => hr r (List.mem_cons_of_mem _ hr'))
    unfold eucR
    by_cases c : vecL (eucCol j h rs).1 j ≠ 0
    · rw [if_pos c]
      obtain ⟨S, b1, b2, b3, b4⟩ := eucR_ok (w := w) k (j + 1) (eucCol j h rs).2 (by omega) a2
      refine ⟨(eucCol j h rs).1 :: S, fun r hr' => ?_, by rw [List.length_cons, b2]; omega, ⟨j, Nat.le_refl _, a1.2, c, b3⟩, fun u => (Spn.cons b4 u).trans (a3 u)⟩
      rcases List.mem_cons.mp hr' with rfl | hr'
      · exact a1.1
      · exact b1 r hr'
    · rw [if_neg c]
      obtain ⟨S, b1, b2, b3, b4⟩ := eucR_ok (w := w) k (j + 1) ((eucCol j h rs).1 :: (eucCol j h rs).2) (by omega) (fun r hr' => by
        rcases List.mem_cons.mp hr' with rfl | hr'
        · refine ⟨a1.1, fun i hi => ?_⟩
          rcases Nat.lt_or_ge i j with z | z
          · exact a1.2 i z
          · rw [show i = j by omega]
            exact Decidable.not_not.mp c
        · exact a2 r hr')
      refine ⟨S, b1, b2, ?_, fun u => (b4 u).trans (a3 u)⟩
      exact b3.le (by omega)
/-- the rank by Euclid is the rank -/
theorem euc_rank {w : Nat} {M : List (List Int)} (h : RowsW w M) : clrRank M = eucR w 0 M := by
  obtain ⟨S, b1, b2, b3, b4⟩ := eucR_ok (w := w) w 0 M (by omega) (fun r hr => ⟨h r hr, fun i hi => by omega⟩)
  rw [← b2, ← ech_rank b1 b3]
  exact rank_same h b1 fun u => (b4 u).symm
end TL
namespace TL
/-! ### Euclid on rows: how great what stands may be -/
theorem fd_facts (a b : Int) (hb : b ≠ 0) : (a - a.fdiv b * b).natAbs < b.natAbs ∧ 0 ≤ b * (a - a.fdiv b * b) ∧ (a.fdiv b).natAbs * b.natAbs ≤ a.natAbs + (a - a.fdiv b * b).natAbs ∧ (0 ≤ a * b → a.natAbs = (a.fdiv b).natAbs * b.natAbs + (a - a.fdiv b * b).natAbs) := by
  have pos : ∀ a b : Int, 0 < b → (a - a.fdiv b * b).natAbs < b.natAbs ∧ 0 ≤ (a - a.fdiv b * b) ∧ (0 ≤ a → 0 ≤ a.fdiv b) := fun a b hb => by
    rw [Int.fdiv_eq_ediv_of_nonneg a (Int.le_of_lt hb)]
    have h1 := Int.emod_nonneg a (Int.ne_of_gt hb)
    have h2 := Int.emod_lt_of_pos a hb
    have h3 := Int.emod_def a b
    rw [Int.mul_comm b] at h3
    rw [← h3]
    exact ⟨by omega, h1, fun h => Int.ediv_nonneg h (Int.le_of_lt hb)⟩
  have abs : (a.fdiv b).natAbs * b.natAbs = (a.fdiv b * b).natAbs := (Int.natAbs_mul _ _).symm
  rcases Int.lt_or_gt_of_ne hb with c | c
  · obtain ⟨h1, h2, h3⟩ := pos (-a) (-b) (by omega)
    rw [Int.neg_fdiv_neg] at h1 h2 h3
    rw [abs]
    rw [Int.mul_neg] at h1 h2
    have e : a - a.fdiv b * b ≤ 0 := by omega
    refine ⟨by omega, ?_, by omega, fun h => ?_⟩
    · exact Int.mul_nonneg_of_nonpos_of_nonpos (by omega) e
    · have ha : a ≤ 0 := by
        rcases Int.lt_or_le 0 a with z | z
        · have := Int.mul_neg_of_pos_of_neg z c
          omega
        · exact z
      have n0 := h3 (by omega)
      have : a.fdiv b * b ≤ 0 := Int.mul_nonpos_of_nonneg_of_nonpos n0 (by omega)
      omega
  · obtain ⟨h1, h2, h3⟩ := pos a b c
    rw [abs]
    refine ⟨h1, ?_, by omega, fun h => ?_⟩
    · exact Int.mul_nonneg (by omega) h2
    · have ha : 0 ≤ a := by
        rcases Int.lt_or_le a 0 with z | z
        · have := Int.mul_neg_of_neg_of_pos z c
          omega
        · exact z
      have n0 := h3 ha
      have : 0 ≤ a.fdiv b * b := Int.mul_nonneg n0 (by omega)
      omega
def EB (D : Nat) (v : List Int) : Prop := ∀ x ∈ v, x.natAbs ≤ D
theorem EB.le {D E : Nat} {v : List Int} (h : EB D v) (k : D ≤ E) : EB E v := fun x hx => Nat.le_trans (h x hx) k
theorem EB.at {D : Nat} {v : List Int} (h : EB D v) (j : Nat) : (vecL v j).natAbs ≤ D := by
  unfold vecL
  rw [List.getD_eq_getElem?_getD]
  cases k : v[j]? with
  | none => exact Nat.zero_le _
  | some x => exact h x (List.mem_of_getElem? k)
theorem EB.less {d e : Nat} {v r : List Int} {t : Int} (h1 : EB d v) (h2 : EB e r) : EB (d + t.natAbs * e) (lessL v t r) := fun x hx => by
  unfold lessL at hx
  obtain ⟨i, hi⟩ := List.mem_iff_getElem?.mp hx
  rw [List.getElem?_zipWith] at hi
  cases p : v[i]? with
  | none => rw [p] at hi; cases hi
  | some y =>
    cases q : r[i]? with
    | none => rw [p, q] at hi; cases hi
    | some z =>
      rw [p, q] at hi
      obtain rfl := Option.some.inj hi
      have a1 := h1 y (List.mem_of_getElem? p)
      have a2 := h2 z (List.mem_of_getElem? q)
      have a3 : (t * z).natAbs ≤ t.natAbs * e := by
        rw [Int.natAbs_mul]
        exact Nat.mul_le_mul_left _ a2
      omega
/-- the two rows on the way -/
def PBs (l D : Nat) (row vec : List Int) : Prop :=
  (∃ e0 e1, EB e0 row ∧ EB e1 vec ∧ e0 ≤ D ∧ e1 ≤ D ∧ e0 * (vecL vec l).natAbs + e1 * (vecL row l).natAbs + 2 * (e1 * (vecL vec l).natAbs) ≤ D) ∨
  (∃ e0 e1, EB e0 row ∧ EB e1 vec ∧ e0 ≤ D ∧ e1 ≤ D ∧ 0 ≤ vecL row l * vecL vec l ∧ e1 * (vecL row l).natAbs + e0 * (vecL vec l).natAbs ≤ D)
theorem PBs.eb {l D : Nat} {row vec : List Int} (h : PBs l D row vec) : EB D row ∧ EB D vec := by
  rcases h with ⟨e0, e1, a, b, c, d, _⟩ | ⟨e0, e1, a, b, c, d, _⟩
  · exact ⟨a.le c, b.le d⟩
  · exact ⟨a.le c, b.le d⟩
theorem PBs.step {l D : Nat} {row vec : List Int} (h : PBs l D row vec) (hl : row.length = vec.length) (hb : vecL vec l ≠ 0) : PBs l D vec (lessL row ((vecL row l).fdiv (vecL vec l)) vec) := by
  obtain ⟨f1, f2, f3, f4⟩ := fd_facts (vecL row l) (vecL vec l) hb
  have ev : vecL (lessL row ((vecL row l).fdiv (vecL vec l)) vec) l = vecL row l - (vecL row l).fdiv (vecL vec l) * vecL vec l := by rw [less_vec hl]
  have b1 : 1 ≤ (vecL vec l).natAbs := by omega
  rcases h with ⟨e0, e1, h1, h2, h3, h4, h5⟩ | ⟨e0, e1, h1, h2, h3, h4, h5, h6⟩
  · refine .inr ⟨e1, e0 + ((vecL row l).fdiv (vecL vec l)).natAbs * e1, h2, h1.less h2, h4, ?_, by rw [ev]; exact f2, ?_⟩
    all_goals rw [ev] at *
    all_goals generalize (vecL row l - (vecL row l).fdiv (vecL vec l) * vecL vec l).natAbs = R at *
    all_goals generalize ((vecL row l).fdiv (vecL vec l)).natAbs = N at *
    all_goals generalize (vecL vec l).natAbs = B at *
    all_goals generalize (vecL row l).natAbs = A at *
    all_goals
      have k1 : e1 * (N * B) ≤ e1 * (A + B) := Nat.mul_le_mul_left _ (by omega)
      have k2 : e1 * R ≤ e1 * B := Nat.mul_le_mul_left _ (by omega)
      have k3 : (e0 + N * e1) * B = e0 * B + e1 * (N * B) := by grind
      have k4 : e1 * (A + B) = e1 * A + e1 * B := Nat.mul_add ..
    · have k5 : (e0 + N * e1) * 1 ≤ (e0 + N * e1) * B := Nat.mul_le_mul_left _ b1
      omega
    · omega
  · refine .inr ⟨e1, e0 + ((vecL row l).fdiv (vecL vec l)).natAbs * e1, h2, h1.less h2, h4, ?_, by rw [ev]; exact f2, ?_⟩
    all_goals rw [ev] at *
    all_goals have f5 := f4 h5
    all_goals clear f4 f3 f2 h5
    all_goals generalize (vecL row l - (vecL row l).fdiv (vecL vec l) * vecL vec l).natAbs = R at *
    all_goals generalize ((vecL row l).fdiv (vecL vec l)).natAbs = N at *
    all_goals generalize (vecL vec l).natAbs = B at *
    all_goals generalize (vecL row l).natAbs = A at *
    all_goals
      have k3 : (e0 + N * e1) * B + e1 * R = e0 * B + e1 * (N * B + R) := by grind
      rw [← f5] at k3
    · have k5 : (e0 + N * e1) * 1 ≤ (e0 + N * e1) * B := Nat.mul_le_mul_left _ b1
      omega
    · omega
theorem PBs.start {l p b : Nat} {row vec : List Int} (h1 : EB (2 ^ p) row) (h2 : EB (2 ^ b) vec) (hpb : b ≤ p) : PBs l (2 ^ (p + (b + 2))) row vec := by
  have ep : (2 : Nat) ^ (p + (b + 2)) = 2 ^ p * 2 ^ b * 4 := by
    rw [← Nat.add_assoc, Nat.pow_add, Nat.pow_add]
  have le : (2 : Nat) ^ b ≤ 2 ^ p := Nat.pow_le_pow_right (by decide) hpb
  have p0 : 1 ≤ 2 ^ p := Nat.pow_pos (by decide)
  have b0 : 1 ≤ 2 ^ b := Nat.pow_pos (by decide)
  have a1 := h1.at l
  have a2 := h2.at l
  refine .inl ⟨2 ^ p, 2 ^ b, h1, h2, Nat.pow_le_pow_right (by decide) (by omega), Nat.pow_le_pow_right (by decide) (by omega), ?_⟩
  rw [ep]
  generalize (vecL row l).natAbs = A at *
  generalize (vecL vec l).natAbs = B at *
  generalize (2 : Nat) ^ p = X at *
  generalize (2 : Nat) ^ b = Y at *
  have k1 : X * B ≤ X * Y := Nat.mul_le_mul_left _ a2
  have k2 : Y * A ≤ Y * X := Nat.mul_le_mul_left _ a1
  have k3 : Y * B ≤ X * Y := Nat.mul_le_mul le a2
  have k4 : Y * X = X * Y := Nat.mul_comm ..
  omega
/-- the fuel does not matter -/
theorem dvd2_fuel {l : Nat} : ∀ (n : Nat) (row vec : List Int), row.length = vec.length → (vecL vec l).natAbs ≤ n → dvd2 l n row vec = dvd2 l (vecL vec l).natAbs row vec
  | 0, row, vec, hl, h => by
    rw [show (vecL vec l).natAbs = 0 by omega]
  | n + 1, row, vec, hl, h => by
    by_cases c : vecL vec l ≠ 0
    · obtain ⟨f1, _⟩ := fd_facts (vecL row l) (vecL vec l) c
      have ev : vecL (lessL row ((vecL row l).fdiv (vecL vec l)) vec) l = vecL row l - (vecL row l).fdiv (vecL vec l) * vecL vec l := by rw [less_vec hl]
      have ll := less_len (v := row) (r := vec) (t := (vecL row l).fdiv (vecL vec l)) hl
      have step : ∀ k, dvd2 l (k + 1) row vec = dvd2 l k vec (lessL row ((vecL row l).fdiv (vecL vec l)) vec) := fun k => by
        conv => lhs; unfold dvd2
        rw [if_pos c]
      obtain ⟨m, hm⟩ : ∃ m, (vecL vec l).natAbs = m + 1 := ⟨(vecL vec l).natAbs - 1, by omega⟩
      rw [hm, step, step]
      rw [dvd2_fuel n _ _ (by omega) (by rw [ev]; omega)]
      by_cases e : m = n
      · subst e
        rw [dvd2_fuel m _ _ (by omega) (by rw [ev]; omega)]
      · rw [dvd2_fuel m vec _ (by omega) (by rw [ev]; omega)]
    · have h0 : vecL vec l = 0 := Decidable.not_not.mp c
      rw [h0]
      unfold dvd2
      rw [if_neg c]
      rfl
termination_by n => n
theorem dvd2_step {l : Nat} {row vec : List Int} (hl : row.length = vec.length) (hb : vecL vec l ≠ 0) :
    dvd2 l (vecL vec l).natAbs row vec = dvd2 l (vecL (lessL row ((vecL row l).fdiv (vecL vec l)) vec) l).natAbs vec (lessL row ((vecL row l).fdiv (vecL vec l)) vec) := by
  obtain ⟨f1, _⟩ := fd_facts (vecL row l) (vecL vec l) hb
  have ev : vecL (lessL row ((vecL row l).fdiv (vecL vec l)) vec) l = vecL row l - (vecL row l).fdiv (vecL vec l) * vecL vec l := by rw [less_vec hl]
  have ll := less_len (v := row) (r := vec) (t := (vecL row l).fdiv (vecL vec l)) hl
  obtain ⟨m, hm⟩ : ∃ m, (vecL vec l).natAbs = m + 1 := ⟨(vecL vec l).natAbs - 1, by omega⟩
  rw [hm]
  conv => lhs; unfold dvd2
  rw [if_pos hb]
  exact dvd2_fuel m _ _ (by omega) (by rw [ev]; omega)
theorem dvd2_end {l : Nat} {row vec : List Int} (h : vecL vec l = 0) : dvd2 l (vecL vec l).natAbs row vec = (row, vec) := by
  rw [h]
  rfl
theorem dvd2_lt {l : Nat} {row vec : List Int} (hl : row.length = vec.length) (hb : vecL vec l ≠ 0) : (vecL (lessL row ((vecL row l).fdiv (vecL vec l)) vec) l).natAbs < (vecL vec l).natAbs := by
  obtain ⟨f1, _⟩ := fd_facts (vecL row l) (vecL vec l) hb
  rw [less_vec hl]
  exact f1
theorem fdiv_abs {a b : Int} (hb : b ≠ 0) : (a.fdiv b).natAbs ≤ a.natAbs + 1 := by
  obtain ⟨f1, _, f3, _⟩ := fd_facts a b hb
  have b1 : 1 ≤ b.natAbs := by omega
  have k : ((a.fdiv b).natAbs) * b.natAbs < (a.natAbs + 1) * b.natAbs + 1 := by
    have : a.natAbs ≤ a.natAbs * b.natAbs := Nat.le_mul_of_pos_right _ b1
    have e : (a.natAbs + 1) * b.natAbs = a.natAbs * b.natAbs + b.natAbs := Nat.succ_mul ..
    omega
  exact Nat.le_of_mul_le_mul_right (Nat.lt_succ_iff.mp k) b1
/-- a column without a pivot is left as it is -/
theorem eucCol_none {w j : Nat} : ∀ (rs : List (List Int)) (h : List Int), Low w j h → (∀ r ∈ rs, Low w j r) → vecL (eucCol j h rs).1 j = 0 → eucCol j h rs = (h, rs)
  | [], h, _, _, _ => rfl
  | r :: rs, h, hh, hr, hz => by
    have hr0 := hr r (List.mem_cons_self ..)
    unfold eucCol at hz ⊢
    dsimp only at hz ⊢
    by_cases c : vecL h j ≠ 0 ∨ vecL r j ≠ 0
    · exfalso
      obtain ⟨p, v, e, a2, a3, a4, a5, a6, a7, a8⟩ := dvd2_ok (vecL r j).natAbs h r hh.1 hr0.1 (Nat.le_refl _) c hh.2 hr0.2
      rw [e] at hz
      dsimp only at hz
      have := eucCol_none (w := w) rs p ⟨a2, a6⟩ (fun x hx => hr x (List.mem_cons_of_mem _ hx)) hz
      rw [this] at hz
      exact a5 hz
    · have h2 : vecL r j = 0 := Decidable.not_not.mp fun z => c (.inr z)
      have e : dvd2 j (vecL r j).natAbs h r = (h, r) := dvd2_end h2
      rw [e] at hz ⊢
      dsimp only at hz ⊢
      rw [eucCol_none rs h hh (fun x hx => hr x (List.mem_cons_of_mem _ hx)) hz]
/-- how many bits may stand in the end -/
def fB : Nat → Nat → Nat
  | 0, b => b
  | m + 1, b => fB m ((m + 1) * (b + 2))
theorem fB_ge : ∀ m b, b ≤ fB m b
  | 0, b => Nat.le_refl _
  | m + 1, b => by
    have := fB_ge m ((m + 1) * (b + 2))
    have e : (m + 1) * (b + 2) = m * (b + 2) + (b + 2) := Nat.succ_mul ..
    show b ≤ fB m ((m + 1) * (b + 2))
    omega
theorem fB_mono : ∀ m {a b}, a ≤ b → fB m a ≤ fB m b
  | 0, a, b, h => h
  | m + 1, a, b, h => fB_mono m (Nat.mul_le_mul_left _ (by omega))
theorem fB_row : ∀ {m n b}, m ≤ n → fB m b ≤ fB n b
  | m, 0, b, h => by
    rw [show m = 0 by omega]
    exact Nat.le_refl _
  | m, n + 1, b, h => by
    by_cases e : m = n + 1
    · rw [e]
      exact Nat.le_refl _
    · refine Nat.le_trans (fB_row (n := n) (by omega)) (fB_mono n ?_)
      have e : (n + 1) * (b + 2) = n * (b + 2) + (b + 2) := Nat.succ_mul ..
      omega
end TL
namespace TL
/-- the quotient of two numbers of opposite signs -/
theorem fd_opp {a b : Int} (h : a * b < 0) : ∃ N : Nat, a.fdiv b = -(N : Int) ∧ N * b.natAbs = a.natAbs + (a - a.fdiv b * b).natAbs ∧ (a - a.fdiv b * b).natAbs < b.natAbs ∧ 0 ≤ b * (a - a.fdiv b * b) := by
  have hb : b ≠ 0 := fun z => by rw [z, Int.mul_zero] at h; omega
  obtain ⟨f1, f2, f3, f4⟩ := fd_facts a b hb
  have key : (a.fdiv b * b).natAbs = a.natAbs + (a - a.fdiv b * b).natAbs ∧ a.fdiv b ≤ 0 := by
    generalize hq : a.fdiv b = q at *
    rcases Int.lt_or_gt_of_ne hb with c | c
    · have ha : 0 < a := by
        rcases Int.lt_or_le 0 a with z | z
        · exact z
        · have := Int.mul_nonneg_of_nonpos_of_nonpos z (Int.le_of_lt c)
          omega
      have hr : a - q * b ≤ 0 := by
        rcases Int.lt_or_le 0 (a - q * b) with z | z
        · have := Int.mul_neg_of_neg_of_pos c z
          omega
        · exact z
      have hq0 : q ≤ 0 := by
        rcases Int.lt_or_le 0 q with z | z
        · have := Int.mul_neg_of_pos_of_neg z c
          omega
        · exact z
      exact ⟨by omega, hq0⟩
    · have ha : a < 0 := by
        rcases Int.lt_or_le a 0 with z | z
        · exact z
        · have := Int.mul_nonneg z (Int.le_of_lt c)
          omega
      have hr : 0 ≤ a - q * b := by
        rcases Int.lt_or_le (a - q * b) 0 with z | z
        · have := Int.mul_neg_of_pos_of_neg c z
          omega
        · exact z
      have hq0 : q ≤ 0 := by
        rcases Int.lt_or_le 0 q with z | z
        · have := Int.mul_pos z c
          omega
        · exact z
      exact ⟨by omega, hq0⟩
  refine ⟨(a.fdiv b).natAbs, by omega, ?_, f1, f2⟩
  rw [← Int.natAbs_mul]
  exact key.1
def PE2 (l D : Nat) (row vec : List Int) : Prop := ∃ e0 e1, EB e0 row ∧ EB e1 vec ∧ e0 ≤ D ∧ e1 ≤ D ∧ 0 ≤ vecL row l * vecL vec l ∧ e1 * (vecL row l).natAbs + e0 * (vecL vec l).natAbs ≤ D
def PS0 (l D : Nat) (row vec : List Int) : Prop := ∃ X Y, EB X row ∧ EB Y vec ∧ vecL row l * vecL vec l < 0 ∧ X + (X + 1) * Y ≤ D ∧ X * Y + Y * X ≤ D
def PS1 (l D : Nat) (row vec : List Int) : Prop := ∃ (X Y N : Nat) (row0 : List Int), EB X row0 ∧ EB Y row ∧ row0.length = row.length ∧ vec = lessL row0 (-(N : Int)) row ∧ N * (vecL row l).natAbs = (vecL row0 l).natAbs + (vecL vec l).natAbs ∧ (vecL vec l).natAbs < (vecL row l).natAbs ∧ 0 ≤ vecL row l * vecL vec l ∧ X + N * Y ≤ D ∧ Y ≤ D ∧ X * Y + Y * X ≤ D
def PBt (l D : Nat) (row vec : List Int) : Prop := PE2 l D row vec ∨ PS0 l D row vec ∨ PS1 l D row vec
theorem PBt.eb {l D : Nat} {row vec : List Int} (h : PBt l D row vec) : EB D row ∧ EB D vec := by
  rcases h with ⟨e0, e1, a, b, c, d, _⟩ | ⟨X, Y, a, b, _, c, _⟩ | ⟨X, Y, N, row0, a, b, hl, rfl, _, _, _, c, d, _⟩
  · exact ⟨a.le c, b.le d⟩
  · have : Y ≤ (X + 1) * Y := Nat.le_mul_of_pos_left _ (by omega)
    exact ⟨a.le (by omega), b.le (by omega)⟩
  · refine ⟨b.le d, (a.less b).le ?_⟩
    rw [Int.natAbs_neg, Int.natAbs_natCast]
    exact c
theorem PBt.start {l p b : Nat} {row vec : List Int} (h1 : EB (2 ^ p) row) (h2 : EB (2 ^ b) vec) : PBt l (2 ^ (p + (b + 2))) row vec := by
  have ep : (2 : Nat) ^ (p + (b + 2)) = 2 ^ p * 2 ^ b * 4 := by
    rw [← Nat.add_assoc, Nat.pow_add, Nat.pow_add]
  have p0 : 1 ≤ 2 ^ p := Nat.pow_pos (by decide)
  have b0 : 1 ≤ 2 ^ b := Nat.pow_pos (by decide)
  have a1 := h1.at l
  have a2 := h2.at l
  rw [ep]
  generalize (2 : Nat) ^ p = X at *
  generalize (2 : Nat) ^ b = Y at *
  have k1 : X ≤ X * Y := Nat.le_mul_of_pos_right _ b0
  have k2 : Y ≤ X * Y := Nat.le_mul_of_pos_left _ p0
  have k3 : Y * X = X * Y := Nat.mul_comm ..
  have k4 : (X + 1) * Y = X * Y + Y := Nat.succ_mul ..
  by_cases c : 0 ≤ vecL row l * vecL vec l
  · have k5 : Y * (vecL row l).natAbs ≤ Y * X := Nat.mul_le_mul_left _ a1
    have k6 : X * (vecL vec l).natAbs ≤ X * Y := Nat.mul_le_mul_left _ a2
    exact .inl ⟨X, Y, h1, h2, by omega, by omega, c, by omega⟩
  · exact .inr (.inl ⟨X, Y, h1, h2, by omega, by omega, by omega⟩)
theorem PE2.step {l D : Nat} {row vec : List Int} (h : PE2 l D row vec) (hl : row.length = vec.length) (hb : vecL vec l ≠ 0) : PE2 l D vec (lessL row ((vecL row l).fdiv (vecL vec l)) vec) := by
  obtain ⟨f1, f2, f3, f4⟩ := fd_facts (vecL row l) (vecL vec l) hb
  have ev : vecL (lessL row ((vecL row l).fdiv (vecL vec l)) vec) l = vecL row l - (vecL row l).fdiv (vecL vec l) * vecL vec l := by rw [less_vec hl]
  have b1 : 1 ≤ (vecL vec l).natAbs := by omega
  obtain ⟨e0, e1, h1, h2, h3, h4, h5, h6⟩ := h
  refine ⟨e1, e0 + ((vecL row l).fdiv (vecL vec l)).natAbs * e1, h2, h1.less h2, h4, ?_, by rw [ev]; exact f2, ?_⟩
  all_goals rw [ev] at *
  all_goals have f5 := f4 h5
  all_goals clear f4 f3 f2 h5
  all_goals generalize (vecL row l - (vecL row l).fdiv (vecL vec l) * vecL vec l).natAbs = R at *
  all_goals generalize ((vecL row l).fdiv (vecL vec l)).natAbs = N at *
  all_goals generalize (vecL vec l).natAbs = B at *
  all_goals generalize (vecL row l).natAbs = A at *
  all_goals
    have k3 : (e0 + N * e1) * B + e1 * R = e0 * B + e1 * (N * B + R) := by grind
    rw [← f5] at k3
  · have k5 : (e0 + N * e1) * 1 ≤ (e0 + N * e1) * B := Nat.mul_le_mul_left _ b1
    omega
  · omega
theorem PBt.step {l D : Nat} {row vec : List Int} (h : PBt l D row vec) (hl : row.length = vec.length) (hb : vecL vec l ≠ 0) : PBt l D vec (lessL row ((vecL row l).fdiv (vecL vec l)) vec) := by
  have ev : vecL (lessL row ((vecL row l).fdiv (vecL vec l)) vec) l = vecL row l - (vecL row l).fdiv (vecL vec l) * vecL vec l := by rw [less_vec hl]
  rcases h with h | ⟨X, Y, h1, h2, h3, h4, h5⟩ | ⟨X, Y, N, row0, h1, h2, hl0, hv, h3, h4, h5, h6, h7, h8⟩
  · exact .inl (h.step hl hb)
  · obtain ⟨N, q1, q2, q3, q4⟩ := fd_opp h3
    have a1 := h1.at l
    have a2 := h2.at l
    refine .inr (.inr ⟨X, Y, N, row, h1, h2, hl, by rw [q1], by rw [ev]; exact q2, by rw [ev]; exact q3, by rw [ev]; exact q4, ?_, ?_, h5⟩)
    · have n1 : N ≤ X + 1 := by
        have b1 : 1 ≤ (vecL vec l).natAbs := by omega
        refine Nat.le_of_lt_succ (Nat.lt_of_not_le fun z => ?_)
        have : (X + 2) * (vecL vec l).natAbs ≤ N * (vecL vec l).natAbs := Nat.mul_le_mul_right _ z
        have e : (X + 2) * (vecL vec l).natAbs = (X + 1) * (vecL vec l).natAbs + (vecL vec l).natAbs := Nat.succ_mul ..
        have e2 : (X + 1) * 1 ≤ (X + 1) * (vecL vec l).natAbs := Nat.mul_le_mul_left _ b1
        omega
      have := Nat.mul_le_mul_right Y n1
      omega
    · have : Y ≤ (X + 1) * Y := Nat.le_mul_of_pos_left _ (by omega)
      omega
  · obtain ⟨f1, f2, f3, f4⟩ := fd_facts (vecL row l) (vecL vec l) hb
    have f5 := f4 h5
    have a1 := h1.at l
    have a2 := h2.at l
    have b1 : 1 ≤ (vecL vec l).natAbs := by omega
    have hvE : EB (X + N * Y) vec := by
      rw [hv]
      refine (h1.less h2).le ?_
      rw [Int.natAbs_neg, Int.natAbs_natCast]
      exact Nat.le_refl _
    obtain ⟨k, hk, hk1⟩ : ∃ k : Nat, (vecL row l).fdiv (vecL vec l) = (k : Int) ∧ 1 ≤ k := by
      have hs : 0 < (vecL row l).fdiv (vecL vec l) := by
        have hr0 : vecL row l ≠ 0 := fun z => by rw [z] at h4; exact absurd h4 (by simp)
        rcases Int.lt_or_gt_of_ne hb with c | c
        · have hr : vecL row l < 0 := by
            rcases Int.lt_or_le (vecL row l) 0 with z | z
            · exact z
            · have := Int.mul_neg_of_pos_of_neg (show 0 < vecL row l by omega) c
              omega
          have e1 : (-vecL row l).fdiv (-vecL vec l) = (vecL row l).fdiv (vecL vec l) := Int.neg_fdiv_neg ..
          rw [← e1, Int.fdiv_eq_ediv_of_nonneg _ (by omega)]
          have : 1 ≤ (-vecL row l) / (-vecL vec l) := by
            rw [Int.le_ediv_iff_mul_le (by omega)]
            omega
          omega
        · have hr : 0 < vecL row l := by
            rcases Int.lt_or_le 0 (vecL row l) with z | z
            · exact z
            · have := Int.mul_neg_of_neg_of_pos (show vecL row l < 0 by omega) c
              omega
          rw [Int.fdiv_eq_ediv_of_nonneg _ (by omega)]
          have : 1 ≤ vecL row l / vecL vec l := by
            rw [Int.le_ediv_iff_mul_le (by omega)]
            omega
          omega
      exact ⟨((vecL row l).fdiv (vecL vec l)).toNat, by omega, by omega⟩
    have hN1 : 1 ≤ N := by
      rcases Nat.eq_zero_or_pos N with z | z
      · rw [z, Nat.zero_mul] at h3
        omega
      · exact z
    obtain ⟨M, hM⟩ : ∃ M, M + 1 = k * N := ⟨k * N - 1, by have := Nat.mul_le_mul hk1 hN1; omega⟩
    rw [hk] at f2 f5 ev ⊢
    rw [Int.natAbs_natCast] at f5
    have hR : EB (k * X + M * Y) (lessL row (k : Int) vec) := fun x hx => by
      unfold lessL at hx
      obtain ⟨i, hi⟩ := List.mem_iff_getElem?.mp hx
      rw [List.getElem?_zipWith] at hi
      cases e1 : row[i]? with
      | none => rw [e1] at hi; cases hi
      | some m =>
        cases e2 : vec[i]? with
        | none => rw [e1, e2] at hi; cases hi
        | some n =>
          rw [e1, e2] at hi
          obtain rfl := Option.some.inj hi
          rw [hv] at e2
          unfold lessL at e2
          rw [List.getElem?_zipWith, e1] at e2
          cases e3 : row0[i]? with
          | none => rw [e3] at e2; cases e2
          | some a0 =>
            rw [e3] at e2
            obtain rfl := Option.some.inj e2
            have g1 := h1 a0 (List.mem_of_getElem? e3)
            have g2 := h2 m (List.mem_of_getElem? e1)
            have ek : (k : Int) * (N : Int) = (M : Int) + 1 := by
              rw [← Int.natCast_mul, ← hM]
              rfl
            have ex : m - (k : Int) * (a0 - -(N : Int) * m) = -((M : Int) * m) - (k : Int) * a0 := by grind
            show (m - (k : Int) * (a0 - -(N : Int) * m)).natAbs ≤ _
            rw [ex]
            have g3 : ((M : Int) * m).natAbs ≤ M * Y := by
              rw [Int.natAbs_mul, Int.natAbs_natCast]
              exact Nat.mul_le_mul_left _ g2
            have g4 : ((k : Int) * a0).natAbs ≤ k * X := by
              rw [Int.natAbs_mul, Int.natAbs_natCast]
              exact Nat.mul_le_mul_left _ g1
            omega
    have hsum : (k * X + M * Y) * (vecL vec l).natAbs + (X + N * Y) * (vecL row l - (k : Int) * vecL vec l).natAbs ≤ D := by
      generalize (vecL row l - (k : Int) * vecL vec l).natAbs = R at *
      generalize (vecL row0 l).natAbs = A at *
      generalize (vecL vec l).natAbs = v at *
      generalize (vecL row l).natAbs = B at *
      have e1 : (k * X + M * Y) * v + (X + N * Y) * R + Y * v = X * (k * v + R) + Y * ((M + 1) * v + N * R) := by grind
      rw [hM] at e1
      have e2 : k * N * v + N * R = N * (k * v + R) := by grind
      rw [e2, ← f5, h3, Nat.mul_add] at e1
      have e3 : X * B ≤ X * Y := Nat.mul_le_mul_left _ a2
      have e4 : Y * A ≤ Y * X := Nat.mul_le_mul_left _ a1
      omega
    refine .inl ⟨X + N * Y, k * X + M * Y, hvE, hR, h6, ?_, by rw [ev]; exact f2, by rw [ev]; exact hsum⟩
    have e5 : (k * X + M * Y) * 1 ≤ (k * X + M * Y) * (vecL vec l).natAbs := Nat.mul_le_mul_left _ b1
    omega
end TL
namespace TL
open PySem L2

/-! ### steps of a reading -/
local macro_rules | `(tactic| walk_at "hp") => `(tactic| first | assumption | exact upd_same | (refine (upd_ne (by first | assumption | (exact Ne.symm (by assumption)))).trans ?_; walk_at "hp"))
local macro_rules | `(tactic| walk_at "ok") => `(tactic| first | (exact Or.inr ⟨by decide, by decide⟩) | (exact ⟨by decide, by decide⟩) | (exact ⟨by decide, by decide, by decide⟩) | (show _ ≠ _; omega) | (show _ ≠ _; decide) | (exact Or.inl ⟨by omega, by omega⟩) | decide)
local macro_rules | `(tactic| walk_at "sq") => `(tactic| first | assumption | exact SqL.of (by walk_at "hp") | exact SqT.of (by walk_at "hp"))
local macro_rules | `(tactic| walk_at "ty") => `(tactic| first | refine ⟨_, _, Value.type "int", Value.type "list", false, rfl, ClsV.ty _, TyX.base (TyOf.int _), kt_int_list, ?_⟩ | refine ⟨_, _, Value.type "bool", Value.type "list", false, rfl, ClsV.ty _, TyX.base (TyOf.bl _), kt_bool_list, ?_⟩ | refine ⟨_, _, Value.type "str", Value.type "list", false, rfl, ClsV.ty _, TyX.base (TyOf.str _), kt_str_list, ?_⟩ | refine ⟨_, _, Value.type "NoneType", Value.type "list", false, rfl, ClsV.ty _, TyX.base TyOf.non, kt_NoneType_list, ?_⟩ | refine ⟨_, _, Value.type "list", Value.type "list", true, rfl, ClsV.ty _, tyx_L (by walk_at "sq"), kt_list_list, ?_⟩ | refine ⟨_, _, Value.type "tuple", Value.type "list", false, rfl, ClsV.ty _, tyx_T (by walk_at "sq"), kt_tuple_list, ?_⟩ | refine ⟨_, _, Value.type "int", Value.type "tuple", false, rfl, ClsV.ty _, TyX.base (TyOf.int _), kt_int_tuple, ?_⟩ | refine ⟨_, _, Value.type "bool", Value.type "tuple", false, rfl, ClsV.ty _, TyX.base (TyOf.bl _), kt_bool_tuple, ?_⟩ | refine ⟨_, _, Value.type "str", Value.type "tuple", false, rfl, ClsV.ty _, TyX.base (TyOf.str _), kt_str_tuple, ?_⟩ | refine ⟨_, _, Value.type "NoneType", Value.type "tuple", false, rfl, ClsV.ty _, TyX.base TyOf.non, kt_NoneType_tuple, ?_⟩ | refine ⟨_, _, Value.type "list", Value.type "tuple", false, rfl, ClsV.ty _, tyx_L (by walk_at "sq"), kt_list_tuple, ?_⟩ | refine ⟨_, _, Value.type "tuple", Value.type "tuple", true, rfl, ClsV.ty _, tyx_T (by walk_at "sq"), kt_tuple_tuple, ?_⟩ | refine ⟨_, _, Value.type "int", Value.type "bool", false, rfl, ClsV.ty _, TyX.base (TyOf.int _), kt_int_bool, ?_⟩ | refine ⟨_, _, Value.type "bool", Value.type "bool", true, rfl, ClsV.ty _, TyX.base (TyOf.bl _), kt_bool_bool, ?_⟩ | refine ⟨_, _, Value.type "str", Value.type "bool", false, rfl, ClsV.ty _, TyX.base (TyOf.str _), kt_str_bool, ?_⟩ | refine ⟨_, _, Value.type "NoneType", Value.type "bool", false, rfl, ClsV.ty _, TyX.base TyOf.non, kt_NoneType_bool, ?_⟩ | refine ⟨_, _, Value.type "list", Value.type "bool", false, rfl, ClsV.ty _, tyx_L (by walk_at "sq"), kt_list_bool, ?_⟩ | refine ⟨_, _, Value.type "tuple", Value.type "bool", false, rfl, ClsV.ty _, tyx_T (by walk_at "sq"), kt_tuple_bool, ?_⟩ | refine ⟨_, _, Value.type "int", Value.type "int", true, rfl, ClsV.ty _, TyX.base (TyOf.int _), kt_int_int, ?_⟩ | refine ⟨_, _, Value.type "bool", Value.type "int", true, rfl, ClsV.ty _, TyX.base (TyOf.bl _), kt_bool_int, ?_⟩ | refine ⟨_, _, Value.type "str", Value.type "int", false, rfl, ClsV.ty _, TyX.base (TyOf.str _), kt_str_int, ?_⟩ | refine ⟨_, _, Value.type "NoneType", Value.type "int", false, rfl, ClsV.ty _, TyX.base TyOf.non, kt_NoneType_int, ?_⟩ | refine ⟨_, _, Value.type "list", Value.type "int", false, rfl, ClsV.ty _, tyx_L (by walk_at "sq"), kt_list_int, ?_⟩ | refine ⟨_, _, Value.type "tuple", Value.type "int", false, rfl, ClsV.ty _, tyx_T (by walk_at "sq"), kt_tuple_int, ?_⟩ | refine ⟨_, _, Value.type "int", Value.type "str", false, rfl, ClsV.ty _, TyX.base (TyOf.int _), kt_int_str, ?_⟩ | refine ⟨_, _, Value.type "bool", Value.type "str", false, rfl, ClsV.ty _, TyX.base (TyOf.bl _), kt_bool_str, ?_⟩ | refine ⟨_, _, Value.type "str", Value.type "str", true, rfl, ClsV.ty _, TyX.base (TyOf.str _), kt_str_str, ?_⟩ | refine ⟨_, _, Value.type "NoneType", Value.type "str", false, rfl, ClsV.ty _, TyX.base TyOf.non, kt_NoneType_str, ?_⟩ | refine ⟨_, _, Value.type "list", Value.type "str", false, rfl, ClsV.ty _, tyx_L (by walk_at "sq"), kt_list_str, ?_⟩ | refine ⟨_, _, Value.type "tuple", Value.type "str", false, rfl, ClsV.ty _, tyx_T (by walk_at "sq"), kt_tuple_str, ?_⟩)
local macro_rules | `(tactic| walk_at "go1") => `(tactic| first
  | (refine ⟨_, rfl, ?_⟩)
  | (refine ⟨_, _, rfl, rfl, ?_⟩)
  | (refine ⟨_, _, _, _, rfl, rfl, SqL.of (by walk_at "hp"), rfl, ?_⟩)
  | (refine Or.inl ⟨_, rfl, ?_⟩)
  | (refine ⟨rfl, ?_⟩)
  | (refine ⟨_, _, rfl, .inl (SqL.of (by walk_at "hp")), ?_⟩)
  | (refine ⟨_, _, rfl, Or.inl (by assumption), ?_⟩)
  | (refine ⟨_, _, rfl, Or.inr (by assumption), ?_⟩)
  | (refine ⟨(by walk_at "ok"), ?_⟩)
  | (refine ⟨_, _, _, _, rfl, rfl, (by walk_at "hp"), rfl, ?_⟩))
local macro_rules | `(tactic| walk_at "go") => `(tactic| repeat (walk_at "go1"))
local macro_rules | `(tactic| walk_at "gt") => `(tactic| repeat (first | walk_at "go1" | walk_at "ty"))

section
variable {P : Program} {w : World} {K : PySem.W.Frag} {mg : Str → Option Value} {base : Heap}
-- [0=vector, 1=at, 2=item] [0=vector, 1=times*, 2=row, 3=own, 4=item] [0=row, 1=vector, 2=lead, 3=rest]
theorem _root_.L2.Same.upd_new {H H' : Hp} {p : Addr} {o : HO} (s : Same H H') (h : H p = none) : Same H (L2.upd H' p o) := fun c x e => by
  rw [upd_ne (ne_of_none e h)]
  exact s c x e
def CDivZ (_ j : Int) : Prop := j ≠ 0 ∧ j.natAbs.log2 < 9000
def leadV : Option Nat → V
  | none => .non
  | some l => .int (l : Int)
def spLess (K : PySem.W.Frag) : Sp := fun vs H Q _ => ∃ (a b : Addr) (v r : List Int) (t : Int), vs = [.ref a, .int t, .ref b] ∧ Sq K H a (v.map V.int) ∧ SqL K H b (r.map V.int) ∧ v.length = r.length ∧ v.length ≤ 1000 ∧ (∀ x ∈ r, CMulX t x) ∧ ∀ p H', Same H H' → H p = none → H' p = some (.lst ((lessL v t r).map V.int)) → Q (.ref p) H'
theorem ok_less (T : Tx K mg) : FnOk P w K mg base CX0 1 T.f_less T.d_less ["vector", "times", "row"] (spLess K) := by
  refine T.F_less.ok sc_less (fun vs H Q E h => ?_) (fun cdv A outer s H vs Q E hr h => ?_)
  · obtain ⟨a, b, v, r, t, rfl, _⟩ := h
    rfl
  obtain ⟨a, b, v, r, t, rfl, ha, hb, hl, hz, hm, q⟩ := h
  have nd := sc_less.nd
  refine ⟨_, (pss_one (ps_ret (pe_lc (own := [("own", 3), ("item", 4)]) (g := (gTup K 2 (gCons (gName 3) (gCons (gName 4) gNil)))) rfl nd (show PI _ _ _ (iEither (RZ.iZipA K _) (iZipP K _)) from pi_either (RZ.pi_zipA (by rfl) T.z_zip (pa_cons (pv 0) (pa_cons (pv 2) pa_nil))) (pi_zipP (by rfl) T.z_zip (pa_cons (pv 0) (pa_cons (pv 2) pa_nil)))) (blkOk_by (own := [("own", 3), ("item", 4)]) (N := N_less) (sc := defScope s_less) (by decide +kernel)) (fun _ _ _ _ _ => by exact (pg_tup rfl (pgs_cons (pg_name (i := 3) nd rfl (Or.inl rfl)) (pgs_cons (pg_name (i := 4) nd rfl (Or.inl rfl)) pgs_nil)))) (fun _ _ _ _ _ => by exact pts_nil) (fun _ _ _ _ _ => by exact (pe_op op_sub (pv 3) (pe_op op_mulX (pv 1) (pv 4))))))), ?_⟩
  have elem : ∀ (i : Nat) (y x : V) (H1 H2 : Hp), Same H H1 → ((lessL v t r).map V.int)[i]? = some y → YPair (fun i => (v.map V.int)[i]?) (fun i => (r.map V.int)[i]?) i H1 x H2 → ∀ k : VK, (∀ H4, Same H1 H4 → k y H4) →
      gTup K 2 (gCons (gName 3) (gCons (gName 4) gNil)) x (wipe (L2.start N_less [V.ref a, V.int t, V.ref b]) (List.map (fun x => x.snd) [(Str.ofString "own", 3), (Str.ofString "item", 4)])) H2 fun σ2 H3 => wipe σ2 (List.map (fun x => x.snd) [(Str.ofString "own", 3), (Str.ofString "item", 4)]) = wipe (L2.start N_less [V.ref a, V.int t, V.ref b]) (List.map (fun x => x.snd) [(Str.ofString "own", 3), (Str.ofString "item", 4)]) ∧ tOp (rI0 fun i j => V.int (i - j)) (tVar 3) (tOp (rI CMulX fun i j => V.int (i * j)) (tVar 1) (tVar 4)) σ2 H3 k := by
    rintro i y x H1 H2 s1 hy ⟨Tp, u, z, rfl, hT, rfl, hu, hz'⟩ k hk
    have hu' : (v.map V.int)[i]? = some u := hu
    have hz2 : (r.map V.int)[i]? = some z := hz'
    rw [List.getElem?_map] at hu' hz2
    obtain ⟨m, hm1, rfl⟩ := Option.map_eq_some_iff.mp hu'
    obtain ⟨n, hn1, rfl⟩ := Option.map_eq_some_iff.mp hz2
    have ey : y = V.int (m - t * n) := by
      unfold lessL at hy
      rw [List.getElem?_map, List.getElem?_zipWith, hm1, hn1] at hy
      exact (Option.some.inj hy).symm
    subst ey
    have s2 := Same.new (o := .tup [V.int m, V.int n]) hT
    refine ⟨Tp, _, rfl, SqT.of upd_same, rfl, _, _, rfl, _, _, rfl, rfl, rfl, ?_⟩
    exact ⟨_, rfl, _, rfl, _, rfl, _, _, rfl, rfl, hm n (List.mem_of_getElem? hn1), _, _, rfl, rfl, hk _ s2⟩
  have hlen : ((lessL v t r).map V.int).length = (v.map V.int).length := by rw [List.length_map, List.length_map, less_len hl]
  rcases ha with ha | ha
  · refine .inl ⟨_, rfl, _, rfl, a, b, _, _, rfl, .inl ⟨ha, hb, fun C hC => ?_⟩⟩
    refine lcm (walk_zip (K := K) (a := a) (b := b) (n := (v.map V.int).length) (by rw [List.length_map, List.length_map]; omega)) _ hlen (by rw [List.length_map]; omega) hC (fun H' s => ⟨s.seq ha, s.seq hb⟩) (fun i y x H1 H2 _ hy s1 hyx k hk => elem i y x H1 H2 s1 hy hyx k hk) fun H1 s1 h1 => q C H1 s1 hC h1
  · refine .inr ⟨_, rfl, _, rfl, a, b, _, _, rfl, ha, .inl hb, fun J hJ C hC => ?_⟩
    obtain ⟨G, wk, hG⟩ := ZipOf.walk hJ ha (by rw [List.length_map, List.length_map, hl])
    exact lcm wk _ hlen (by rw [List.length_map]; omega) hC hG (fun i y x H1 H2 _ hy s1 hyx k hk => elem i y x H1 H2 s1 hy hyx k hk) fun H1 s1 h1 => q C H1 s1 hC h1
theorem getD_map {z : List Int} {i : Nat} (h : i < z.length) : (z.map V.int)[i]? = some (.int (z.getD i 0)) := by
  rw [List.getElem?_map, List.getD_eq_getElem?_getD, List.getElem?_eq_getElem h]
  rfl
theorem eb_lt {e : Nat} {v : List Int} (h : EB (2 ^ e) v) : ∀ x ∈ v, x.natAbs < 2 ^ (e + 1) := fun x hx => by
  have := h x hx
  have a2 : (2 : Nat) ^ (e + 1) = 2 ^ e * 2 := by rw [Nat.pow_add]
  have a3 : 0 < 2 ^ e := Nat.pow_pos (by decide)
  omega
def spDvd (K : PySem.W.Frag) : Sp := fun vs H Q _ => ∃ (a b : Addr) (r v : List Int) (l e : Nat), vs = [.ref a, .ref b, .int (l : Int)] ∧ SqL K H a (r.map V.int) ∧ SqL K H b (v.map V.int) ∧ r.length = v.length ∧ v.length ≤ 1000 ∧ l < v.length ∧ PBt l (2 ^ e) r v ∧ e ≤ 60000000 ∧
  ∀ t a' b' H', Same H H' → H' t = some (.tup [.ref a', .ref b']) → SqL K H' a' ((dvd2 l (vecL v l).natAbs r v).1.map V.int) → SqL K H' b' ((dvd2 l (vecL v l).natAbs r v).2.map V.int) → PBt l (2 ^ e) (dvd2 l (vecL v l).natAbs r v).1 (dvd2 l (vecL v l).natAbs r v).2 → Q (.ref t) H'
theorem ok_divided (T : Tx K mg) (hP : P.given.tree = none) : FnOk P w K mg base CX0 33 T.f__divided T.d__divided ["row", "vector", "lead"] (spDvd K) := by
  have G_less := ok_less (P := P) (w := w) (base := base) T
  refine T.F__divided.ok sc__divided (fun vs H Q E h => ?_) (fun cdv A outer s H vs Q E hr h => ?_)
  · obtain ⟨a, b, r, v, l, e, rfl, _⟩ := h
    rfl
  obtain ⟨a, b, r0, v0, l, e, rfl, ha, hb, hl, hz, hlt, hpb, he, q⟩ := h
  have nd := sc__divided.nd
  refine ⟨_, (pss_cons (ps_while PassesOwn.never (pt_cmpR op_ne (pe_ix (show IxR _ (rIxL K) from ix_list) (pv 1) (pv 2) (fun _ _ => rfl)) pe_int (nomark _)) (pss_cons (ps_set (i := 3) nd rfl (Or.inl rfl) (pe_call G_less (hr.mono (by decide)) (by rfl) T.m_less T.F_less.kp T.b_less .nil pass0 (pa_cons (pv 0) (pa_cons (pe_op (op_fdivB T.sees hP (roomB hr (by decide)) rfl rfl rfl) (pe_ix (show IxR _ (rIxL K) from ix_list) (pv 0) (pv 2) (fun _ _ => rfl)) (pe_ix (show IxR _ (rIxL K) from ix_list) (pv 1) (pv 2) (fun _ _ => rfl))) (pa_cons (pv 1) pa_nil)))))
    (pss_cons (ps_set (i := 0) nd rfl (Or.inl rfl) (pv 1))
    (pss_one (ps_set (i := 1) nd rfl (Or.inl rfl) (pv 3))))))
    (pss_one (ps_ret (pe_tup (pa_cons (pv 0) (pa_cons (pv 1) pa_nil)))))), ?_⟩
  refine ⟨fun m σ' H' => ∃ row vec ra va, m = (vecL vec l).natAbs ∧ (∃ a3, σ' = [some (.ref ra), some (.ref va), some (.int (l : Int)), a3]) ∧ Same H H' ∧ SqL K H' ra (row.map V.int) ∧ SqL K H' va (vec.map V.int) ∧ row.length = vec.length ∧ vec.length = v0.length ∧ PBt l (2 ^ e) row vec ∧ dvd2 l (vecL v0 l).natAbs r0 v0 = dvd2 l (vecL vec l).natAbs row vec, ⟨_, r0, v0, a, b, rfl, ⟨_, rfl⟩, Same.refl _, ha, hb, hl, rfl, hpb, rfl⟩, ?_⟩
  rintro m σ' H4 ⟨row, vec, ra, va, rfl, ⟨a3, rfl⟩, s4, hra, hva, hrv, hvv, hp, hdv⟩
  refine ⟨_, rfl, _, rfl, va, _, _, _, rfl, rfl, hva, at_of (j := l) rfl (getD_map (by omega)), rfl, ?_⟩
  by_cases hz0 : vecL vec l = 0
  · refine ⟨false, congrArg V.bl (by rw [decide_eq_true (show V.int (vec.getD l 0) = V.int 0 from congrArg V.int hz0)]; rfl), ?_⟩
    rw [dvd2_end hz0] at hdv
    rw [hdv] at q
    exact ⟨_, rfl, _, rfl, by show 2 ≤ sizeLine; decide, fun t ht => q t ra va _ (s4.trans (Same.new ht)) upd_same ((Same.new ht).seq hra) ((Same.new ht).seq hva) hp⟩
  · refine ⟨true, congrArg V.bl (by rw [decide_eq_false (fun z : V.int (vec.getD l 0) = V.int 0 => hz0 (by injection z))]; rfl), ?_⟩
    have vz : vec.getD l 0 ≠ 0 := hz0
    refine ⟨fun σ' H' => ∃ row vec' ra va, (vecL vec' l).natAbs < (vecL vec l).natAbs ∧ (∃ a3, σ' = [some (.ref ra), some (.ref va), some (.int (l : Int)), a3]) ∧ Same H H' ∧ SqL K H' ra (row.map V.int) ∧ SqL K H' va (vec'.map V.int) ∧ row.length = vec'.length ∧ vec'.length = v0.length ∧ PBt l (2 ^ e) row vec' ∧ dvd2 l (vecL v0 l).natAbs r0 v0 = dvd2 l (vecL vec' l).natAbs row vec', fun σ' H' ⟨row, vec', ra, va, h1, h2, h3⟩ => ⟨_, h1, row, vec', ra, va, rfl, h2, h3⟩, ?_⟩
    refine ⟨_, rfl, _, rfl, _, rfl, ra, _, _, _, rfl, rfl, hra, at_of (j := l) rfl (getD_map (by omega)), _, rfl, _, rfl, va, _, _, _, rfl, rfl, hva, at_of (j := l) rfl (getD_map (by omega)), _, _, rfl, rfl, vz, ?_⟩
    have hnq := fdiv_abs (a := row.getD l 0) vz
    have hra' : (row.getD l 0).natAbs ≤ 2 ^ e := hp.eb.1.at l
    have hvb := eb_lt hp.eb.2
    have hqb : ((row.getD l 0).fdiv (vec.getD l 0)).natAbs < 2 ^ (e + 2) := by
      have a2 : (2 : Nat) ^ (e + 2) = 2 ^ e * 4 := by rw [Nat.pow_add]
      have a3 : 0 < 2 ^ e := Nat.pow_pos (by decide)
      omega
    refine ⟨_, rfl, ra, va, row, vec, _, rfl, .inl hra, hva, hrv, by omega, fun x hx => mulx_ok hqb (hvb x hx) (by omega), fun p H5 s5 hp0 h5 => ?_⟩
    refine ⟨_, rfl, _, rfl, vec, lessL row ((vecL row l).fdiv (vecL vec l)) vec, va, p, dvd2_lt hrv hz0, ⟨_, rfl⟩, s4.trans s5, s5.seq hva, SqL.of h5, ?_, ?_, hp.step hrv hz0, ?_⟩
    · rw [less_len hrv, hrv]
    · rw [less_len hrv, hrv, hvv]
    · rw [hdv, dvd2_step hrv hz0]
end
end TL
namespace TL
open PySem PySem.Spec PyProof.Rows L2
section
variable {prog : Program} {w : World} {A : Around} {E : Value → Shared → Prop} {s : Shared}
theorem sliceApplied_rev {sl : Addr} {vs : Value} {n : Nat} {Q : Int × Int × Nat → Shared → Prop} (hs : s.heap.IsSliceOf sl .none .none vs) (ps : IsPart vs (some (-1)))
    (h : Q ((n : Int) - 1, -1, n) s) : wpAny (model prog w) A (Builtin.Slice.sliceApplied (.ref sl) (pure (n : Int))) Q E s := by
  obtain ⟨os, hos, hcs, hds⟩ := id hs
  unfold Builtin.Slice.sliceApplied Builtin.Slice.sliceFields
  refine wpAny_bind (wpAny_bind (wpAny_field hos hds (x := .none) rfl (wpAny_bind (wpAny_field hos hds (x := .none) rfl (wpAny_bind (wpAny_field hos hds (x := vs) rfl (wpAny_pure ?_)))))))
  refine wpAny_bind (HT.slicePart_ ps ?_)
  show wpAny _ _ (if ((-1 : Int) == 0) = true then _ else _) _ _ s
  rw [if_neg (by decide)]
  refine wpAny_bind (slicePart_none (wpAny_bind (slicePart_none (wpAny_bind (wpAny_pure ?_)))))
  have e : Builtin.Slice.slicePlaces ((n : Int) - 1) (-1) (-1) = n := by
    unfold Builtin.Slice.slicePlaces
    rw [if_neg (by decide)]
    by_cases hn : (n : Int) - 1 > -1
    · rw [if_pos hn, show (- -1 : Int) = 1 by decide, Int.ediv_one]
      omega
    · rw [if_neg hn]
      omega
  show wpAny _ _ (pure ((n : Int) - 1, (-1 : Int), Builtin.Slice.slicePlaces ((n : Int) - 1) (-1) (-1))) _ _ s
  rw [e]
  exact wpAny_pure h
theorem fm_congr {α β : Type} {f g : α → Option β} : ∀ l : List α, (∀ x ∈ l, f x = g x) → l.filterMap f = l.filterMap g
  | [], _ => rfl
  | x :: l, h => by
    rw [List.filterMap_cons, List.filterMap_cons, h x (List.mem_cons_self ..), fm_congr l fun y hy => h y (List.mem_cons_of_mem _ hy)]
theorem pick_rev (xs : Array Value) : ((List.range xs.size).filterMap fun (m : Nat) => xs[(((xs.size : Int) - 1) + (m : Int) * (-1)).toNat]?).toArray = xs.toList.reverse.toArray := by
  have e : (List.range xs.size).filterMap (fun (m : Nat) => xs[(((xs.size : Int) - 1) + (m : Int) * (-1)).toNat]?) = ((List.range xs.size).map fun k => xs.size - 1 - k).filterMap (xs[·]?) := by
    rw [List.filterMap_map]
    refine fm_congr _ fun m hm => ?_
    have := List.mem_range.mp hm
    show xs[(((xs.size : Int) - 1) + (m : Int) * (-1)).toNat]? = xs[xs.size - 1 - m]?
    have e2 : (((xs.size : Int) - 1) + (m : Int) * (-1)).toNat = xs.size - 1 - m := by omega
    rw [e2]
  rw [e, PySem.W.krv_range, List.filterMap_reverse, PySem.W.krv_all]
theorem getItem_tuple_rev {t sl : Addr} {items : Array Value} {vs : Value} {Q : Value → Shared → Prop} (ht : IsTup s.heap t items) (hs : s.heap.IsSliceOf sl .none .none vs) (ps : IsPart vs (some (-1)))
    (h : Q (.ref s.heap.objs.size) { s with heap := s.heap.push { cls := .type "tuple", data := .seq items.toList.reverse.toArray } })
    (hsz : items.size ≤ sizeLine) : wpAny (model prog w) A (getItem (.ref t) (.ref sl)) Q E s := by
  have htake : sizeOk (.seq items.toList.reverse.toArray) := by
    show (items.toList.reverse).toArray.size ≤ sizeLine
    rw [List.size_toArray, List.length_reverse, Array.length_toList]
    omega
  obtain ⟨os, hos, hcs, hds⟩ := id hs
  have hTs : s.TypeIs (.ref sl) "slice" := ⟨os, hos, hcs⟩
  unfold getItem
  try with_reducible refine wpAny_holding ?_
  first | refine wpAny_bind (wpAny_pure ?_) | skip
  refine wpAny_bind (wpAny_sequenceKey ht.typeIs (by decide) ?_)
  refine wpAny_bind (wpAny_callSpecial?_slot (name := Str.ofString "__getitem__") ht.typeIs PyProof.Rows.slot_tuple_getitem
    (wpAny_call_entry PyProof.Rows.slot_tuple_getitem ht.typeIs entry_tuple_getitem ?_ (args_tuple_getitem _ _)))
  show wpAny _ _ (Builtin.Tuple.tupleItemsOf (.ref t) >>= _) _ _ s
  refine wpAny_bind (tupleItemsOf_ ht ?_)
  refine wpAny_bind (wpAny_typeOf hTs ?_)
  rw [if_pos (by decide)]
  refine wpAny_bind (sliceApplied_rev hs ps ?_)
  have hno : ¬ ((((items.size : Int) - 1) == 0 && (-1 : Int) == 1 && items.size == items.size) = true) := by
    rw [show ((-1 : Int) == 1) = false from by decide, Bool.and_false, Bool.false_and]
    exact Bool.false_ne_true
  show wpAny _ _ (if (((items.size : Int) - 1) == 0 && (-1 : Int) == 1 && items.size == items.size) = true then _ else _) _ _ s
  rw [if_neg hno, pick_rev]
  first
    | exact wpAny_bind (m := Builtin.Tuple.tupleExact _) (wpAny_newObj_type (wpAny_pure ⟨_, rfl, wpAny_pure h⟩) htake)
    | exact wpAny_bind (m := Builtin.Tuple.tupleExact _) (wpAny_newObj_type (wpAny_bind (wpAny_pure (wpAny_pure ⟨_, rfl, wpAny_pure h⟩))) htake)
    | exact wpAny_bind (wpAny_bind (m := Builtin.Tuple.tupleExact _) (wpAny_newObj_type (wpAny_pure (wpAny_pure ⟨_, rfl, wpAny_pure h⟩)) htake))
    | exact wpAny_bind (wpAny_bind (m := Builtin.Tuple.tupleExact _) (wpAny_newObj_type (wpAny_pure ⟨_, rfl, wpAny_pure h⟩) htake))
end
section
variable {X : Cx}
/-! ### t[::-1] of a tuple -/
def tRevT (K : PySem.W.Frag) (te : TE) : TE := fun σ H Q => te σ H fun x H1 => ∃ a xs, x = .ref a ∧ SqT K H1 a xs ∧ ∀ p, H1 p = none → Q (.ref p) (upd H1 p (.tup xs.reverse))
theorem pe_revT {e : Expr} {te : TE} {k : Nat} {p1 p2 p3 pos : Pos} (he : PE X e te) : PE X (.Subscript e (.Slice none none (some (.UnaryOp .USub (.Constant (.int 1) k p1) p2)) p3) pos) (tRevT X.K te) := by
  refine ⟨fun pins s σ H Q I h => ?_⟩
  refine Subscript_ (thn (he.run pins s σ H _ I h) fun v s1 ⟨x, H1, I1, r1, q1⟩ => ?_)
  obtain ⟨a, xs, ex, hx, q⟩ := q1
  subst ex
  cases r1
  have hst : PO X (some (.UnaryOp .USub (.Constant (.int 1) k p1) p2)) (tPart (tUn (rU fun i => .int (-i)) (tC (.int 1)))) := po_some (pe_un un_neg pe_int)
  refine wpAny_Slice (thn (po_none.run pins s1 σ H1 (fun o H2 => o = none ∧ H2 = H1) I1 ⟨rfl, rfl⟩) fun vl s2 ⟨l, H2, I2, pl, el, e2⟩ => ?_)
  subst el e2
  refine thn (po_none.run pins s2 σ H2 (fun o H3 => o = none ∧ H3 = H2) I2 ⟨rfl, rfl⟩) fun vu s3 ⟨u, H3, I3, pu, eu, e3⟩ => ?_
  subst eu e3
  refine thn (hst.run pins s3 σ H3 (fun o H4 => o = some (-1) ∧ H4 = H3) I3 ⟨1, rfl, -1, rfl, rfl, rfl⟩) fun vs s4 ⟨o, H4, I4, ps, eo, e4⟩ => ?_
  subst eo e4
  have I5 : Inv X pins σ H4 { s4 with heap := s4.heap.push { cls := .type "slice", data := .fields #[vl, vu, vs] } } := I4.kept (t' := s4.toks) fun b ob q => Heap.get?_push_of_some _ q
  obtain ⟨its, r, ht, hz⟩ := I5.tuple hx
  have hlen := r.length
  cases pl
  cases pu
  show wpAny (model X.prog X.w) X.A (subscriptTail e (.Slice none none (some (.UnaryOp .USub (.Constant (.int 1) k p1) p2)) p3) (.ref a) (.ref s4.heap.objs.size)) (EP X pins σ Q) X.xe { s4 with heap := s4.heap.push { cls := .type "slice", data := .fields #[.none, .none, vs] } }
  refine tail_any (ops := [.ref a, .ref s4.heap.objs.size]) ht.typeIs (PyProof.Rows.slot_tuple_getitem.lookup) ?_ (by with_unfolding_all rfl)
  refine getItem_tuple_rev ht (Heap.IsSliceOf.new _ .none .none vs) ps ?_ (by rw [List.size_toArray]; omega)
  refine ⟨.ref _, _, I5.laid (t' := s4.toks) (o := .tup xs.reverse) (fun b ob q => Heap.get?_push_of_some _ q) (Nat.le_refl _) ?_, rfl, q _ (I5.hok.fresh (Nat.le_refl _))⟩
  exact ⟨by rw [List.length_reverse]; exact hz, its.reverse, r.reverse, IsTup.new _ _⟩
end
/-! ### any(t) of a tuple of ints -/
section
variable {X : Cx}
def rAnyI (K : PySem.W.Frag) : List V → Hp → VK → Prop := fun vs H Q => ∃ (a : Addr) (ns : List Int), vs = [V.ref a] ∧ SqT K H a (ns.map V.int) ∧ Q (.bl (ns.any (· != 0))) H
theorem cr_anyI (hc : X.calm = true) : CallR X (.builtin "any") (rAnyI X.K) := by
  intro pins s σ H vs us Q I r h
  obtain ⟨a, ns, rfl, hs, q⟩ := h
  obtain ⟨its, rv, hl, _⟩ := I.tuple hs
  rw [Vals.ref1 r]
  obtain ⟨xs, e⟩ := rv.ints.allInts.items
  have hn : numsOf (intItems xs).toList = ns := by rw [← e]; exact rv.ints.numsOf
  rw [nums_intItems] at hn
  rw [e] at hl
  refine call_any_walk (iter_intTuple hl fun s₂ e2 st hfp hlI => ?_)
  subst e2
  refine ⟨_, _, _, _, _, _, fun i => numAt xs i != 0, rfl, Walks.tuple (A := X.A.in1) (I.ok.hd hc) _ a hlI (intItems xs), st, fun i v s Q E hv hq => ?_, fun h' tk hk => ?_⟩
  · obtain ⟨t, rfl⟩ := intItems_at hv
    exact P.truthy_int hq
  · refine ⟨.bl _, H, I.kept (old_keptT hk), ?_, q⟩
    show Value.bool _ = Value.bool _
    have e1 : (List.range (intItems xs).size).any (fun i => numAt xs i != 0) = (List.range ns.length).any fun i => (ns.getD i 0 != 0) := by
      have : (intItems xs).size = ns.length := by rw [← hn]; simp [intItems]
      rw [this]
      congr 1
      funext i
      rw [numAt_eq, hn]
    rw [e1, PySem.W.range_any (fun x : Int => x != 0) 0 ns]
end
end TL
namespace TL
open PySem PySem.Spec PyProof.Rows L2
section
variable {X : Cx}
/-- any(l) of a list of ints -/
def rAnyIL (K : PySem.W.Frag) : List V → Hp → VK → Prop := fun vs H Q => ∃ (a : Addr) (ns : List Int), vs = [V.ref a] ∧ SqL K H a (ns.map V.int) ∧ Q (.bl (ns.any (· != 0))) H
theorem cr_anyIL (hc : X.calm = true) : CallR X (.builtin "any") (rAnyIL X.K) := by
  intro pins s σ H vs us Q I r h
  obtain ⟨a, ns, rfl, hs, q⟩ := h
  obtain ⟨its, rv, hl, _⟩ := I.list hs
  rw [Vals.ref1 r]
  obtain ⟨xs, e⟩ := rv.ints.allInts.items
  have hn : numsOf (intItems xs).toList = ns := by rw [← e]; exact rv.ints.numsOf
  rw [nums_intItems] at hn
  rw [e] at hl
  refine call_any_walk (iter_any hl.isList fun s₂ e2 st hne => ?_)
  subst e2
  refine ⟨_, _, _, _, _, _, fun i => numAt xs i != 0, rfl, Walks.list (A := X.A.in1) (I.ok.hd hc) _ a hne (intItems xs), st, fun i v s Q E hv hq => ?_, fun h' tk hk => ?_⟩
  · obtain ⟨t, rfl⟩ := intItems_at hv
    exact P.truthy_int hq
  · refine ⟨.bl _, H, I.kept fun b o eo => hk b o (fun hmem => ?_) (Heap.get?_push_of_some _ eo), ?_, q⟩
    · rcases List.mem_cons.mp hmem with e1 | hmem
      · exact absurd (e1 ▸ Heap.lt_size eo) (Nat.lt_irrefl _)
      · cases hmem
    · show Value.bool _ = Value.bool _
      have e1 : (List.range (intItems xs).size).any (fun i => numAt xs i != 0) = (List.range ns.length).any fun i => (ns.getD i 0 != 0) := by
        have : (intItems xs).size = ns.length := by rw [← hn]; simp [intItems]
        rw [this]
        congr 1
        funext i
        rw [numAt_eq, hn]
      rw [e1, PySem.W.range_any (fun x : Int => x != 0) 0 ns]
end
end TL
namespace TL
open PySem L2

/-! ### steps of a reading -/
local macro_rules | `(tactic| walk_at "hp") => `(tactic| first | assumption | exact upd_same | (refine (upd_ne (by first | assumption | (exact Ne.symm (by assumption)))).trans ?_; walk_at "hp"))
local macro_rules | `(tactic| walk_at "ok") => `(tactic| first | (exact Or.inr ⟨by decide, by decide⟩) | (exact ⟨by decide, by decide⟩) | (exact ⟨by decide, by decide, by decide⟩) | (show _ ≠ _; omega) | (show _ ≠ _; decide) | (exact Or.inl ⟨by omega, by omega⟩) | decide)
local macro_rules | `(tactic| walk_at "sq") => `(tactic| first | assumption | exact SqL.of (by walk_at "hp") | exact SqT.of (by walk_at "hp"))
local macro_rules | `(tactic| walk_at "ty") => `(tactic| first | refine ⟨_, _, Value.type "int", Value.type "list", false, rfl, ClsV.ty _, TyX.base (TyOf.int _), kt_int_list, ?_⟩ | refine ⟨_, _, Value.type "bool", Value.type "list", false, rfl, ClsV.ty _, TyX.base (TyOf.bl _), kt_bool_list, ?_⟩ | refine ⟨_, _, Value.type "str", Value.type "list", false, rfl, ClsV.ty _, TyX.base (TyOf.str _), kt_str_list, ?_⟩ | refine ⟨_, _, Value.type "NoneType", Value.type "list", false, rfl, ClsV.ty _, TyX.base TyOf.non, kt_NoneType_list, ?_⟩ | refine ⟨_, _, Value.type "list", Value.type "list", true, rfl, ClsV.ty _, tyx_L (by walk_at "sq"), kt_list_list, ?_⟩ | refine ⟨_, _, Value.type "tuple", Value.type "list", false, rfl, ClsV.ty _, tyx_T (by walk_at "sq"), kt_tuple_list, ?_⟩ | refine ⟨_, _, Value.type "int", Value.type "tuple", false, rfl, ClsV.ty _, TyX.base (TyOf.int _), kt_int_tuple, ?_⟩ | refine ⟨_, _, Value.type "bool", Value.type "tuple", false, rfl, ClsV.ty _, TyX.base (TyOf.bl _), kt_bool_tuple, ?_⟩ | refine ⟨_, _, Value.type "str", Value.type "tuple", false, rfl, ClsV.ty _, TyX.base (TyOf.str _), kt_str_tuple, ?_⟩ | refine ⟨_, _, Value.type "NoneType", Value.type "tuple", false, rfl, ClsV.ty _, TyX.base TyOf.non, kt_NoneType_tuple, ?_⟩ | refine ⟨_, _, Value.type "list", Value.type "tuple", false, rfl, ClsV.ty _, tyx_L (by walk_at "sq"), kt_list_tuple, ?_⟩ | refine ⟨_, _, Value.type "tuple", Value.type "tuple", true, rfl, ClsV.ty _, tyx_T (by walk_at "sq"), kt_tuple_tuple, ?_⟩ | refine ⟨_, _, Value.type "int", Value.type "bool", false, rfl, ClsV.ty _, TyX.base (TyOf.int _), kt_int_bool, ?_⟩ | refine ⟨_, _, Value.type "bool", Value.type "bool", true, rfl, ClsV.ty _, TyX.base (TyOf.bl _), kt_bool_bool, ?_⟩ | refine ⟨_, _, Value.type "str", Value.type "bool", false, rfl, ClsV.ty _, TyX.base (TyOf.str _), kt_str_bool, ?_⟩ | refine ⟨_, _, Value.type "NoneType", Value.type "bool", false, rfl, ClsV.ty _, TyX.base TyOf.non, kt_NoneType_bool, ?_⟩ | refine ⟨_, _, Value.type "list", Value.type "bool", false, rfl, ClsV.ty _, tyx_L (by walk_at "sq"), kt_list_bool, ?_⟩ | refine ⟨_, _, Value.type "tuple", Value.type "bool", false, rfl, ClsV.ty _, tyx_T (by walk_at "sq"), kt_tuple_bool, ?_⟩ | refine ⟨_, _, Value.type "int", Value.type "int", true, rfl, ClsV.ty _, TyX.base (TyOf.int _), kt_int_int, ?_⟩ | refine ⟨_, _, Value.type "bool", Value.type "int", true, rfl, ClsV.ty _, TyX.base (TyOf.bl _), kt_bool_int, ?_⟩ | refine ⟨_, _, Value.type "str", Value.type "int", false, rfl, ClsV.ty _, TyX.base (TyOf.str _), kt_str_int, ?_⟩ | refine ⟨_, _, Value.type "NoneType", Value.type "int", false, rfl, ClsV.ty _, TyX.base TyOf.non, kt_NoneType_int, ?_⟩ | refine ⟨_, _, Value.type "list", Value.type "int", false, rfl, ClsV.ty _, tyx_L (by walk_at "sq"), kt_list_int, ?_⟩ | refine ⟨_, _, Value.type "tuple", Value.type "int", false, rfl, ClsV.ty _, tyx_T (by walk_at "sq"), kt_tuple_int, ?_⟩ | refine ⟨_, _, Value.type "int", Value.type "str", false, rfl, ClsV.ty _, TyX.base (TyOf.int _), kt_int_str, ?_⟩ | refine ⟨_, _, Value.type "bool", Value.type "str", false, rfl, ClsV.ty _, TyX.base (TyOf.bl _), kt_bool_str, ?_⟩ | refine ⟨_, _, Value.type "str", Value.type "str", true, rfl, ClsV.ty _, TyX.base (TyOf.str _), kt_str_str, ?_⟩ | refine ⟨_, _, Value.type "NoneType", Value.type "str", false, rfl, ClsV.ty _, TyX.base TyOf.non, kt_NoneType_str, ?_⟩ | refine ⟨_, _, Value.type "list", Value.type "str", false, rfl, ClsV.ty _, tyx_L (by walk_at "sq"), kt_list_str, ?_⟩ | refine ⟨_, _, Value.type "tuple", Value.type "str", false, rfl, ClsV.ty _, tyx_T (by walk_at "sq"), kt_tuple_str, ?_⟩)
local macro_rules | `(tactic| walk_at "go1") => `(tactic| first
  | (refine ⟨_, rfl, ?_⟩)
  | (refine ⟨_, _, rfl, rfl, ?_⟩)
  | (refine ⟨_, _, _, _, rfl, rfl, SqL.of (by walk_at "hp"), rfl, ?_⟩)
  | (refine Or.inl ⟨_, rfl, ?_⟩)
  | (refine ⟨rfl, ?_⟩)
  | (refine ⟨_, _, rfl, .inl (SqL.of (by walk_at "hp")), ?_⟩)
  | (refine ⟨_, _, rfl, Or.inl (by assumption), ?_⟩)
  | (refine ⟨_, _, rfl, Or.inr (by assumption), ?_⟩)
  | (refine ⟨(by walk_at "ok"), ?_⟩)
  | (refine ⟨_, _, _, _, rfl, rfl, (by walk_at "hp"), rfl, ?_⟩))
local macro_rules | `(tactic| walk_at "go") => `(tactic| repeat (walk_at "go1"))
local macro_rules | `(tactic| walk_at "gt") => `(tactic| repeat (first | walk_at "go1" | walk_at "ty"))

section
variable {P : Program} {w : World} {K : PySem.W.Frag} {mg : Str → Option Value} {base : Heap}
-- [0=vector, 1=at, 2=item] [0=stairs, 1=vector, 2=counts, 3=row, 4=lead, 5=times]
theorem ix_sq {H : Hp} {a : Addr} {xs : List V} {i : Int} {v : V} {Q : VK} (h : Sq K H a xs) (e : atI xs i = some v) (q : Q v H) : rIx K (.ref a) (.int i) H Q := by
  rcases h with h | h
  · exact .inl ⟨a, xs, i, v, rfl, rfl, h, e, q⟩
  · exact .inr (.inl ⟨a, xs, i, v, rfl, rfl, h, e, q⟩)
def rAnyE (K : PySem.W.Frag) : List V → Hp → VK → Prop := fun vs H Q => ∃ (a : Addr) (ns : List Int), vs = [V.ref a] ∧ Sq K H a (ns.map V.int) ∧ Q (.bl (ns.any (· != 0))) H
theorem cr_anyE {X : Cx} (hc : X.calm = true) : CallR X (.builtin "any") (rAnyE X.K) := by
  intro pins s σ H xs us Q I r h
  obtain ⟨a, ns, rfl, ha, q⟩ := h
  rcases ha with ha | ha
  · exact cr_anyIL hc pins s σ H _ us Q I r ⟨a, ns, rfl, ha, q⟩
  · exact cr_anyI hc pins s σ H _ us Q I r ⟨a, ns, rfl, ha, q⟩
theorem ne_zero {n : Int} (c : (!decide (V.int n = V.int 0)) = true) : n ≠ 0 := fun z => by
  rw [z] at c
  cases c
theorem eq_zero {n : Int} (c : ¬(!decide (V.int n = V.int 0)) = true) : ¬ n ≠ 0 := fun z => c (by
  rw [decide_eq_false (fun y : V.int n = V.int 0 => z (by injection y))]
  rfl)
theorem eb_less {a b : Nat} {v r : List Int} {t : Int} (hl : v.length = r.length) (hv : EB (2 ^ a) v) (hr : EB (2 ^ b) r) (ht : t.natAbs ≤ 2 ^ a + 1) : EB (2 ^ (a + (b + 2))) (lessL v t r) := fun x hx => by
  unfold lessL at hx
  obtain ⟨i, hi⟩ := List.mem_iff_getElem?.mp hx
  rw [List.getElem?_zipWith] at hi
  cases e1 : v[i]? with
  | none => rw [e1] at hi; cases hi
  | some m =>
    cases e2 : r[i]? with
    | none => rw [e1, e2] at hi; cases hi
    | some n =>
      rw [e1, e2] at hi
      obtain rfl := Option.some.inj hi
      have h1 := hv m (List.mem_of_getElem? e1)
      have h2 := hr n (List.mem_of_getElem? e2)
      have h3 : (t * n).natAbs ≤ (2 ^ a + 1) * 2 ^ b := by
        rw [Int.natAbs_mul]
        exact Nat.mul_le_mul ht h2
      have h4 : (2 : Nat) ^ (a + (b + 2)) = 2 ^ a * 2 ^ b * 4 := by rw [Nat.pow_add, Nat.pow_add, ← Nat.mul_assoc]
      have h5 : (2 ^ a + 1) * 2 ^ b = 2 ^ a * 2 ^ b + 2 ^ b := by rw [Nat.add_mul, Nat.one_mul]
      have h6 : 2 ^ b ≤ 2 ^ a * 2 ^ b := Nat.le_mul_of_pos_left _ (Nat.pow_pos (by decide))
      have h7 : 2 ^ a ≤ 2 ^ a * 2 ^ b := Nat.le_mul_of_pos_right _ (Nat.pow_pos (by decide))
      omega
def leadFrom : Nat → List Int → Option Nat
  | _, [] => none
  | k, x :: xs => if x ≠ 0 then some k else leadFrom (k + 1) xs
theorem leadFrom_eq : ∀ (v : List Int) (k : Nat), leadFrom k v = (leadOf v).map (· + k)
  | [], _ => rfl
  | x :: xs, k => by
    unfold leadFrom leadOf
    by_cases c : x ≠ 0
    · rw [if_pos c, if_pos c]
      show some k = some (0 + k)
      rw [Nat.zero_add]
    · rw [if_neg c, if_neg c, leadFrom_eq xs (k + 1)]
      cases leadOf xs with
      | none => rfl
      | some l =>
        show some (l + (k + 1)) = some (l + 1 + k)
        congr 1
        omega
def spLead (K : PySem.W.Frag) : Sp := fun vs H Q _ => ∃ (a : Addr) (v : List Int), vs = [.ref a] ∧ SqL K H a (v.map V.int) ∧ v.length ≤ 1000 ∧ ∀ H', Same H H' → Q (leadV (leadOf v)) H'
theorem ok_lead (T : Tx K mg) : FnOk P w K mg base CX0 1 T.f_lead_of T.d_lead_of ["vector"] (spLead K) := by
  refine T.F_lead_of.ok sc_lead_of (fun vs H Q E h => ?_) (fun cdv A outer s H vs Q E hr h => ?_)
  · obtain ⟨a, v, rfl, _⟩ := h
    rfl
  obtain ⟨a, v, rfl, ha, hl, q⟩ := h
  have nd := sc_lead_of.nd
  refine ⟨_, (pss_cons (ps_for PassesOwn.never rfl (pi_enum (by rfl) T.z_enumerate (pa_cons (pv 0) pa_nil)) (pg_tup rfl (pgs_cons (pg_name (i := 1) nd rfl (Or.inl rfl)) (pgs_cons (pg_name (i := 2) nd rfl (Or.inl rfl)) pgs_nil))) (pss_one (ps_if (pt_cmpR op_ne (pv 2) pe_int (nomark _)) (pss_one (ps_ret (pv 1))) pss_nil)))
    (pss_one (ps_ret pe_non))), ?_⟩
  refine ⟨_, rfl, a, _, rfl, ha, for_it (walk_enum (K := K) (a := a) (xs := v.map V.int)) (fun i σ' H' => (∃ b1 b2, σ' = [some (.ref a), b1, b2]) ∧ Same H H' ∧ leadOf v = leadFrom i (v.drop i)) ⟨⟨_, _, rfl⟩, Same.refl _, ?_⟩ (fun _ _ _ _ h => h.2.1.seq ha) ?_ ?_⟩
  · rw [leadFrom_eq]
    show leadOf v = (leadOf v).map (· + 0)
    cases leadOf v <;> rfl
  · rintro i x σ' H1 H2 hi ⟨⟨b1, b2, rfl⟩, s1, hle⟩ ⟨t, u, z, rfl, ht, rfl, hu, hz⟩
    cases hu
    replace hz : (v.map V.int)[i]? = some z := hz
    rw [List.getElem?_map] at hz
    obtain ⟨n, hn, rfl⟩ := Option.map_eq_some_iff.mp hz
    have s2 := s1.trans (Same.new (o := .tup [.int (i : Int), .int n]) ht)
    have hlt : i < v.length := by rw [List.length_map] at hi; exact hi
    rw [List.drop_eq_getElem_cons hlt] at hle
    rw [List.getElem?_eq_getElem hlt] at hn
    have hn' : v[i] = n := Option.some.inj hn
    rw [hn'] at hle
    unfold leadFrom at hle
    refine ⟨t, _, rfl, SqT.of upd_same, rfl, _, _, rfl, _, _, rfl, rfl, ?_⟩
    refine ⟨_, rfl, rfl, _, rfl, ?_⟩
    refine ite2 (fun c => ?_) (fun c => ?_)
    · rw [if_pos (ne_zero c)] at hle
      refine ⟨_, rfl, ?_⟩
      have := q _ s2
      rw [hle] at this
      exact this
    · rw [if_neg (eq_zero c)] at hle
      exact ⟨⟨_, _, rfl⟩, s2, hle⟩
  · rintro σ' H1 ⟨⟨b1, b2, rfl⟩, s1, hle⟩
    rw [List.length_map, List.drop_length] at hle
    have := q _ s1
    rw [hle] at this
    exact this
def cntV : List (List Int) → List Int → List Int
  | [], _ => []
  | r :: rs, v => (vecL v ((leadOf r).getD 0)).fdiv (vecL r ((leadOf r).getD 0)) :: cntV rs (lessL v ((vecL v ((leadOf r).getD 0)).fdiv (vecL r ((leadOf r).getD 0))) r)
def spCnt (K : PySem.W.Frag) : Sp := fun vs H Q _ => ∃ (p a : Addr) (rs : List V) (S : List (List Int)) (v : List Int) (bv bs : Nat), vs = [.ref p, .ref a] ∧ SqL K H p rs ∧ rs.length = S.length ∧ (∀ (i : Nat) r, rs[i]? = some r → ∃ t row, r = V.ref t ∧ S[i]? = some row ∧ SqL K H t (row.map V.int)) ∧ Sq K H a (v.map V.int) ∧
  v.length ≤ 1000 ∧ (∀ r ∈ S, r.length = v.length) ∧ (∀ r ∈ S, ∃ l, leadOf r = some l) ∧ (∀ r ∈ S, EB (2 ^ bs) r) ∧ EB (2 ^ bv) v ∧ bv + (S.length + 1) * (bs + 2) ≤ 100000000 ∧ S.length ≤ 1000 ∧
  ∀ u H', Same H H' → (if (remV S v).all (· == 0) then ∃ t, u = .ref t ∧ H' t = some (.lst ((cntV S v).map V.int)) else u = .non) → Q u H'
theorem ok_counts (T : Tx K mg) (hP : P.given.tree = none) : FnOk P w K mg base CX0 33 T.f_counts_on T.d_counts_on ["stairs", "vector"] (spCnt K) := by
  have G_less := ok_less (P := P) (w := w) (base := base) T
  have G_lead_of := ok_lead (P := P) (w := w) (base := base) T
  refine T.F_counts_on.ok sc_counts_on (fun vs H Q E h => ?_) (fun cdv A outer s H vs Q E hr h => ?_)
  · obtain ⟨p, a, rs, S, v, bv, bs, rfl, _⟩ := h
    rfl
  obtain ⟨p, a, rs, S, v, bv, bs, rfl, hp, hrl, hrs, ha, hz, hw, hld, hbs, hbv, hsz, hS, q⟩ := h
  have nd := sc_counts_on.nd
  refine ⟨_, (pss_cons (ps_set (i := 2) nd rfl (Or.inl rfl) (pe_lst pa_nil))
    (pss_cons (ps_for PassesOwn.never rfl (show PI _ _ _ (iList K _) from pi_list (pv 0)) (pg_name (i := 3) nd rfl (Or.inl rfl)) (pss_cons (ps_set (i := 4) nd rfl (Or.inl rfl) (pe_call G_lead_of (hr.mono (by decide)) (by rfl) T.m_lead_of T.F_lead_of.kp T.b_lead_of .nil pass0 (pa_cons (pv 3) pa_nil)))
    (pss_cons (ps_set (i := 5) nd rfl (Or.inl rfl) (pe_op (op_fdivB T.sees hP (roomB hr (by decide)) rfl rfl rfl) (pe_ix (show IxR _ (rIx K) from ix_seq) (pv 1) (pv 4) (fun _ _ => rfl)) (pe_ix (show IxR _ (rIxL K) from ix_list) (pv 3) (pv 4) (fun _ _ => rfl))))
    (pss_cons (ps_expr (pe_bm PySem.F.plainAttrs_list PySem.F.slot_list_append PySem.F.type_list_append mt_append (pv 2) (pa_cons (pv 5) pa_nil)))
    (pss_one (ps_set (i := 1) nd rfl (Or.inl rfl) (pe_call G_less (hr.mono (by decide)) (by rfl) T.m_less T.F_less.kp T.b_less .nil pass0 (pa_cons (pv 1) (pa_cons (pv 5) (pa_cons (pv 3) pa_nil))))))))))
    (pss_one (ps_ret (pe_ifExp (pt_val (pe_callB (show CallR _ _ (rAnyE K) from cr_anyE rfl) (by rfl) T.z_any (by decide +kernel) (pa_cons (pv 1) pa_nil))) pe_non (pv 2)))))), ?_⟩
  have hst : L2.start N_counts_on [.ref p, .ref a] = [some (.ref p), some (.ref a), none, none, none, none] := rfl
  rw [hst]
  refine ⟨by show 0 ≤ sizeLine; decide, fun F hF => ?_⟩
  have s0 := Same.new (o := .lst []) hF
  have hF0 : (upd H F (.lst [])) F = some (.lst (([] : List Int).map V.int)) := upd_same
  generalize upd H F (.lst []) = H0 at *
  refine ⟨_, rfl, p, rfl, ⟨_, s0.seq hp⟩, for_it (walk_list (K := K) (a := p) (xs := rs)) (fun i σ' H' => ∃ va vi ns, (∃ b3 b4 b5, σ' = [some (.ref p), some (.ref va), some (.ref F), b3, b4, b5]) ∧ Same H H' ∧ H' F = some (.lst (ns.map V.int)) ∧ ((va = a ∧ vi = v) ∨ (va ≠ F ∧ H' va = some (.lst (vi.map V.int)))) ∧ vi.length = v.length ∧ EB (2 ^ (bv + i * (bs + 2))) vi ∧ ns.length = i ∧ remV S v = remV (S.drop i) vi ∧ cntV S v = ns ++ cntV (S.drop i) vi) ⟨a, v, [], ⟨_, _, _, rfl⟩, s0, hF0, .inl ⟨rfl, rfl⟩, rfl, by rw [Nat.zero_mul]; exact hbv, rfl, rfl, rfl⟩ (fun _ _ _ _ h => by obtain ⟨_, _, _, _, s, _⟩ := h; exact s.seq hp) ?_ ?_⟩
  · rintro i x σ' H1 H2 hi ⟨va, vi, ns, ⟨b3, b4, b5, rfl⟩, s1, hF1, hva, hvl, hve, hns, hrem, hcnt⟩ ⟨rfl, hx⟩
    obtain ⟨tr, row, rfl, hrow, hrT⟩ := hrs i x hx
    have hmem := List.mem_of_getElem? hrow
    have hrw := hw row hmem
    obtain ⟨l, hl⟩ := hld row hmem
    obtain ⟨l1, l2, l3⟩ := lead_some hl
    have hiS : i < S.length := by omega
    have vz : row.getD l 0 ≠ 0 := l2
    have hvaS : Sq K H2 va (vi.map V.int) := by
      rcases hva with ⟨rfl, rfl⟩ | ⟨_, h⟩
      · exact ha.same s1
      · exact .inl (SqL.of h)
    have hrb := hbs row hmem
    have hnq := fdiv_abs (a := vi.getD l 0) vz
    have hvl0 : (vi.getD l 0).natAbs ≤ 2 ^ (bv + i * (bs + 2)) := hve.at l
    have hdr : S.drop i = row :: S.drop (i + 1) := by
      rw [List.drop_eq_getElem_cons hiS]
      congr 1
      rw [List.getElem?_eq_getElem hiS] at hrow
      exact Option.some.inj hrow
    have hmul : (i + 1) * (bs + 2) ≤ (S.length + 1) * (bs + 2) := Nat.mul_le_mul_right _ (by omega)
    have hmul2 : (i + 1) * (bs + 2) = i * (bs + 2) + (bs + 2) := Nat.succ_mul ..
    refine ⟨_, rfl, tr, row, rfl, s1.seq hrT, by omega, fun H3 s3 => ?_⟩
    rw [hl]
    dsimp only [List.set_cons_succ, List.set_cons_zero, leadV]
    have s13 := s1.trans s3
    refine ⟨_, rfl, _, rfl, ix_sq (hvaS.same s3) (at_of (j := l) rfl (getD_map (by omega))) ?_⟩
    refine ⟨_, rfl, _, rfl, tr, _, _, _, rfl, rfl, s13.seq hrT, at_of (j := l) rfl (getD_map (by omega)), _, _, rfl, rfl, vz, ?_⟩
    have hF3 := s3 _ _ hF1
    refine ⟨_, rfl, .inl ⟨rfl, _, SqL.of hF3⟩, ?_⟩
    refine ⟨_, rfl, F, _, _, rfl, rfl, hF3, Nat.lt_of_le_of_lt (by rw [List.length_map]; omega : (ns.map V.int).length ≤ 1000) (by decide), ?_⟩
    have hn' : ns.map V.int ++ [V.int ((vi.getD l 0).fdiv (row.getD l 0))] = (ns ++ [(vi.getD l 0).fdiv (row.getD l 0)]).map V.int := by rw [List.map_append]; rfl
    dsimp only
    rw [hn']
    have s4 : Same H (upd H3 F (.lst ((ns ++ [(vi.getD l 0).fdiv (row.getD l 0)]).map V.int))) := s13.upd_new hF
    have hF4 : (upd H3 F (.lst ((ns ++ [(vi.getD l 0).fdiv (row.getD l 0)]).map V.int))) F = some (.lst ((ns ++ [(vi.getD l 0).fdiv (row.getD l 0)]).map V.int)) := upd_same
    have hva4 : Sq K (upd H3 F (.lst ((ns ++ [(vi.getD l 0).fdiv (row.getD l 0)]).map V.int))) va (vi.map V.int) := by
      rcases hva with ⟨rfl, rfl⟩ | ⟨h1, h2⟩
      · exact ha.same s4
      · exact .inl (SqL.of (by rw [upd_ne h1]; exact s3 _ _ h2))
    generalize upd H3 F (.lst ((ns ++ [(vi.getD l 0).fdiv (row.getD l 0)]).map V.int)) = H4 at *
    have hvb := eb_lt hve
    have hrl2 := eb_lt hrb
    have hqb : ((vi.getD l 0).fdiv (row.getD l 0)).natAbs < 2 ^ (bv + i * (bs + 2) + 2) := by
      have a2 : (2 : Nat) ^ (bv + i * (bs + 2) + 2) = 2 ^ (bv + i * (bs + 2)) * 4 := by rw [Nat.pow_add]
      have a3 : 0 < 2 ^ (bv + i * (bs + 2)) := Nat.pow_pos (by decide)
      omega
    have hdl : (leadOf row).getD 0 = l := by rw [hl]; rfl
    refine ⟨_, rfl, _, rfl, _, rfl, va, tr, vi, row, _, rfl, hva4, s4.seq hrT, by omega, by omega, fun x hx => mulx_ok hqb (hrl2 x hx) (by omega), fun p' H5 s5 hp0 h5 => ?_⟩
    refine ⟨p', lessL vi ((vi.getD l 0).fdiv (row.getD l 0)) row, _, ⟨_, _, _, rfl⟩, s4.trans s5, s5 _ _ hF4, .inr ⟨(ne_of_none hF4 hp0).symm, h5⟩, ?_, ?_, by rw [List.length_append, hns]; rfl, ?_, ?_⟩
    · rw [less_len (by omega), hvl]
    · have := eb_less (by omega) hve hrb (by omega : ((vi.getD l 0).fdiv (row.getD l 0)).natAbs ≤ 2 ^ (bv + i * (bs + 2)) + 1)
      rw [hmul2, ← Nat.add_assoc]
      exact this
    · rw [hrem, hdr]
      show remV (S.drop (i + 1)) (lessL vi ((vecL vi ((leadOf row).getD 0)).fdiv (vecL row ((leadOf row).getD 0))) row) = _
      rw [hdl]
      rfl
    · rw [hcnt, hdr, List.append_assoc]
      show ns ++ ((vecL vi ((leadOf row).getD 0)).fdiv (vecL row ((leadOf row).getD 0)) :: cntV (S.drop (i + 1)) (lessL vi ((vecL vi ((leadOf row).getD 0)).fdiv (vecL row ((leadOf row).getD 0))) row)) = _
      rw [hdl]
      rfl
  · rintro σ' H1 ⟨va, vi, ns, ⟨b3, b4, b5, rfl⟩, s1, hF1, hva, hvl, hve, hns, hrem, hcnt⟩
    rw [hrl, List.drop_length] at hrem hcnt
    have hrem' : remV S v = vi := hrem
    have hcnt' : cntV S v = ns := by rw [hcnt]; exact List.append_nil ns
    have hvaS : Sq K H1 va (vi.map V.int) := by
      rcases hva with ⟨rfl, rfl⟩ | ⟨_, h⟩
      · exact ha.same s1
      · exact .inl (SqL.of h)
    rw [hrem', hcnt'] at q
    have hall : (vi.any (· != 0)) = !(vi.all (· == 0)) := by
      clear q hve hva hvaS hvl hrem hrem' hcnt hF1
      induction vi with
      | nil => rfl
      | cons x xs ih =>
        rw [List.any_cons, List.all_cons, ih]
        cases h : (x == 0) <;> simp [bne, h]
    refine ⟨_, rfl, va, vi, rfl, hvaS, ?_⟩
    rw [hall]
    refine ⟨_, rfl, ?_⟩
    cases e : vi.all (· == 0) with
    | true =>
      rw [e] at q
      exact ⟨_, rfl, q _ _ s1 ⟨F, rfl, hF1⟩⟩
    | false =>
      rw [e] at q
      exact q _ _ s1 rfl
end
end TL
namespace TL
open PySem PySem.Spec PyProof.Rows L2
/-- // by any number, within a comprehension: the frame is the def's -/
theorem op_fdivC {X : Cx} {e0 : Env} {l : List Env} (S : Sees X.K X.mg) (ht : X.prog.given.tree = none) (hd : X.A.depth + Builtin.pylongFrames < recursionLimit) (hs : X.stack = e0 :: l) (hg : e0.scope.isGenerator = false) (hc : e0.scope.isCoroutine = false) (hb : X.env.builtins = e0.builtins) (hgl : X.env.globals = e0.globals) :
    OpR X (binaryOp .FloorDiv) (rI CNz fun i j => .int (i.fdiv j)) := by
  intro pins s σ H x y v u Q I rx ry h
  obtain ⟨i, j, rfl, rfl, hz, q⟩ := h
  obtain ⟨t, rfl⟩ := rx
  obtain ⟨t', rfl⟩ := ry
  have hN := S.on (K := X.K) (mg := X.mg) I
  have hsee : SeerAt (model X.prog X.w) X.A s.heap := SeerAt.of hN ht (I.ok.frames.trans (congrArg some hs)) hg hc (hb.symm.trans I.ok.blt) (hgl.symm.trans I.ok.glob)
  exact floordiv_int hz ⟨.int (i.fdiv j), H, I.tok _, ⟨_, rfl⟩, q⟩ (.inr (PylongRoom.of I.nolimit hd hsee))
end TL
namespace TL
open PySem L2

/-! ### steps of a reading -/
local macro_rules | `(tactic| walk_at "hp") => `(tactic| first | assumption | exact upd_same | (refine (upd_ne (by first | assumption | (exact Ne.symm (by assumption)))).trans ?_; walk_at "hp"))
local macro_rules | `(tactic| walk_at "ok") => `(tactic| first | (exact Or.inr ⟨by decide, by decide⟩) | (exact ⟨by decide, by decide⟩) | (exact ⟨by decide, by decide, by decide⟩) | (show _ ≠ _; omega) | (show _ ≠ _; decide) | (exact Or.inl ⟨by omega, by omega⟩) | decide)
local macro_rules | `(tactic| walk_at "sq") => `(tactic| first | assumption | exact SqL.of (by walk_at "hp") | exact SqT.of (by walk_at "hp"))
local macro_rules | `(tactic| walk_at "ty") => `(tactic| first | refine ⟨_, _, Value.type "int", Value.type "list", false, rfl, ClsV.ty _, TyX.base (TyOf.int _), kt_int_list, ?_⟩ | refine ⟨_, _, Value.type "bool", Value.type "list", false, rfl, ClsV.ty _, TyX.base (TyOf.bl _), kt_bool_list, ?_⟩ | refine ⟨_, _, Value.type "str", Value.type "list", false, rfl, ClsV.ty _, TyX.base (TyOf.str _), kt_str_list, ?_⟩ | refine ⟨_, _, Value.type "NoneType", Value.type "list", false, rfl, ClsV.ty _, TyX.base TyOf.non, kt_NoneType_list, ?_⟩ | refine ⟨_, _, Value.type "list", Value.type "list", true, rfl, ClsV.ty _, tyx_L (by walk_at "sq"), kt_list_list, ?_⟩ | refine ⟨_, _, Value.type "tuple", Value.type "list", false, rfl, ClsV.ty _, tyx_T (by walk_at "sq"), kt_tuple_list, ?_⟩ | refine ⟨_, _, Value.type "int", Value.type "tuple", false, rfl, ClsV.ty _, TyX.base (TyOf.int _), kt_int_tuple, ?_⟩ | refine ⟨_, _, Value.type "bool", Value.type "tuple", false, rfl, ClsV.ty _, TyX.base (TyOf.bl _), kt_bool_tuple, ?_⟩ | refine ⟨_, _, Value.type "str", Value.type "tuple", false, rfl, ClsV.ty _, TyX.base (TyOf.str _), kt_str_tuple, ?_⟩ | refine ⟨_, _, Value.type "NoneType", Value.type "tuple", false, rfl, ClsV.ty _, TyX.base TyOf.non, kt_NoneType_tuple, ?_⟩ | refine ⟨_, _, Value.type "list", Value.type "tuple", false, rfl, ClsV.ty _, tyx_L (by walk_at "sq"), kt_list_tuple, ?_⟩ | refine ⟨_, _, Value.type "tuple", Value.type "tuple", true, rfl, ClsV.ty _, tyx_T (by walk_at "sq"), kt_tuple_tuple, ?_⟩ | refine ⟨_, _, Value.type "int", Value.type "bool", false, rfl, ClsV.ty _, TyX.base (TyOf.int _), kt_int_bool, ?_⟩ | refine ⟨_, _, Value.type "bool", Value.type "bool", true, rfl, ClsV.ty _, TyX.base (TyOf.bl _), kt_bool_bool, ?_⟩ | refine ⟨_, _, Value.type "str", Value.type "bool", false, rfl, ClsV.ty _, TyX.base (TyOf.str _), kt_str_bool, ?_⟩ | refine ⟨_, _, Value.type "NoneType", Value.type "bool", false, rfl, ClsV.ty _, TyX.base TyOf.non, kt_NoneType_bool, ?_⟩ | refine ⟨_, _, Value.type "list", Value.type "bool", false, rfl, ClsV.ty _, tyx_L (by walk_at "sq"), kt_list_bool, ?_⟩ | refine ⟨_, _, Value.type "tuple", Value.type "bool", false, rfl, ClsV.ty _, tyx_T (by walk_at "sq"), kt_tuple_bool, ?_⟩ | refine ⟨_, _, Value.type "int", Value.type "int", true, rfl, ClsV.ty _, TyX.base (TyOf.int _), kt_int_int, ?_⟩ | refine ⟨_, _, Value.type "bool", Value.type "int", true, rfl, ClsV.ty _, TyX.base (TyOf.bl _), kt_bool_int, ?_⟩ | refine ⟨_, _, Value.type "str", Value.type "int", false, rfl, ClsV.ty _, TyX.base (TyOf.str _), kt_str_int, ?_⟩ | refine ⟨_, _, Value.type "NoneType", Value.type "int", false, rfl, ClsV.ty _, TyX.base TyOf.non, kt_NoneType_int, ?_⟩ | refine ⟨_, _, Value.type "list", Value.type "int", false, rfl, ClsV.ty _, tyx_L (by walk_at "sq"), kt_list_int, ?_⟩ | refine ⟨_, _, Value.type "tuple", Value.type "int", false, rfl, ClsV.ty _, tyx_T (by walk_at "sq"), kt_tuple_int, ?_⟩ | refine ⟨_, _, Value.type "int", Value.type "str", false, rfl, ClsV.ty _, TyX.base (TyOf.int _), kt_int_str, ?_⟩ | refine ⟨_, _, Value.type "bool", Value.type "str", false, rfl, ClsV.ty _, TyX.base (TyOf.bl _), kt_bool_str, ?_⟩ | refine ⟨_, _, Value.type "str", Value.type "str", true, rfl, ClsV.ty _, TyX.base (TyOf.str _), kt_str_str, ?_⟩ | refine ⟨_, _, Value.type "NoneType", Value.type "str", false, rfl, ClsV.ty _, TyX.base TyOf.non, kt_NoneType_str, ?_⟩ | refine ⟨_, _, Value.type "list", Value.type "str", false, rfl, ClsV.ty _, tyx_L (by walk_at "sq"), kt_list_str, ?_⟩ | refine ⟨_, _, Value.type "tuple", Value.type "str", false, rfl, ClsV.ty _, tyx_T (by walk_at "sq"), kt_tuple_str, ?_⟩)
local macro_rules | `(tactic| walk_at "go1") => `(tactic| first
  | (refine ⟨_, rfl, ?_⟩)
  | (refine ⟨_, _, rfl, rfl, ?_⟩)
  | (refine ⟨_, _, _, _, rfl, rfl, SqL.of (by walk_at "hp"), rfl, ?_⟩)
  | (refine Or.inl ⟨_, rfl, ?_⟩)
  | (refine ⟨rfl, ?_⟩)
  | (refine ⟨_, _, rfl, .inl (SqL.of (by walk_at "hp")), ?_⟩)
  | (refine ⟨_, _, rfl, Or.inl (by assumption), ?_⟩)
  | (refine ⟨_, _, rfl, Or.inr (by assumption), ?_⟩)
  | (refine ⟨(by walk_at "ok"), ?_⟩)
  | (refine ⟨_, _, _, _, rfl, rfl, (by walk_at "hp"), rfl, ?_⟩))
local macro_rules | `(tactic| walk_at "go") => `(tactic| repeat (walk_at "go1"))
local macro_rules | `(tactic| walk_at "gt") => `(tactic| repeat (first | walk_at "go1" | walk_at "ty"))

section
variable {P : Program} {w : World} {K : PySem.W.Frag} {mg : Str → Option Value} {base : Heap}
-- [0=rows, 1=settled, 2=row*, 3=lead*, 4=upper, 5=item]
theorem lcsD {J : It} {n : Nat} {G : Hp → Prop} {Y : Nat → Hp → V → Hp → Prop} {D : Addr} {g : TG} {te : TE} {vs : List Nat} {σ : L2.St} {H0 : Hp} {Qd : Hp → Prop} (w : Walk J n G Y) (P : Nat → V → Hp → Prop) (hP : ∀ i y H H', Same H H' → P i y H → P i y H') (hPD : ∀ i y H zs zs', H D = some (.lst zs) → P i y H → P i y (upd H D (.lst zs'))) (hz : n ≤ 100000) (hD : H0 D = none) (hG : ∀ H, Same H0 H → G H)
    (hs : ∀ i x H H', i < n → Same H0 H → (∃ zs, H D = some (.lst zs)) → Y i H x H' → ∀ k : VK, (∀ y H4, Same H H4 → P i y H4 → k y H4) → g x (wipe σ vs) H' fun σ2 H2 => wipe σ2 vs = wipe σ vs ∧ te σ2 H2 k)
    (hd : ∀ (ys : List V) H, ys.length = n → (∀ (i : Nat) y, ys[i]? = some y → P i y H) → Same H0 H → H D = some (.lst ys) → Qd H) : LcGoal J g te vs σ H0 D Qd := by
  refine lc_it w (fun i H => Same H0 H ∧ ∃ ys : List V, H D = some (.lst ys) ∧ ys.length = i ∧ ∀ (t : Nat) y, ys[t]? = some y → P t y H) ⟨Same.new hD, [], upd_same, rfl, fun t y h => by cases h⟩ (fun i H _ h => hG H h.1) (fun i x H H' hi h hy => ?_) (fun H h => ?_)
  · obtain ⟨h1, ys, h3, h4, h5⟩ := h
    refine hs i x H H' hi h1 ⟨ys, h3⟩ hy _ fun y H4 s4 p => ⟨ys, s4 _ _ h3, ?_, fun c u q => ?_, ys ++ [y], upd_same, ?_, ?_⟩
    · exact Nat.lt_of_le_of_lt (by omega : ys.length ≤ 100000) (by decide)
    · rw [upd_ne (ne_of_none q hD)]
      exact s4 _ _ (h1 _ _ q)
    · rw [List.length_append, h4]
      rfl
    · intro t z hz
      refine hPD t z H4 ys _ (s4 _ _ h3) ?_
      rcases Nat.lt_or_ge t ys.length with q | q
      · rw [List.getElem?_append_left q] at hz
        exact hP _ _ _ _ s4 (h5 t z hz)
      · rw [List.getElem?_append_right q] at hz
        have e : t - ys.length = 0 := by
          have := (List.getElem?_eq_some_iff.mp hz).1
          simp at this
          omega
        rw [e] at hz
        obtain rfl : y = z := Option.some.inj hz
        have : t = i := by omega
        rw [this]
        exact p
  · obtain ⟨h1, ys, h3, h4, h5⟩ := h
    exact hd ys H h4 h5 h1 h3
/-- rows at addresses -/
def MatQ (K : PySem.W.Frag) (H : Hp) (rs : List V) (M : List (List Int)) : Prop := rs.length = M.length ∧ ∀ (i : Nat) r, rs[i]? = some r → ∃ t row, r = V.ref t ∧ M[i]? = some row ∧ SqL K H t (row.map V.int)
theorem MatQ.same {H H' : Hp} {rs : List V} {M : List (List Int)} (h : MatQ K H rs M) (s : Same H H') : MatQ K H' rs M := ⟨h.1, fun i r hr => by
  obtain ⟨t, row, a1, a2, a3⟩ := h.2 i r hr
  exact ⟨t, row, a1, a2, s.seq a3⟩⟩
theorem MatQ.snoc {H : Hp} {rs : List V} {M : List (List Int)} {t : Addr} {row : List Int} (h : MatQ K H rs M) (ht : SqL K H t (row.map V.int)) : MatQ K H (rs ++ [.ref t]) (M ++ [row]) := ⟨by rw [List.length_append, List.length_append, h.1]; rfl, fun i r hr => by
  rcases Nat.lt_or_ge i rs.length with z | z
  · rw [List.getElem?_append_left z] at hr
    rw [List.getElem?_append_left (by rw [← h.1]; exact z)]
    exact h.2 i r hr
  · have hlt := (List.getElem?_eq_some_iff.mp hr).1
    rw [List.length_append, List.length_singleton] at hlt
    have ei : i = rs.length := by omega
    subst ei
    rw [List.getElem?_append_right z, Nat.sub_self] at hr
    cases hr
    refine ⟨t, row, rfl, ?_, ht⟩
    rw [h.1, List.getElem?_append_right (Nat.le_refl _), Nat.sub_self]
    rfl⟩
def nrm (row : List Int) : List Int := if vecL row ((leadOf row).getD 0) < 0 then row.map (- ·) else row
def redR (row : List Int) (up : List Int) : List Int := lessL up ((vecL up ((leadOf row).getD 0)).fdiv (vecL (nrm row) ((leadOf row).getD 0))) (nrm row)
/-- the sizes are fit while the rows are settled -/
def SOk : List (List Int) → List (List Int) → Prop
  | _, [] => True
  | acc, row :: rest => (∀ up ∈ acc, ∀ x ∈ nrm row, CMulX ((vecL up ((leadOf row).getD 0)).fdiv (vecL (nrm row) ((leadOf row).getD 0))) x) ∧ SOk (acc.map (redR row) ++ [nrm row]) rest
theorem settle_step (acc : List (List Int)) (row : List Int) (rest : List (List Int)) : settle acc (row :: rest) = settle (acc.map (redR row) ++ [nrm row]) rest := rfl
theorem nrm_len (row : List Int) : (nrm row).length = row.length := by
  unfold nrm
  split
  · rw [List.length_map]
  · rfl
def spSettled (K : PySem.W.Frag) : Sp := fun vs H Q _ => ∃ (p : Addr) (rs : List V) (M : List (List Int)) (w : Nat), vs = [.ref p] ∧ SqL K H p rs ∧ MatQ K H rs M ∧ (∀ r ∈ M, r.length = w) ∧ w ≤ 1000 ∧ M.length ≤ 100 ∧ (∀ r ∈ M, ∃ l, leadOf r = some l) ∧ SOk [] M ∧
  ∀ t qs H', Same H H' → H' t = some (.lst qs) → MatQ K H' qs (settle [] M) → Q (.ref t) H'
theorem ok_settled (T : Tx K mg) (hP : P.given.tree = none) : FnOk P w K mg base CX0 33 T.f__settled T.d__settled ["rows"] (spSettled K) := by
  have G_less := ok_less (P := P) (w := w) (base := base) T
  have G_lead_of := ok_lead (P := P) (w := w) (base := base) T
  refine T.F__settled.ok sc__settled (fun vs H Q E h => ?_) (fun cdv A outer s H vs Q E hr h => ?_)
  · obtain ⟨p, rs, M, wd, rfl, _⟩ := h
    rfl
  obtain ⟨p, rs, M, wd, rfl, hp, hM, hw, hwd, hl, hld, hok, q⟩ := h
  have nd := sc__settled.nd
  refine ⟨_, (pss_cons (ps_set (i := 1) nd rfl (Or.inl rfl) (pe_lst pa_nil))
    (pss_cons (ps_for PassesOwn.never rfl (show PI _ _ _ (iList K _) from pi_list (pv 0)) (pg_name (i := 2) nd rfl (Or.inr rfl)) (pss_cons (ps_set (i := 3) nd rfl (Or.inr rfl) (pe_call G_lead_of (hr.mono (by decide)) (by rfl) T.m_lead_of T.F_lead_of.kp T.b_lead_of .nil pass0 (pa_cons (pv 2) pa_nil)))
    (pss_cut (ps_if (pt_cmpR op_lt (pe_ix (show IxR _ (rIxL K) from ix_list) (pv 2) (pv 3) (fun _ _ => rfl)) pe_int (nomark _)) (pss_one (ps_asg (pe_lc (own := [("item", 5)]) (g := (gName 5)) rfl nd (show PI _ _ _ (iList K _) from pi_list (pv 2)) (blkOk_by (own := [("item", 5)]) (N := N__settled) (sc := defScope s__settled) (by decide +kernel)) (fun _ _ _ _ _ => by exact (pg_name (i := 5) nd rfl (Or.inl rfl))) (fun _ _ _ _ _ => by exact pts_nil) (fun _ _ _ _ _ => by exact (pe_un un_neg (pv 5)))) (pg_name (i := 2) nd rfl (Or.inr rfl)))) pss_nil)
    (pss_cons (ps_setLc (i := 1) (own := [("upper", 4)]) (g := (gName 4)) rfl nd rfl rfl (sw_true rfl rfl rfl (by decide +kernel)) (show PI _ _ _ (iList K _) from pi_list (pv 1)) (blkOk_by (own := [("upper", 4)]) (N := N__settled) (sc := defScope s__settled) (by decide +kernel)) (fun _ _ _ _ _ => by exact (pg_name (i := 4) nd rfl (Or.inl rfl))) (fun _ _ _ _ _ => by exact pts_nil) (fun _ _ _ _ _ => by exact (pe_call G_less (hr.mono (by decide)) (by rfl) T.m_less T.F_less.kp T.b_less .nil pass0 (pa_cons (pv 4) (pa_cons (pe_op (op_fdivC T.sees hP (roomB hr (by decide)) rfl rfl rfl rfl rfl) (pe_ix (show IxR _ (rIxL K) from ix_list) (pv 4) (pv 3) (fun _ _ => rfl)) (pe_ix (show IxR _ (rIxL K) from ix_list) (pv 2) (pv 3) (fun _ _ => rfl))) (pa_cons (pv 2) pa_nil))))))
    (pss_one (ps_set (i := 1) nd rfl (Or.inl rfl) (pe_op op_cat (pv 1) (pe_lst (pa_cons (pv 2) pa_nil)))))))))
    (pss_one (ps_ret (pv 1))))), ?_⟩
  have hst : L2.start N__settled [.ref p] = [some (.ref p), none, none, none, none, none] := rfl
  rw [hst]
  refine ⟨by show 0 ≤ sizeLine; decide, fun F hF => ?_⟩
  have s0 := Same.new (o := .lst []) hF
  refine ⟨_, rfl, p, rfl, ⟨_, s0.seq hp⟩, for_it (walk_list (K := K) (a := p) (xs := rs)) (fun i σ' H' => ∃ sa qs acc, (∃ b2 b3 b4 b5, σ' = [some (.ref p), some (.ref sa), b2, b3, b4, b5]) ∧ Same H H' ∧ H' sa = some (.lst qs) ∧ MatQ K H' qs acc ∧ settle [] M = settle acc (M.drop i) ∧ SOk acc (M.drop i) ∧ (∀ r ∈ acc, r.length = wd) ∧ acc.length = i) ⟨F, [], [], ⟨_, _, _, _, rfl⟩, s0, upd_same, ⟨rfl, fun i r h => by cases h⟩, rfl, hok, fun r h => (by cases h), rfl⟩ (fun _ _ _ _ h => by obtain ⟨_, _, _, _, s, _⟩ := h; exact s.seq hp) ?_ ?_⟩
  · rintro i x σ' H1 H2 hi ⟨sa, qs, acc, ⟨b2, b3, b4, b5, rfl⟩, s1, hsa, hq, hset, hsok, hacc, hlen⟩ ⟨rfl, hx⟩
    obtain ⟨tr, row, rfl, hrow, hrT⟩ := hM.2 i x hx
    have hmem := List.mem_of_getElem? hrow
    have hrw := hw row hmem
    obtain ⟨l, hl1⟩ := hld row hmem
    obtain ⟨l1, l2, l3⟩ := lead_some hl1
    have hiM : i < M.length := by rw [← hM.1]; exact hi
    have hdr : M.drop i = row :: M.drop (i + 1) := by
      rw [List.drop_eq_getElem_cons hiM]
      congr 1
      rw [List.getElem?_eq_getElem hiM] at hrow
      exact Option.some.inj hrow
    rw [hdr] at hset hsok
    have hdl : (leadOf row).getD 0 = l := by rw [hl1]; rfl
    refine ⟨_, rfl, tr, row, rfl, s1.seq hrT, by omega, fun H3 s3 => ?_⟩
    rw [hl1]
    dsimp only [List.set_cons_succ, List.set_cons_zero, leadV]
    have s13 := s1.trans s3
    refine ⟨fun σ' H' => ∃ tr', (∃ b4 b5, σ' = [some (.ref p), some (.ref sa), some (.ref tr'), some (.int (l : Int)), b4, b5]) ∧ Same H3 H' ∧ SqL K H' tr' ((nrm row).map V.int), ?_, ?_⟩
    · refine ⟨_, rfl, _, rfl, tr, _, _, _, rfl, rfl, s13.seq hrT, at_of (j := l) rfl (getD_map (by omega)), ⟨_, _, rfl, rfl, _, rfl, ?_⟩⟩
      refine ite2 (fun c => ?_) (fun c => ?_)
      · have c' : row.getD l 0 < 0 := of_decide_eq_true c
        have hn : nrm row = row.map (- ·) := by
          unfold nrm
          rw [hdl]
          exact if_pos c'
        refine ⟨_, rfl, tr, rfl, ⟨_, s13.seq hrT⟩, fun D hD => ?_⟩
        refine lc_mapL (f := fun a => -a) (s13.seq hrT) (by omega) hD (fun u => rfl) (fun u H6 kk hu hk => ⟨_, rfl, _, rfl, hk⟩) fun H6 s6 hD6 => ?_
        exact ⟨D, ⟨_, _, rfl⟩, s6, by rw [hn]; exact SqL.of hD6⟩
      · have c' : ¬ row.getD l 0 < 0 := fun z => c (decide_eq_true z)
        have hn : nrm row = row := by
          unfold nrm
          rw [hdl]
          exact if_neg c'
        exact ⟨tr, ⟨_, _, rfl⟩, Same.refl _, by rw [hn]; exact s13.seq hrT⟩
    rintro σ' H4 ⟨tr', ⟨b4', b5', rfl⟩, s4, hrn⟩
    have s14 := s13.trans s4
    have hsa4 := s4 _ _ (s3 _ _ hsa)
    have hq4 := hq.same (s3.trans s4)
    have hql : qs.length = acc.length := hq.1
    have hnl := nrm_len row
    have hnz : (nrm row).getD l 0 ≠ 0 := by
      unfold nrm
      rw [hdl]
      split
      · rw [List.getD_eq_getElem?_getD, List.getElem?_map, List.getElem?_eq_getElem l3]
        have : vecL row l = row[l] := by
          show row.getD l 0 = _
          rw [List.getD_eq_getElem?_getD, List.getElem?_eq_getElem l3]
          rfl
        show - row[l] ≠ 0
        rw [this] at l2
        omega
      · exact l2
    refine ⟨_, rfl, sa, rfl, ⟨_, SqL.of hsa4⟩, fun D hD => ?_⟩
    refine lcsD (walk_list (K := K) (a := sa) (xs := qs)) (fun i y H => ∃ t row', y = V.ref t ∧ t ≠ D ∧ (acc.map (redR row))[i]? = some row' ∧ H t = some (.lst (row'.map V.int))) (fun i y Ha Hb s ⟨t, row', a1, a2, a3, a4⟩ => ⟨t, row', a1, a2, a3, s _ _ a4⟩)
      (fun i y Ha zs zs' hz' ⟨t, row', a1, a2, a3, a4⟩ => ⟨t, row', a1, a2, a3, by rw [upd_ne a2]; exact a4⟩) (by omega) hD (fun Ha s => SqL.of (s _ _ hsa4)) ?_ fun ys H5 hyl hys s5 hD5 => ?_
    · rintro n x Ha Hb hn sa' ⟨zs, hz⟩ ⟨rfl, hx⟩ k hk
      obtain ⟨tu, up, rfl, hup, huT⟩ := hq4.2 n x hx
      have hum := List.mem_of_getElem? hup
      have hul := hacc up hum
      refine ⟨rfl, _, rfl, _, rfl, _, rfl, tu, _, _, _, rfl, rfl, sa'.seq huT, at_of (j := l) rfl (getD_map (by omega)), _, rfl, _, rfl, tr', _, _, _, rfl, rfl, sa'.seq hrn, at_of (j := l) rfl (getD_map (by omega)), _, _, rfl, rfl, hnz, ?_⟩
      have hcm := hsok.1 up hum
      rw [hdl] at hcm
      refine ⟨_, rfl, tu, tr', up, nrm row, _, rfl, .inl (sa'.seq huT), sa'.seq hrn, by omega, by omega, hcm, fun p' Hc sc hp0 hp' => hk _ _ sc ⟨p', redR row up, rfl, (ne_of_none hz hp0).symm, by rw [List.getElem?_map, hup]; rfl, ?_⟩⟩
      unfold redR
      rw [hdl]
      exact hp'
    refine ⟨_, rfl, _, rfl, by show 1 ≤ sizeLine; decide, fun L hL => ?_⟩
    have s6 := Same.new (o := .lst [V.ref tr']) hL
    have hyl' : ys.length = acc.length := hyl.trans hql
    refine ⟨D, L, ys, [V.ref tr'], rfl, rfl, s6 _ _ hD5, upd_same, Nat.le_of_lt (Nat.lt_of_le_of_lt (by show ys.length + 1 ≤ 1000; omega) (by decide)), fun R hR => ?_⟩
    have s7 := Same.new (o := .lst (ys ++ [V.ref tr'])) hR
    have s67 := s6.trans s7
    have s17 := s14.trans (s5.trans s67)
    have hyq : MatQ K H5 ys (acc.map (redR row)) := ⟨by rw [List.length_map]; exact hyl', fun i r hr => by
      obtain ⟨t, row', a1, a2, a3, a4⟩ := hys i r hr
      exact ⟨t, row', a1, a3, SqL.of a4⟩⟩
    refine ⟨R, ys ++ [V.ref tr'], acc.map (redR row) ++ [nrm row], ⟨_, _, _, _, rfl⟩, s17, upd_same, (hyq.same s67).snoc ((s5.trans s67).seq hrn), ?_, hsok.2, fun r hr => ?_, by rw [List.length_append, List.length_map, hlen]; rfl⟩
    · rw [hset, settle_step]
    · rcases List.mem_append.mp hr with z | z
      · obtain ⟨up, hu, rfl⟩ := List.mem_map.mp z
        have := hacc up hu
        unfold redR
        rw [less_len (by omega)]
        exact this
      · rw [List.mem_singleton.mp z, hnl, hrw]
  · rintro σ' H1 ⟨sa, qs, acc, ⟨b2, b3, b4, b5, rfl⟩, s1, hsa, hq, hset, hsok, hacc, hlen⟩
    rw [hM.1, List.drop_length] at hset
    exact ⟨_, rfl, q sa qs _ s1 hsa (by rw [hset]; exact hq)⟩
end
end TL
namespace TL
open PySem L2

/-! ### steps of a reading -/
local macro_rules | `(tactic| walk_at "hp") => `(tactic| first | assumption | exact upd_same | (refine (upd_ne (by first | assumption | (exact Ne.symm (by assumption)))).trans ?_; walk_at "hp"))
local macro_rules | `(tactic| walk_at "ok") => `(tactic| first | (exact Or.inr ⟨by decide, by decide⟩) | (exact ⟨by decide, by decide⟩) | (exact ⟨by decide, by decide, by decide⟩) | (show _ ≠ _; omega) | (show _ ≠ _; decide) | (exact Or.inl ⟨by omega, by omega⟩) | decide)
local macro_rules | `(tactic| walk_at "sq") => `(tactic| first | assumption | exact SqL.of (by walk_at "hp") | exact SqT.of (by walk_at "hp"))
local macro_rules | `(tactic| walk_at "ty") => `(tactic| first | refine ⟨_, _, Value.type "int", Value.type "list", false, rfl, ClsV.ty _, TyX.base (TyOf.int _), kt_int_list, ?_⟩ | refine ⟨_, _, Value.type "bool", Value.type "list", false, rfl, ClsV.ty _, TyX.base (TyOf.bl _), kt_bool_list, ?_⟩ | refine ⟨_, _, Value.type "str", Value.type "list", false, rfl, ClsV.ty _, TyX.base (TyOf.str _), kt_str_list, ?_⟩ | refine ⟨_, _, Value.type "NoneType", Value.type "list", false, rfl, ClsV.ty _, TyX.base TyOf.non, kt_NoneType_list, ?_⟩ | refine ⟨_, _, Value.type "list", Value.type "list", true, rfl, ClsV.ty _, tyx_L (by walk_at "sq"), kt_list_list, ?_⟩ | refine ⟨_, _, Value.type "tuple", Value.type "list", false, rfl, ClsV.ty _, tyx_T (by walk_at "sq"), kt_tuple_list, ?_⟩ | refine ⟨_, _, Value.type "int", Value.type "tuple", false, rfl, ClsV.ty _, TyX.base (TyOf.int _), kt_int_tuple, ?_⟩ | refine ⟨_, _, Value.type "bool", Value.type "tuple", false, rfl, ClsV.ty _, TyX.base (TyOf.bl _), kt_bool_tuple, ?_⟩ | refine ⟨_, _, Value.type "str", Value.type "tuple", false, rfl, ClsV.ty _, TyX.base (TyOf.str _), kt_str_tuple, ?_⟩ | refine ⟨_, _, Value.type "NoneType", Value.type "tuple", false, rfl, ClsV.ty _, TyX.base TyOf.non, kt_NoneType_tuple, ?_⟩ | refine ⟨_, _, Value.type "list", Value.type "tuple", false, rfl, ClsV.ty _, tyx_L (by walk_at "sq"), kt_list_tuple, ?_⟩ | refine ⟨_, _, Value.type "tuple", Value.type "tuple", true, rfl, ClsV.ty _, tyx_T (by walk_at "sq"), kt_tuple_tuple, ?_⟩ | refine ⟨_, _, Value.type "int", Value.type "bool", false, rfl, ClsV.ty _, TyX.base (TyOf.int _), kt_int_bool, ?_⟩ | refine ⟨_, _, Value.type "bool", Value.type "bool", true, rfl, ClsV.ty _, TyX.base (TyOf.bl _), kt_bool_bool, ?_⟩ | refine ⟨_, _, Value.type "str", Value.type "bool", false, rfl, ClsV.ty _, TyX.base (TyOf.str _), kt_str_bool, ?_⟩ | refine ⟨_, _, Value.type "NoneType", Value.type "bool", false, rfl, ClsV.ty _, TyX.base TyOf.non, kt_NoneType_bool, ?_⟩ | refine ⟨_, _, Value.type "list", Value.type "bool", false, rfl, ClsV.ty _, tyx_L (by walk_at "sq"), kt_list_bool, ?_⟩ | refine ⟨_, _, Value.type "tuple", Value.type "bool", false, rfl, ClsV.ty _, tyx_T (by walk_at "sq"), kt_tuple_bool, ?_⟩ | refine ⟨_, _, Value.type "int", Value.type "int", true, rfl, ClsV.ty _, TyX.base (TyOf.int _), kt_int_int, ?_⟩ | refine ⟨_, _, Value.type "bool", Value.type "int", true, rfl, ClsV.ty _, TyX.base (TyOf.bl _), kt_bool_int, ?_⟩ | refine ⟨_, _, Value.type "str", Value.type "int", false, rfl, ClsV.ty _, TyX.base (TyOf.str _), kt_str_int, ?_⟩ | refine ⟨_, _, Value.type "NoneType", Value.type "int", false, rfl, ClsV.ty _, TyX.base TyOf.non, kt_NoneType_int, ?_⟩ | refine ⟨_, _, Value.type "list", Value.type "int", false, rfl, ClsV.ty _, tyx_L (by walk_at "sq"), kt_list_int, ?_⟩ | refine ⟨_, _, Value.type "tuple", Value.type "int", false, rfl, ClsV.ty _, tyx_T (by walk_at "sq"), kt_tuple_int, ?_⟩ | refine ⟨_, _, Value.type "int", Value.type "str", false, rfl, ClsV.ty _, TyX.base (TyOf.int _), kt_int_str, ?_⟩ | refine ⟨_, _, Value.type "bool", Value.type "str", false, rfl, ClsV.ty _, TyX.base (TyOf.bl _), kt_bool_str, ?_⟩ | refine ⟨_, _, Value.type "str", Value.type "str", true, rfl, ClsV.ty _, TyX.base (TyOf.str _), kt_str_str, ?_⟩ | refine ⟨_, _, Value.type "NoneType", Value.type "str", false, rfl, ClsV.ty _, TyX.base TyOf.non, kt_NoneType_str, ?_⟩ | refine ⟨_, _, Value.type "list", Value.type "str", false, rfl, ClsV.ty _, tyx_L (by walk_at "sq"), kt_list_str, ?_⟩ | refine ⟨_, _, Value.type "tuple", Value.type "str", false, rfl, ClsV.ty _, tyx_T (by walk_at "sq"), kt_tuple_str, ?_⟩)
local macro_rules | `(tactic| walk_at "go1") => `(tactic| first
  | (refine ⟨_, rfl, ?_⟩)
  | (refine ⟨_, _, rfl, rfl, ?_⟩)
  | (refine ⟨_, _, _, _, rfl, rfl, SqL.of (by walk_at "hp"), rfl, ?_⟩)
  | (refine Or.inl ⟨_, rfl, ?_⟩)
  | (refine ⟨rfl, ?_⟩)
  | (refine ⟨_, _, rfl, .inl (SqL.of (by walk_at "hp")), ?_⟩)
  | (refine ⟨_, _, rfl, Or.inl (by assumption), ?_⟩)
  | (refine ⟨_, _, rfl, Or.inr (by assumption), ?_⟩)
  | (refine ⟨(by walk_at "ok"), ?_⟩)
  | (refine ⟨_, _, _, _, rfl, rfl, (by walk_at "hp"), rfl, ?_⟩))
local macro_rules | `(tactic| walk_at "go") => `(tactic| repeat (walk_at "go1"))
local macro_rules | `(tactic| walk_at "gt") => `(tactic| repeat (first | walk_at "go1" | walk_at "ty"))

section
variable {P : Program} {w : World} {K : PySem.W.Frag} {mg : Str → Option Value} {base : Heap}
-- [0=stairs, 1=vector, 2=rows, 3=row, 4=lead, 5=own]
theorem sqL_upd {H : Hp} {F a : Addr} {qs : List V} {o : HO} {xs : List Int} (hF : H F = some (.lst qs)) (hq : ∀ x ∈ qs, ∃ t, x = V.ref t) (h : SqL K H a (xs.map V.int)) (hx : xs ≠ []) : SqL K (upd H F o) a (xs.map V.int) := by
  rcases h with (h | ⟨u, h⟩) | h
  · have ne : a ≠ F := fun z => by
      subst z
      rw [hF] at h
      have e : qs = xs.map V.int := by
        injection h with h
        injection h
      cases xs with
      | nil => exact hx rfl
      | cons x xs =>
        obtain ⟨t, ht⟩ := hq (V.int x) (by rw [e]; exact List.mem_cons_self)
        cases ht
    exact .inl (.inl (by rw [upd_ne ne]; exact h))
  · exact .inl (.inr ⟨u, by rw [upd_ne (ne_of h hF (by intro z; cases z))]; exact h⟩)
  · exact .inr h
theorem MatQ.upd {H : Hp} {F : Addr} {qs : List V} {o : HO} {rs : List V} {M : List (List Int)} (h : MatQ K H rs M) (hF : H F = some (.lst qs)) (hq : ∀ x ∈ qs, ∃ t, x = V.ref t) (hM : ∀ r ∈ M, r ≠ []) : MatQ K (L2.upd H F o) rs M := ⟨h.1, fun i r hr => by
  obtain ⟨t, row, a1, a2, a3⟩ := h.2 i r hr
  exact ⟨t, row, a1, a2, sqL_upd hF hq a3 (hM row (List.mem_of_getElem? a2))⟩⟩
theorem MatQ.refs {H : Hp} {rs : List V} {M : List (List Int)} (h : MatQ K H rs M) : ∀ x ∈ rs, ∃ t, x = V.ref t := fun x hx => by
  obtain ⟨i, hi⟩ := List.mem_iff_getElem?.mp hx
  obtain ⟨t, _, e, _⟩ := h.2 i x hi
  exact ⟨t, e⟩
theorem any_lead : ∀ v : List Int, v.any (· != 0) = (leadOf v).isSome
  | [] => rfl
  | x :: xs => by
    rw [List.any_cons, any_lead xs]
    have e : leadOf (x :: xs) = if x ≠ 0 then some 0 else (leadOf xs).map (· + 1) := rfl
    rw [e]
    by_cases c : x ≠ 0
    · rw [if_pos c]
      simp [c]
    · rw [if_neg c]
      have : x = 0 := Decidable.not_not.mp c
      subst this
      cases leadOf xs <;> rfl
/-- the sizes are fit on the way down -/
def WOk : List (List Int) → List Int → Prop
  | [], _ => True
  | r :: rs, v => match leadOf v with
    | none => WOk rs v
    | some own => match leadOf r with
      | none => WOk rs v
      | some lead => if lead < own then WOk rs v else if own < lead then WOk rs r else (∃ e, PBt lead (2 ^ e) r v ∧ e ≤ 60000000) ∧ WOk rs (dvd2 lead (vecL v lead).natAbs r v).2
theorem withV_cons (r : List Int) (rs : List (List Int)) (v : List Int) : withV (r :: rs) v = match leadOf v with
    | none => r :: withV rs v
    | some own => match leadOf r with
      | none => r :: withV rs v
      | some lead => if lead < own then r :: withV rs v else if own < lead then v :: withV rs r else (dvd2 lead (vecL v lead).natAbs r v).1 :: withV rs (dvd2 lead (vecL v lead).natAbs r v).2 := rfl
theorem WOk_cons (r : List Int) (rs : List (List Int)) (v : List Int) : WOk (r :: rs) v = match leadOf v with
    | none => WOk rs v
    | some own => match leadOf r with
      | none => WOk rs v
      | some lead => if lead < own then WOk rs v else if own < lead then WOk rs r else (∃ e, PBt lead (2 ^ e) r v ∧ e ≤ 60000000) ∧ WOk rs (dvd2 lead (vecL v lead).natAbs r v).2 := rfl
theorem dvd2_len {l : Nat} : ∀ (n : Nat) (r v : List Int), r.length = v.length → (dvd2 l n r v).1.length = r.length ∧ (dvd2 l n r v).2.length = r.length
  | 0, r, v, h => ⟨rfl, h.symm⟩
  | n + 1, r, v, h => by
    have e : dvd2 l (n + 1) r v = if vecL v l ≠ 0 then dvd2 l n v (lessL r ((vecL r l).fdiv (vecL v l)) v) else (r, v) := rfl
    rw [e]
    split
    · have := dvd2_len (l := l) n v (lessL r ((vecL r l).fdiv (vecL v l)) v) (by rw [less_len h]; exact h.symm)
      rw [h]
      exact this
    · exact ⟨rfl, h.symm⟩
def spWithV (K : PySem.W.Frag) : Sp := fun vs H Q _ => ∃ (p a : Addr) (rs : List V) (S : List (List Int)) (v : List Int) (w : Nat), vs = [.ref p, .ref a] ∧ SqL K H p rs ∧ MatQ K H rs S ∧ SqL K H a (v.map V.int) ∧ (∀ r ∈ S, r.length = w) ∧ v.length = w ∧ 0 < w ∧ w ≤ 1000 ∧ S.length ≤ 100 ∧ (∀ r ∈ S, ∃ l, leadOf r = some l) ∧ WOk S v ∧
  ∀ t qs H', Same H H' → H' t = some (.lst qs) → MatQ K H' qs (withV S v) → Q (.ref t) H'
theorem ok_withV (T : Tx K mg) (hP : P.given.tree = none) : FnOk P w K mg base CX0 34 T.f__with_vector T.d__with_vector ["stairs", "vector"] (spWithV K) := by
  have G_lead_of := ok_lead (P := P) (w := w) (base := base) T
  have G__divided := ok_divided (P := P) (w := w) (base := base) T hP
  refine T.F__with_vector.ok sc__with_vector (fun vs H Q E h => ?_) (fun cdv A outer s H vs Q E hr h => ?_)
  · obtain ⟨p, a, rs, S, v, wd, rfl, _⟩ := h
    rfl
  obtain ⟨p, a, rs, S, v, wd, rfl, hp, hS, ha, hw, hv, h0, hwd, hl, hld, hok, q⟩ := h
  have nd := sc__with_vector.nd
  refine ⟨_, (pss_cons (ps_set (i := 2) nd rfl (Or.inl rfl) (pe_lst pa_nil))
    (pss_cons (ps_for PassesOwn.never rfl (show PI _ _ _ (iList K _) from pi_list (pv 0)) (pg_name (i := 3) nd rfl (Or.inl rfl)) (pss_cons (ps_set (i := 4) nd rfl (Or.inl rfl) (pe_call G_lead_of (hr.mono (by decide)) (by rfl) T.m_lead_of T.F_lead_of.kp T.b_lead_of .nil pass0 (pa_cons (pv 3) pa_nil)))
    (pss_cons (ps_set (i := 5) nd rfl (Or.inl rfl) (pe_call G_lead_of (hr.mono (by decide)) (by rfl) T.m_lead_of T.F_lead_of.kp T.b_lead_of .nil pass0 (pa_cons (pv 1) pa_nil)))
    (pss_one (ps_if (PW.pt (pw_or (pt_cmpR op_isN (pv 5) pe_non (nomark _)) (pw_or1 (pt_cmpR op_lt (pv 4) (pv 5) (nomark _))))) (pss_one (ps_expr (pe_bm PySem.F.plainAttrs_list PySem.F.slot_list_append PySem.F.type_list_append mt_append (pv 2) (pa_cons (pv 3) pa_nil)))) (pss_one (ps_if (pt_cmpR op_lt (pv 5) (pv 4) (nomark _)) (pss_cons (ps_expr (pe_bm PySem.F.plainAttrs_list PySem.F.slot_list_append PySem.F.type_list_append mt_append (pv 2) (pa_cons (pv 1) pa_nil)))
    (pss_one (ps_set (i := 1) nd rfl (Or.inl rfl) (pv 3)))) (pss_cons (ps_asg (pe_call G__divided hr (by rfl) T.m__divided T.F__divided.kp T.b__divided .nil pass0 (pa_cons (pv 3) (pa_cons (pv 1) (pa_cons (pv 4) pa_nil)))) (pg_tup rfl (pgs_cons (pg_name (i := 3) nd rfl (Or.inl rfl)) (pgs_cons (pg_name (i := 1) nd rfl (Or.inl rfl)) pgs_nil))))
    (pss_one (ps_expr (pe_bm PySem.F.plainAttrs_list PySem.F.slot_list_append PySem.F.type_list_append mt_append (pv 2) (pa_cons (pv 3) pa_nil))))))))))))
    (pss_cons (ps_if (pt_val (pe_callB (show CallR _ _ (rAnyE K) from cr_anyE rfl) (by rfl) T.z_any (by decide +kernel) (pa_cons (pv 1) pa_nil))) (pss_one (ps_expr (pe_bm PySem.F.plainAttrs_list PySem.F.slot_list_append PySem.F.type_list_append mt_append (pv 2) (pa_cons (pv 1) pa_nil)))) pss_nil)
    (pss_one (ps_ret (pv 2)))))), ?_⟩
  have hst : L2.start N__with_vector [.ref p, .ref a] = [some (.ref p), some (.ref a), none, none, none, none] := rfl
  rw [hst]
  refine ⟨by show 0 ≤ sizeLine; decide, fun F hF => ?_⟩
  have s0 := Same.new (o := .lst []) hF
  refine ⟨_, rfl, p, rfl, ⟨_, s0.seq hp⟩, for_it (walk_list (K := K) (a := p) (xs := rs)) (fun i σ' H' => ∃ va vi qs R, (∃ b3 b4 b5, σ' = [some (.ref p), some (.ref va), some (.ref F), b3, b4, b5]) ∧ Same H H' ∧ H' F = some (.lst qs) ∧ MatQ K H' qs R ∧ (∀ r ∈ R, r ≠ []) ∧ SqL K H' va (vi.map V.int) ∧ vi.length = wd ∧ withV S v = R ++ withV (S.drop i) vi ∧ WOk (S.drop i) vi ∧ qs.length ≤ i) ⟨a, v, [], [], ⟨_, _, _, rfl⟩, s0, upd_same, ⟨rfl, fun i r h => by cases h⟩, fun r h => (by cases h), s0.seq ha, hv, rfl, hok, Nat.le_refl _⟩ (fun _ _ _ _ h => by obtain ⟨_, _, _, _, _, s, _⟩ := h; exact s.seq hp) ?_ ?_⟩
  · rintro i x σ' H1 H2 hi ⟨va, vi, qs, R, ⟨b3, b4, b5, rfl⟩, s1, hF1, hQ, hR, hva, hvl, hwv, hwok, hql⟩ ⟨rfl, hx⟩
    obtain ⟨tr, row, rfl, hrow, hrT⟩ := hS.2 i x hx
    have hmem := List.mem_of_getElem? hrow
    have hrw := hw row hmem
    obtain ⟨l, hl1⟩ := hld row hmem
    obtain ⟨l1, l2, l3⟩ := lead_some hl1
    have hiM : i < S.length := by rw [← hS.1]; exact hi
    have hdr : S.drop i = row :: S.drop (i + 1) := by
      rw [List.drop_eq_getElem_cons hiM]
      congr 1
      rw [List.getElem?_eq_getElem hiM] at hrow
      exact Option.some.inj hrow
    rw [hdr] at hwv hwok
    have ne_of : ∀ {u : List Int}, u.length = wd → u ≠ [] := fun h z => by rw [z] at h; exact absurd h (by show ¬ 0 = wd; omega)
    have hsz : qs.length < sizeLine := Nat.lt_of_le_of_lt (by omega : qs.length ≤ 1000) (by decide)
    have app : ∀ (Hc : Hp) (t va' : Addr) (row' vi' : List Int), Same H2 Hc → SqL K Hc t (row'.map V.int) → row'.length = wd → SqL K Hc va' (vi'.map V.int) → vi'.length = wd → withV (row :: S.drop (i + 1)) vi = row' :: withV (S.drop (i + 1)) vi' → WOk (S.drop (i + 1)) vi' → ∀ b3 b4 b5, (fun i σ' H' => ∃ va vi qs R, (∃ b3 b4 b5, σ' = [some (V.ref p), some (V.ref va), some (V.ref F), b3, b4, b5]) ∧ Same H H' ∧ H' F = some (.lst qs) ∧ MatQ K H' qs R ∧ (∀ r ∈ R, r ≠ []) ∧ SqL K H' va (vi.map V.int) ∧ vi.length = wd ∧ withV S v = R ++ withV (S.drop i) vi ∧ WOk (S.drop i) vi ∧ qs.length ≤ i) (i + 1) [some (V.ref p), some (V.ref va'), some (V.ref F), b3, b4, b5] (upd Hc F (.lst (qs ++ [.ref t]))) := by
      intro Hc t va' row' vi' sc ht hrl hva' hvl' e1 e2 b3 b4 b5
      have hFc := sc _ _ hF1
      have refs := hQ.refs
      refine ⟨va', vi', qs ++ [.ref t], R ++ [row'], ⟨_, _, _, rfl⟩, (s1.trans sc).upd_new hF, upd_same, ((hQ.same sc).upd hFc refs hR).snoc (sqL_upd hFc refs ht (ne_of hrl)), fun r hr => ?_, sqL_upd hFc refs hva' (ne_of hvl'), hvl', ?_, e2, by rw [List.length_append]; show qs.length + 1 ≤ i + 1; omega⟩
      · rcases List.mem_append.mp hr with z | z
        · exact hR r z
        · rw [List.mem_singleton.mp z]
          exact ne_of hrl
      · rw [hwv, e1, List.append_assoc]
        rfl
    refine ⟨_, rfl, tr, row, rfl, s1.seq hrT, by omega, fun H3 s3 => ?_⟩
    rw [hl1]
    dsimp only [List.set_cons_succ, List.set_cons_zero, leadV]
    refine ⟨_, rfl, va, vi, rfl, s3.seq hva, by omega, fun H4 s4 => ?_⟩
    have s34 := s3.trans s4
    have hF4 := s34 _ _ hF1
    have hrT4 := (s1.trans s34).seq hrT
    have hva4 := s34.seq hva
    cases hown : leadOf vi with
    | none =>
      dsimp only [List.set_cons_succ, List.set_cons_zero, leadV]
      have e1 : withV (row :: S.drop (i + 1)) vi = row :: withV (S.drop (i + 1)) vi := by rw [withV_cons, hown]
      have e2 : WOk (S.drop (i + 1)) vi := by
        rw [WOk_cons, hown] at hwok
        exact hwok
      refine ⟨_, rfl, rfl, _, rfl, ?_⟩
      refine iteT' (decide_eq_true rfl) (iteT' rfl ?_)
      refine ⟨_, rfl, .inl ⟨rfl, _, SqL.of hF4⟩, ?_⟩
      exact ⟨_, rfl, F, qs, _, rfl, rfl, hF4, hsz, app H4 tr va row vi s34 hrT4 hrw hva4 hvl e1 e2 _ _ _⟩
    | some own =>
      dsimp only [List.set_cons_succ, List.set_cons_zero, leadV]
      rw [WOk_cons, hown, hl1] at hwok
      dsimp only at hwok
      have e1 : withV (row :: S.drop (i + 1)) vi = if l < own then row :: withV (S.drop (i + 1)) vi else if own < l then vi :: withV (S.drop (i + 1)) row else (dvd2 l (vecL vi l).natAbs row vi).1 :: withV (S.drop (i + 1)) (dvd2 l (vecL vi l).natAbs row vi).2 := by rw [withV_cons, hown, hl1]
      refine ⟨_, rfl, rfl, _, rfl, ?_⟩
      refine iteF' (decide_eq_false (fun z => by cases z)) ?_
      refine ⟨_, rfl, _, rfl, _, _, rfl, rfl, _, rfl, ?_⟩
      by_cases c1 : l < own
      · rw [if_pos c1] at hwok e1
        refine iteT' (decide_eq_true (show (l : Int) < (own : Int) by omega)) ?_
        refine ⟨_, rfl, .inl ⟨rfl, _, SqL.of hF4⟩, ?_⟩
        exact ⟨_, rfl, F, qs, _, rfl, rfl, hF4, hsz, app H4 tr va row vi s34 hrT4 hrw hva4 hvl e1 hwok _ _ _⟩
      rw [if_neg c1] at hwok e1
      refine iteF' (decide_eq_false (show ¬ (l : Int) < (own : Int) by omega)) ?_
      refine ⟨_, rfl, _, rfl, _, _, rfl, rfl, _, rfl, ?_⟩
      by_cases c2 : own < l
      · rw [if_pos c2] at hwok e1
        refine iteT' (decide_eq_true (show (own : Int) < (l : Int) by omega)) ?_
        refine ⟨_, rfl, .inl ⟨rfl, _, SqL.of hF4⟩, ?_⟩
        exact ⟨_, rfl, F, qs, _, rfl, rfl, hF4, hsz, _, rfl, app H4 va tr vi row s34 hva4 hvl hrT4 hrw e1 hwok _ _ _⟩
      rw [if_neg c2] at hwok e1
      refine iteF' (decide_eq_false (show ¬ (own : Int) < (l : Int) by omega)) ?_
      obtain ⟨⟨e, hpb, he⟩, hwok2⟩ := hwok
      obtain ⟨d1, d2⟩ := dvd2_len (l := l) (vecL vi l).natAbs row vi (by omega)
      refine ⟨_, rfl, _, rfl, _, rfl, tr, va, row, vi, l, e, rfl, hrT4, hva4, by omega, by omega, by omega, hpb, he, fun tt a' b' H5 s5 htt ha' hb' _ => ?_⟩
      refine ⟨tt, _, rfl, SqT.of htt, rfl, _, _, rfl, _, _, rfl, rfl, ?_⟩
      have hF5 := s5 _ _ hF4
      refine ⟨_, rfl, .inl ⟨rfl, _, SqL.of hF5⟩, ?_⟩
      exact ⟨_, rfl, F, qs, _, rfl, rfl, hF5, hsz, app H5 a' b' _ _ (s34.trans s5) ha' (d1.trans hrw) hb' (d2.trans hrw) e1 hwok2 _ _ _⟩
  · rintro σ' H1 ⟨va, vi, qs, R, ⟨b3, b4, b5, rfl⟩, s1, hF1, hQ, hR, hva, hvl, hwv, hwok, hql⟩
    have hwv' : withV S v = R ++ (match leadOf vi with | none => [] | some _ => [vi]) := by
      rw [hwv, hS.1, List.drop_length]
      rfl
    have hnn : vi ≠ [] := fun z => by rw [z] at hvl; exact absurd hvl (by show ¬ 0 = wd; omega)
    dsimp only
    refine ⟨_, rfl, va, vi, rfl, .inl hva, ?_⟩
    rw [any_lead]
    cases e : leadOf vi with
    | none =>
      rw [e] at hwv'
      refine ⟨_, rfl, ?_⟩
      refine iteF' rfl ⟨_, rfl, q F qs _ s1 hF1 (by rw [hwv', List.append_nil]; exact hQ)⟩
    | some l =>
      rw [e] at hwv'
      refine ⟨_, rfl, ?_⟩
      refine iteT' rfl ⟨_, rfl, .inl ⟨rfl, _, SqL.of hF1⟩, ?_⟩
      refine ⟨_, rfl, F, qs, _, rfl, rfl, hF1, Nat.lt_of_le_of_lt (by have := hS.1; omega : qs.length ≤ 1000) (by decide), ?_⟩
      refine ⟨_, rfl, q F _ _ (s1.upd_new hF) upd_same ?_⟩
      rw [hwv']
      exact (hQ.upd hF1 hQ.refs hR).snoc (sqL_upd hF1 hQ.refs hva hnn)
end
end TL
namespace TL
open PySem L2

/-! ### steps of a reading -/
local macro_rules | `(tactic| walk_at "hp") => `(tactic| first | assumption | exact upd_same | (refine (upd_ne (by first | assumption | (exact Ne.symm (by assumption)))).trans ?_; walk_at "hp"))
local macro_rules | `(tactic| walk_at "ok") => `(tactic| first | (exact Or.inr ⟨by decide, by decide⟩) | (exact ⟨by decide, by decide⟩) | (exact ⟨by decide, by decide, by decide⟩) | (show _ ≠ _; omega) | (show _ ≠ _; decide) | (exact Or.inl ⟨by omega, by omega⟩) | decide)
local macro_rules | `(tactic| walk_at "sq") => `(tactic| first | assumption | exact SqL.of (by walk_at "hp") | exact SqT.of (by walk_at "hp"))
local macro_rules | `(tactic| walk_at "ty") => `(tactic| first | refine ⟨_, _, Value.type "int", Value.type "list", false, rfl, ClsV.ty _, TyX.base (TyOf.int _), kt_int_list, ?_⟩ | refine ⟨_, _, Value.type "bool", Value.type "list", false, rfl, ClsV.ty _, TyX.base (TyOf.bl _), kt_bool_list, ?_⟩ | refine ⟨_, _, Value.type "str", Value.type "list", false, rfl, ClsV.ty _, TyX.base (TyOf.str _), kt_str_list, ?_⟩ | refine ⟨_, _, Value.type "NoneType", Value.type "list", false, rfl, ClsV.ty _, TyX.base TyOf.non, kt_NoneType_list, ?_⟩ | refine ⟨_, _, Value.type "list", Value.type "list", true, rfl, ClsV.ty _, tyx_L (by walk_at "sq"), kt_list_list, ?_⟩ | refine ⟨_, _, Value.type "tuple", Value.type "list", false, rfl, ClsV.ty _, tyx_T (by walk_at "sq"), kt_tuple_list, ?_⟩ | refine ⟨_, _, Value.type "int", Value.type "tuple", false, rfl, ClsV.ty _, TyX.base (TyOf.int _), kt_int_tuple, ?_⟩ | refine ⟨_, _, Value.type "bool", Value.type "tuple", false, rfl, ClsV.ty _, TyX.base (TyOf.bl _), kt_bool_tuple, ?_⟩ | refine ⟨_, _, Value.type "str", Value.type "tuple", false, rfl, ClsV.ty _, TyX.base (TyOf.str _), kt_str_tuple, ?_⟩ | refine ⟨_, _, Value.type "NoneType", Value.type "tuple", false, rfl, ClsV.ty _, TyX.base TyOf.non, kt_NoneType_tuple, ?_⟩ | refine ⟨_, _, Value.type "list", Value.type "tuple", false, rfl, ClsV.ty _, tyx_L (by walk_at "sq"), kt_list_tuple, ?_⟩ | refine ⟨_, _, Value.type "tuple", Value.type "tuple", true, rfl, ClsV.ty _, tyx_T (by walk_at "sq"), kt_tuple_tuple, ?_⟩ | refine ⟨_, _, Value.type "int", Value.type "bool", false, rfl, ClsV.ty _, TyX.base (TyOf.int _), kt_int_bool, ?_⟩ | refine ⟨_, _, Value.type "bool", Value.type "bool", true, rfl, ClsV.ty _, TyX.base (TyOf.bl _), kt_bool_bool, ?_⟩ | refine ⟨_, _, Value.type "str", Value.type "bool", false, rfl, ClsV.ty _, TyX.base (TyOf.str _), kt_str_bool, ?_⟩ | refine ⟨_, _, Value.type "NoneType", Value.type "bool", false, rfl, ClsV.ty _, TyX.base TyOf.non, kt_NoneType_bool, ?_⟩ | refine ⟨_, _, Value.type "list", Value.type "bool", false, rfl, ClsV.ty _, tyx_L (by walk_at "sq"), kt_list_bool, ?_⟩ | refine ⟨_, _, Value.type "tuple", Value.type "bool", false, rfl, ClsV.ty _, tyx_T (by walk_at "sq"), kt_tuple_bool, ?_⟩ | refine ⟨_, _, Value.type "int", Value.type "int", true, rfl, ClsV.ty _, TyX.base (TyOf.int _), kt_int_int, ?_⟩ | refine ⟨_, _, Value.type "bool", Value.type "int", true, rfl, ClsV.ty _, TyX.base (TyOf.bl _), kt_bool_int, ?_⟩ | refine ⟨_, _, Value.type "str", Value.type "int", false, rfl, ClsV.ty _, TyX.base (TyOf.str _), kt_str_int, ?_⟩ | refine ⟨_, _, Value.type "NoneType", Value.type "int", false, rfl, ClsV.ty _, TyX.base TyOf.non, kt_NoneType_int, ?_⟩ | refine ⟨_, _, Value.type "list", Value.type "int", false, rfl, ClsV.ty _, tyx_L (by walk_at "sq"), kt_list_int, ?_⟩ | refine ⟨_, _, Value.type "tuple", Value.type "int", false, rfl, ClsV.ty _, tyx_T (by walk_at "sq"), kt_tuple_int, ?_⟩ | refine ⟨_, _, Value.type "int", Value.type "str", false, rfl, ClsV.ty _, TyX.base (TyOf.int _), kt_int_str, ?_⟩ | refine ⟨_, _, Value.type "bool", Value.type "str", false, rfl, ClsV.ty _, TyX.base (TyOf.bl _), kt_bool_str, ?_⟩ | refine ⟨_, _, Value.type "str", Value.type "str", true, rfl, ClsV.ty _, TyX.base (TyOf.str _), kt_str_str, ?_⟩ | refine ⟨_, _, Value.type "NoneType", Value.type "str", false, rfl, ClsV.ty _, TyX.base TyOf.non, kt_NoneType_str, ?_⟩ | refine ⟨_, _, Value.type "list", Value.type "str", false, rfl, ClsV.ty _, tyx_L (by walk_at "sq"), kt_list_str, ?_⟩ | refine ⟨_, _, Value.type "tuple", Value.type "str", false, rfl, ClsV.ty _, tyx_T (by walk_at "sq"), kt_tuple_str, ?_⟩)
local macro_rules | `(tactic| walk_at "go1") => `(tactic| first
  | (refine ⟨_, rfl, ?_⟩)
  | (refine ⟨_, _, rfl, rfl, ?_⟩)
  | (refine ⟨_, _, _, _, rfl, rfl, SqL.of (by walk_at "hp"), rfl, ?_⟩)
  | (refine Or.inl ⟨_, rfl, ?_⟩)
  | (refine ⟨rfl, ?_⟩)
  | (refine ⟨_, _, rfl, .inl (SqL.of (by walk_at "hp")), ?_⟩)
  | (refine ⟨_, _, rfl, Or.inl (by assumption), ?_⟩)
  | (refine ⟨_, _, rfl, Or.inr (by assumption), ?_⟩)
  | (refine ⟨(by walk_at "ok"), ?_⟩)
  | (refine ⟨_, _, _, _, rfl, rfl, (by walk_at "hp"), rfl, ?_⟩))
local macro_rules | `(tactic| walk_at "go") => `(tactic| repeat (walk_at "go1"))
local macro_rules | `(tactic| walk_at "gt") => `(tactic| repeat (first | walk_at "go1" | walk_at "ty"))

section
variable {P : Program} {w : World} {K : PySem.W.Frag} {mg : Str → Option Value} {base : Heap}
-- [0=vectors, 1=stairs, 2=vector]
/-- what a step of the staircase asks -/
structure StepOk (wd : Nat) (S : List (List Int)) (v : List Int) : Prop where
  wid : ∀ r ∈ S, r.length = wd
  len : S.length ≤ 99
  lead : ∀ r ∈ S, ∃ l, leadOf r = some l
  size : ∃ bv bs, (∀ r ∈ S, EB (2 ^ bs) r) ∧ EB (2 ^ bv) v ∧ bv + (S.length + 1) * (bs + 2) ≤ 100000000
  more : (remV S v).all (· == 0) = false → WOk S v ∧ (∀ r ∈ withV S v, r.length = wd) ∧ (withV S v).length ≤ 100 ∧ (∀ r ∈ withV S v, ∃ l, leadOf r = some l) ∧ SOk [] (withV S v)
def FOk (wd : Nat) : List (List Int) → List (List Int) → Prop
  | _, [] => True
  | S, v :: vs => StepOk wd S v ∧ FOk wd (stairStep S v) vs
def spStair (K : PySem.W.Frag) : Sp := fun vs H Q _ => ∃ (p : Addr) (rs : List V) (M : List (List Int)) (w : Nat), vs = [.ref p] ∧ SqL K H p rs ∧ MatQ K H rs M ∧ (∀ r ∈ M, r.length = w) ∧ 0 < w ∧ w ≤ 1000 ∧ M.length ≤ 99 ∧ FOk w [] M ∧
  ∀ t qs H', Same H H' → SqL K H' t qs → MatQ K H' qs (stairsOf M) → Q (.ref t) H'
theorem ok_stair (T : Tx K mg) (hP : P.given.tree = none) : FnOk P w K mg base CX0 35 T.f_staircase_of T.d_staircase_of ["vectors"] (spStair K) := by
  have G_counts_on := ok_counts (P := P) (w := w) (base := base) T hP
  have G__settled := ok_settled (P := P) (w := w) (base := base) T hP
  have G__with_vector := ok_withV (P := P) (w := w) (base := base) T hP
  refine T.F_staircase_of.ok sc_staircase_of (fun vs H Q E h => ?_) (fun cdv A outer s H vs Q E hr h => ?_)
  · obtain ⟨p, rs, M, wd, rfl, _⟩ := h
    rfl
  obtain ⟨p, rs, M, wd, rfl, hp, hM, hw, h0, hwd, hl, hok, q⟩ := h
  have nd := sc_staircase_of.nd
  refine ⟨_, (pss_cons (ps_set (i := 1) nd rfl (Or.inl rfl) (pe_lst pa_nil))
    (pss_cons (ps_for PassesOwn.never rfl (show PI _ _ _ (iList K _) from pi_list (pv 0)) (pg_name (i := 2) nd rfl (Or.inl rfl)) (pss_one (ps_if (pt_cmpR op_isN (pe_call G_counts_on (hr.mono (by decide)) (by rfl) T.m_counts_on T.F_counts_on.kp T.b_counts_on .nil pass0 (pa_cons (pv 1) (pa_cons (pv 2) pa_nil))) pe_non (nomark _)) (pss_one (ps_set (i := 1) nd rfl (Or.inl rfl) (pe_call G__settled (hr.mono (by decide)) (by rfl) T.m__settled T.F__settled.kp T.b__settled .nil pass0 (pa_cons (pe_call G__with_vector hr (by rfl) T.m__with_vector T.F__with_vector.kp T.b__with_vector .nil pass0 (pa_cons (pv 1) (pa_cons (pe_callTy (show CallR _ _ (rListOf K) from call_list_of) (by rfl) T.z_list (by decide +kernel) (pa_cons (pv 2) pa_nil)) pa_nil))) pa_nil)))) pss_nil)))
    (pss_one (ps_ret (pv 1))))), ?_⟩
  have hst : L2.start N_staircase_of [.ref p] = [some (.ref p), none, none] := rfl
  rw [hst]
  refine ⟨by show 0 ≤ sizeLine; decide, fun F hF => ?_⟩
  have s0 := Same.new (o := .lst []) hF
  refine ⟨_, rfl, p, rfl, ⟨_, s0.seq hp⟩, for_it (walk_list (K := K) (a := p) (xs := rs)) (fun i σ' H' => ∃ sa qs S, (∃ b2, σ' = [some (.ref p), some (.ref sa), b2]) ∧ Same H H' ∧ SqL K H' sa qs ∧ MatQ K H' qs S ∧ stairsOf M = (M.drop i).foldl stairStep S ∧ FOk wd S (M.drop i)) ⟨F, [], [], ⟨_, rfl⟩, s0, SqL.of upd_same, ⟨rfl, fun i r h => by cases h⟩, rfl, hok⟩ (fun _ _ _ _ h => by obtain ⟨_, _, _, _, s, _⟩ := h; exact s.seq hp) ?_ ?_⟩
  · rintro i x σ' H1 H2 hi ⟨sa, qs, S, ⟨b2, rfl⟩, s1, hsa, hq, hset, hf⟩ ⟨rfl, hx⟩
    obtain ⟨tr, v, rfl, hrow, hrT⟩ := hM.2 i x hx
    have hmem := List.mem_of_getElem? hrow
    have hrw := hw v hmem
    have hiM : i < M.length := by rw [← hM.1]; exact hi
    have hdr : M.drop i = v :: M.drop (i + 1) := by
      rw [List.drop_eq_getElem_cons hiM]
      congr 1
      rw [List.getElem?_eq_getElem hiM] at hrow
      exact Option.some.inj hrow
    rw [hdr] at hset hf
    obtain ⟨st, hf2⟩ := hf
    obtain ⟨bv, bs, z1, z2, z3⟩ := st.size
    have e1 : stairsOf M = (M.drop (i + 1)).foldl stairStep (stairStep S v) := hset
    refine ⟨_, rfl, _, rfl, sa, tr, qs, S, v, bv, bs, rfl, hsa, hq.1, hq.2, .inl (s1.seq hrT), by omega, fun r hr => (st.wid r hr).trans hrw.symm, st.lead, z1, z2, z3, by have := st.len; omega, fun u H3 s3 hu => ?_⟩
    have s13 := s1.trans s3
    have hsa3 := s3.seq hsa
    have hq3 := hq.same s3
    have hrT3 := s13.seq hrT
    cases ez : (remV S v).all (· == 0) with
    | true =>
      rw [ez] at hu
      obtain ⟨t, rfl, _⟩ := hu
      have e2 : stairStep S v = S := by
        unfold stairStep
        rw [ez]
        rfl
      rw [e2] at e1 hf2
      refine ⟨rfl, _, rfl, ?_⟩
      exact iteF' (decide_eq_false (fun z => by cases z)) ⟨sa, qs, S, ⟨_, rfl⟩, s13, hsa3, hq3, e1, hf2⟩
    | false =>
      rw [ez] at hu
      have hu' : u = .non := hu
      subst hu'
      have e2 : stairStep S v = settle [] (withV S v) := by
        unfold stairStep
        rw [ez]
        rfl
      rw [e2] at e1 hf2
      obtain ⟨m1, m2, m3, m4, m5⟩ := st.more ez
      refine ⟨rfl, _, rfl, ?_⟩
      refine iteT' (decide_eq_true rfl) ?_
      refine ⟨_, rfl, _, rfl, tr, _, rfl, .inl hrT3, fun l hl2 => ?_⟩
      have sl := Same.new (o := .lst (v.map V.int)) hl2
      refine ⟨sa, l, qs, S, v, wd, rfl, sl.seq hsa3, hq3.same sl, SqL.of upd_same, st.wid, hrw, h0, hwd, by have := st.len; omega, st.lead, m1, fun t5 qs5 H5 s5 h5 hq5 => ?_⟩
      refine ⟨t5, qs5, _, wd, rfl, SqL.of h5, hq5, m2, hwd, m3, m4, m5, fun t6 qs6 H6 s6 h6 hq6 => ?_⟩
      exact ⟨t6, qs6, _, ⟨_, rfl⟩, s13.trans (sl.trans (s5.trans s6)), SqL.of h6, hq6, e1, hf2⟩
  · rintro σ' H1 ⟨sa, qs, S, ⟨b2, rfl⟩, s1, hsa, hq, hset, hf⟩
    rw [hM.1, List.drop_length] at hset
    exact ⟨_, rfl, q sa qs _ s1 hsa (by rw [hset]; exact hq)⟩
end
end TL
namespace TL
open PySem L2

/-! ### sizes: that the staircase's numbers stay small enough -/
theorem dvd2_pbt {l D : Nat} : ∀ (n : Nat) (r v : List Int), r.length = v.length → PBt l D r v → PBt l D (dvd2 l n r v).1 (dvd2 l n r v).2
  | 0, r, v, _, h => h
  | n + 1, r, v, hl, h => by
    have e : dvd2 l (n + 1) r v = if vecL v l ≠ 0 then dvd2 l n v (lessL r ((vecL r l).fdiv (vecL v l)) v) else (r, v) := rfl
    rw [e]
    split
    · rename_i c
      exact dvd2_pbt n v _ (by rw [less_len hl]; exact hl.symm) (h.step hl c)
    · exact h
/-- rows with bits that sum up to T at most -/
def SumOk : List (List Int) → Nat → Prop
  | [], _ => True
  | r :: rs, T => ∃ y, EB (2 ^ y) r ∧ y + 2 ≤ T ∧ SumOk rs (T - (y + 2))
def Wb (bs : Nat) : Nat → Nat → Nat
  | 0, c => c + 2
  | m + 1, c => (c + bs + 4) + Wb bs m (c + bs + 2)
theorem SumOk.le : ∀ {M : List (List Int)} {T U : Nat}, SumOk M T → T ≤ U → SumOk M U
  | [], _, _, _, _ => trivial
  | r :: rs, T, U, ⟨y, h1, h2, h3⟩, h => ⟨y, h1, by omega, SumOk.le h3 (by omega)⟩
theorem eb_up {a b : Nat} {v : List Int} (h : EB (2 ^ a) v) (k : a ≤ b) : EB (2 ^ b) v := h.le (Nat.pow_le_pow_right (by decide) k)
theorem withV_sum {w bs : Nat} : ∀ (S : List (List Int)) (v : List Int) (c : Nat), (∀ r ∈ S, r.length = w) → v.length = w → (∀ r ∈ S, EB (2 ^ bs) r) → EB (2 ^ c) v → c + (S.length + 1) * (bs + 2) ≤ 60000000 → WOk S v ∧ SumOk (withV S v) (Wb bs S.length c) ∧ (withV S v).length ≤ S.length + 1
  | [], v, c, _, hv, _, hc, _ => by
    refine ⟨trivial, ?_, ?_⟩
    · unfold withV
      cases leadOf v with
      | none => exact trivial
      | some l => exact ⟨c, hc, Nat.le_refl _, trivial⟩
    · unfold withV
      cases leadOf v with
      | none => exact Nat.zero_le _
      | some l => exact Nat.le_refl _
  | r :: rs, v, c, hS, hv, hb, hc, hz => by
    have hr := hS r List.mem_cons_self
    have hrb := hb r List.mem_cons_self
    have hz' : c + bs + 2 + (rs.length + 1) * (bs + 2) ≤ 60000000 := by
      have e : ((r :: rs).length + 1) * (bs + 2) = (rs.length + 1) * (bs + 2) + (bs + 2) := Nat.succ_mul ..
      omega
    have ih : ∀ u : List Int, u.length = w → EB (2 ^ (c + bs + 2)) u → WOk rs u ∧ SumOk (withV rs u) (Wb bs rs.length (c + bs + 2)) ∧ (withV rs u).length ≤ rs.length + 1 := fun u hu he =>
      withV_sum rs u (c + bs + 2) (fun x hx => hS x (List.mem_cons_of_mem _ hx)) hu (fun x hx => hb x (List.mem_cons_of_mem _ hx)) he hz'
    have put : ∀ (x : List Int) (M : List (List Int)), EB (2 ^ (c + bs + 2)) x → SumOk M (Wb bs rs.length (c + bs + 2)) → SumOk (x :: M) (Wb bs (r :: rs).length c) := fun x M hx hM => by
      have e : Wb bs (r :: rs).length c = (c + bs + 4) + Wb bs rs.length (c + bs + 2) := rfl
      rw [e]
      exact ⟨c + bs + 2, hx, by omega, hM.le (by omega)⟩
    have hv' : EB (2 ^ (c + bs + 2)) v := eb_up hc (by omega)
    have hr' : EB (2 ^ (c + bs + 2)) r := eb_up hrb (by omega)
    have stay : WOk rs v ∧ SumOk (r :: withV rs v) (Wb bs (r :: rs).length c) ∧ (r :: withV rs v).length ≤ (r :: rs).length + 1 := by
      obtain ⟨a1, a2, a3⟩ := ih v hv hv'
      exact ⟨a1, put r _ hr' a2, Nat.succ_le_succ a3⟩
    rw [WOk_cons, withV_cons]
    cases leadOf v with
    | none => exact stay
    | some own =>
      cases leadOf r with
      | none => exact stay
      | some lead =>
        dsimp only
        by_cases c1 : lead < own
        · rw [if_pos c1, if_pos c1]
          exact stay
        · rw [if_neg c1, if_neg c1]
          by_cases c2 : own < lead
          · rw [if_pos c2, if_pos c2]
            obtain ⟨a1, a2, a3⟩ := ih r hr hr'
            exact ⟨a1, put v _ hv' a2, Nat.succ_le_succ a3⟩
          · rw [if_neg c2, if_neg c2]
            have hpb := PBt.start (l := lead) hrb hc
            have e1 : bs + (c + 2) = c + bs + 2 := by omega
            rw [e1] at hpb
            have hd := dvd2_pbt (vecL v lead).natAbs r v (hr.trans hv.symm) hpb
            obtain ⟨d1, d2⟩ := dvd2_len (l := lead) (vecL v lead).natAbs r v (hr.trans hv.symm)
            obtain ⟨a1, a2, a3⟩ := ih _ (d2.trans hr) hd.eb.2
            exact ⟨⟨⟨_, hpb, by omega⟩, a1⟩, put _ _ hd.eb.1 a2, Nat.succ_le_succ a3⟩
theorem nrm_eb {D : Nat} {r : List Int} (h : EB D r) : EB D (nrm r) := by
  unfold nrm
  split
  · intro x hx
    obtain ⟨y, hy, rfl⟩ := List.mem_map.mp hx
    rw [Int.natAbs_neg]
    exact h y hy
  · exact h
theorem nrm_lead {r : List Int} {l : Nat} (h : leadOf r = some l) : vecL (nrm r) l ≠ 0 := by
  obtain ⟨h1, h2, h3⟩ := lead_some h
  unfold nrm
  rw [h]
  show vecL (if vecL r l < 0 then r.map (- ·) else r) l ≠ 0
  split
  · rw [vec_neg]
    show - vecL r l ≠ 0
    omega
  · exact h2
theorem settle_sum {w : Nat} : ∀ (rest acc : List (List Int)) (X T : Nat), (∀ r ∈ acc, r.length = w) → (∀ r ∈ rest, r.length = w) → (∀ r ∈ rest, ∃ l, leadOf r = some l) → (∀ r ∈ acc, EB (2 ^ X) r) → SumOk rest T → X + T ≤ 100000000 →
    SOk acc rest ∧ (∀ r ∈ settle acc rest, EB (2 ^ (X + T)) r) ∧ (settle acc rest).length = acc.length + rest.length
  | [], acc, X, T, _, _, _, ha, _, _ => ⟨trivial, fun r hr => eb_up (ha r hr) (by omega), rfl⟩
  | row :: rest, acc, X, T, hw, hr, hl, ha, ⟨y, h1, h2, h3⟩, hz => by
    obtain ⟨l, hl1⟩ := hl row List.mem_cons_self
    have hrw := hr row List.mem_cons_self
    have hn := nrm_eb h1
    have hnl := nrm_len row
    have hnz := nrm_lead hl1
    have hdl : (leadOf row).getD 0 = l := by rw [hl1]; rfl
    have hq : ∀ up ∈ acc, ((vecL up l).fdiv (vecL (nrm row) l)).natAbs ≤ 2 ^ X + 1 := fun up hu => by
      have h1 := fdiv_abs (a := vecL up l) hnz
      have h2 := (ha up hu).at l
      omega
    have hlen : ∀ r ∈ acc.map (redR row) ++ [nrm row], r.length = w := fun r hr' => by
      rcases List.mem_append.mp hr' with z | z
      · obtain ⟨up, hu, rfl⟩ := List.mem_map.mp z
        have := hw up hu
        unfold redR
        rw [less_len (by omega)]
        exact this
      · rw [List.mem_singleton.mp z, hnl, hrw]
    have heb : ∀ r ∈ acc.map (redR row) ++ [nrm row], EB (2 ^ (X + (y + 2))) r := fun r hr' => by
      rcases List.mem_append.mp hr' with z | z
      · obtain ⟨up, hu, rfl⟩ := List.mem_map.mp z
        unfold redR
        rw [hdl]
        exact eb_less (by rw [hnl, hrw, hw up hu]) (ha up hu) hn (hq up hu)
      · rw [List.mem_singleton.mp z]
        exact eb_up hn (by omega)
    obtain ⟨a1, a2, a3⟩ := settle_sum rest _ (X + (y + 2)) (T - (y + 2)) hlen (fun r hr' => hr r (List.mem_cons_of_mem _ hr')) (fun r hr' => hl r (List.mem_cons_of_mem _ hr')) heb h3 (by omega)
    refine ⟨⟨fun up hu x hx => ?_, a1⟩, fun r hr' => ?_, ?_⟩
    · rw [hdl]
      have hqb : ((vecL up l).fdiv (vecL (nrm row) l)).natAbs < 2 ^ (X + 2) := by
        have b1 := hq up hu
        have b2 : (2 : Nat) ^ (X + 2) = 2 ^ X * 4 := by rw [Nat.pow_add]
        have b3 : 0 < 2 ^ X := Nat.pow_pos (by decide)
        omega
      exact mulx_ok hqb (eb_lt hn x hx) (by omega)
    · rw [settle_step] at hr'
      have := a2 r hr'
      rw [show X + (y + 2) + (T - (y + 2)) = X + T by omega] at this
      exact this
    · have e : (acc.map (redR row) ++ [nrm row]).length = acc.length + 1 := by
        rw [List.length_append, List.length_map]
        rfl
      rw [settle_step, a3, e, List.length_cons]
      omega
end TL
namespace TL
open PySem L2

theorem Wb_succ (bs : Nat) : ∀ (m c : Nat), Wb bs m c ≤ Wb bs (m + 1) c
  | 0, c => by
    show c + 2 ≤ (c + bs + 4) + _
    omega
  | m + 1, c => by
    have := Wb_succ bs m (c + bs + 2)
    show (c + bs + 4) + Wb bs m (c + bs + 2) ≤ (c + bs + 4) + Wb bs (m + 1) (c + bs + 2)
    omega
theorem Wb_mono (bs : Nat) {m n : Nat} (h : m ≤ n) (c : Nat) : Wb bs m c ≤ Wb bs n c := by
  induction n with
  | zero =>
    obtain rfl : m = 0 := by omega
    exact Nat.le_refl _
  | succ n ih =>
    rcases Nat.lt_or_ge m (n + 1) with z | z
    · exact Nat.le_trans (ih (by omega)) (Wb_succ bs n c)
    · obtain rfl : m = n + 1 := by omega
      exact Nat.le_refl _
/-- the bits of a staircase of the first i vectors, each of 128 bits at most -/
def Gb : Nat → Nat
  | 0 => 0
  | i + 1 => Wb (Gb i) i 128
theorem Gb_ok : ∀ i, i < 6 → 128 + (i + 1) * (Gb i + 2) ≤ 60000000 ∧ Gb (i + 1) ≤ 100000000 := by decide +kernel
theorem Gb_up {i : Nat} (h : 0 < i) : Gb i ≤ Gb (i + 1) := by
  cases i with
  | zero => cases h
  | succ i =>
    show Gb (i + 1) ≤ Wb (Gb (i + 1)) (i + 1) 128
    show Gb (i + 1) ≤ (128 + Gb (i + 1) + 4) + _
    omega
theorem ech_lead : ∀ {S : List (Nat → Int)} {b : Nat} {s : Nat → Int}, Ech b S → s ∈ S → ∃ l, s l ≠ 0
  | r :: rs, b, s, h, hs => by
    obtain ⟨l, h1, h2, h3, h4⟩ := h
    rcases List.mem_cons.mp hs with rfl | hs
    · exact ⟨l, h3⟩
    · exact ech_lead h4 hs
theorem lead_of_ech {M : List (List Int)} {b : Nat} (h : Ech b (M.map vecL)) : ∀ r ∈ M, ∃ l, leadOf r = some l := fun r hr => by
  obtain ⟨l, hl⟩ := ech_lead h (List.mem_map.mpr ⟨r, hr, rfl⟩)
  cases e : leadOf r with
  | none => exact absurd (lead_none e l) hl
  | some m => exact ⟨m, rfl⟩
theorem step_size {w i : Nat} {S : List (List Int)} {v : List Int} (hi : i < 6) (hS : ∀ r ∈ S, r.length = w) (hv : v.length = w) (hs : Stc 0 (S.map vecL)) (hl : S.length ≤ i) (hb : ∀ r ∈ S, EB (2 ^ Gb i) r) (hvb : EB (2 ^ 128) v) :
    StepOk w S v ∧ (∀ r ∈ stairStep S v, EB (2 ^ Gb (i + 1)) r) ∧ (stairStep S v).length ≤ i + 1 := by
  obtain ⟨g1, g2⟩ := Gb_ok i hi
  have hm : (S.length + 1) * (Gb i + 2) ≤ (i + 1) * (Gb i + 2) := Nat.mul_le_mul_right _ (by omega)
  obtain ⟨a1, a2, a3⟩ := withV_sum S v 128 hS hv hb hvb (by omega)
  obtain ⟨b1, b2, b3⟩ := withV_ok S v 0 hS hv hs.ech (fun j hj => by omega)
  have hld := lead_of_ech b2
  have hT : Wb (Gb i) S.length 128 ≤ Gb (i + 1) := Wb_mono _ hl _
  obtain ⟨c1, c2, c3⟩ := settle_sum (withV S v) [] 0 (Gb (i + 1)) (fun r hr => by cases hr) b1 hld (fun r hr => by cases hr) (a2.le hT) (by omega)
  refine ⟨⟨hS, by omega, lead_of_ech hs.ech, ⟨128, Gb i, hb, hvb, by omega⟩, fun _ => ⟨a1, b1, by omega, hld, c1⟩⟩, fun r hr => ?_, ?_⟩
  · unfold stairStep at hr
    split at hr
    · refine eb_up (hb r hr) (Gb_up ?_)
      have := List.length_pos_of_mem hr
      omega
    · have := c2 r hr
      rw [Nat.zero_add] at this
      exact this
  · unfold stairStep
    split
    · omega
    · rw [c3]
      show 0 + (withV S v).length ≤ i + 1
      omega
theorem fok {w : Nat} : ∀ (vs S : List (List Int)) (i : Nat), i + vs.length ≤ 6 → (∀ v ∈ vs, v.length = w) → (∀ r ∈ S, r.length = w) → Stc 0 (S.map vecL) → S.length ≤ i → (∀ r ∈ S, EB (2 ^ Gb i) r) → (∀ v ∈ vs, EB (2 ^ 128) v) →
    FOk w S vs ∧ (∀ r ∈ vs.foldl stairStep S, EB (2 ^ Gb (i + vs.length)) r) ∧ (vs.foldl stairStep S).length ≤ i + vs.length
  | [], S, i, _, _, _, _, hl, hb, _ => ⟨trivial, hb, hl⟩
  | v :: vs, S, i, hi, hv, hS, hs, hl, hb, hvb => by
    rw [List.length_cons] at hi
    obtain ⟨a1, a2, a3⟩ := step_size (by omega) hS (hv v List.mem_cons_self) hs hl hb (hvb v List.mem_cons_self)
    obtain ⟨b1, b2, _⟩ := step_ok hS (hv v List.mem_cons_self) hs
    obtain ⟨c1, c2, c3⟩ := fok vs (stairStep S v) (i + 1) (by omega) (fun x hx => hv x (List.mem_cons_of_mem _ hx)) b1 b2 a3 a2 (fun x hx => hvb x (List.mem_cons_of_mem _ hx))
    rw [List.length_cons, show i + (vs.length + 1) = i + 1 + vs.length by omega]
    exact ⟨⟨a1, c1⟩, c2, c3⟩
/-- a staircase of six vectors at most, of 128 bits at most -/
theorem stairs_size {w : Nat} {vs : List (List Int)} (h6 : vs.length ≤ 6) (hv : ∀ v ∈ vs, v.length = w) (hvb : ∀ v ∈ vs, EB (2 ^ 128) v) : FOk w [] vs ∧ (∀ r ∈ stairsOf vs, EB (2 ^ Gb vs.length) r) ∧ (stairsOf vs).length ≤ vs.length := by
  have := fok vs [] 0 (by omega) hv (fun r hr => by cases hr) trivial (Nat.le_refl _) (fun r hr => by cases hr) hvb
  rw [Nat.zero_add] at this
  exact this
end TL
namespace TL
open PySem L2

/-! ### steps of a reading -/
local macro_rules | `(tactic| walk_at "hp") => `(tactic| first | assumption | exact upd_same | (refine (upd_ne (by first | assumption | (exact Ne.symm (by assumption)))).trans ?_; walk_at "hp"))
local macro_rules | `(tactic| walk_at "ok") => `(tactic| first | (exact Or.inr ⟨by decide, by decide⟩) | (exact ⟨by decide, by decide⟩) | (exact ⟨by decide, by decide, by decide⟩) | (show _ ≠ _; omega) | (show _ ≠ _; decide) | (exact Or.inl ⟨by omega, by omega⟩) | decide)
local macro_rules | `(tactic| walk_at "sq") => `(tactic| first | assumption | exact SqL.of (by walk_at "hp") | exact SqT.of (by walk_at "hp"))
local macro_rules | `(tactic| walk_at "ty") => `(tactic| first | refine ⟨_, _, Value.type "int", Value.type "list", false, rfl, ClsV.ty _, TyX.base (TyOf.int _), kt_int_list, ?_⟩ | refine ⟨_, _, Value.type "bool", Value.type "list", false, rfl, ClsV.ty _, TyX.base (TyOf.bl _), kt_bool_list, ?_⟩ | refine ⟨_, _, Value.type "str", Value.type "list", false, rfl, ClsV.ty _, TyX.base (TyOf.str _), kt_str_list, ?_⟩ | refine ⟨_, _, Value.type "NoneType", Value.type "list", false, rfl, ClsV.ty _, TyX.base TyOf.non, kt_NoneType_list, ?_⟩ | refine ⟨_, _, Value.type "list", Value.type "list", true, rfl, ClsV.ty _, tyx_L (by walk_at "sq"), kt_list_list, ?_⟩ | refine ⟨_, _, Value.type "tuple", Value.type "list", false, rfl, ClsV.ty _, tyx_T (by walk_at "sq"), kt_tuple_list, ?_⟩ | refine ⟨_, _, Value.type "int", Value.type "tuple", false, rfl, ClsV.ty _, TyX.base (TyOf.int _), kt_int_tuple, ?_⟩ | refine ⟨_, _, Value.type "bool", Value.type "tuple", false, rfl, ClsV.ty _, TyX.base (TyOf.bl _), kt_bool_tuple, ?_⟩ | refine ⟨_, _, Value.type "str", Value.type "tuple", false, rfl, ClsV.ty _, TyX.base (TyOf.str _), kt_str_tuple, ?_⟩ | refine ⟨_, _, Value.type "NoneType", Value.type "tuple", false, rfl, ClsV.ty _, TyX.base TyOf.non, kt_NoneType_tuple, ?_⟩ | refine ⟨_, _, Value.type "list", Value.type "tuple", false, rfl, ClsV.ty _, tyx_L (by walk_at "sq"), kt_list_tuple, ?_⟩ | refine ⟨_, _, Value.type "tuple", Value.type "tuple", true, rfl, ClsV.ty _, tyx_T (by walk_at "sq"), kt_tuple_tuple, ?_⟩ | refine ⟨_, _, Value.type "int", Value.type "bool", false, rfl, ClsV.ty _, TyX.base (TyOf.int _), kt_int_bool, ?_⟩ | refine ⟨_, _, Value.type "bool", Value.type "bool", true, rfl, ClsV.ty _, TyX.base (TyOf.bl _), kt_bool_bool, ?_⟩ | refine ⟨_, _, Value.type "str", Value.type "bool", false, rfl, ClsV.ty _, TyX.base (TyOf.str _), kt_str_bool, ?_⟩ | refine ⟨_, _, Value.type "NoneType", Value.type "bool", false, rfl, ClsV.ty _, TyX.base TyOf.non, kt_NoneType_bool, ?_⟩ | refine ⟨_, _, Value.type "list", Value.type "bool", false, rfl, ClsV.ty _, tyx_L (by walk_at "sq"), kt_list_bool, ?_⟩ | refine ⟨_, _, Value.type "tuple", Value.type "bool", false, rfl, ClsV.ty _, tyx_T (by walk_at "sq"), kt_tuple_bool, ?_⟩ | refine ⟨_, _, Value.type "int", Value.type "int", true, rfl, ClsV.ty _, TyX.base (TyOf.int _), kt_int_int, ?_⟩ | refine ⟨_, _, Value.type "bool", Value.type "int", true, rfl, ClsV.ty _, TyX.base (TyOf.bl _), kt_bool_int, ?_⟩ | refine ⟨_, _, Value.type "str", Value.type "int", false, rfl, ClsV.ty _, TyX.base (TyOf.str _), kt_str_int, ?_⟩ | refine ⟨_, _, Value.type "NoneType", Value.type "int", false, rfl, ClsV.ty _, TyX.base TyOf.non, kt_NoneType_int, ?_⟩ | refine ⟨_, _, Value.type "list", Value.type "int", false, rfl, ClsV.ty _, tyx_L (by walk_at "sq"), kt_list_int, ?_⟩ | refine ⟨_, _, Value.type "tuple", Value.type "int", false, rfl, ClsV.ty _, tyx_T (by walk_at "sq"), kt_tuple_int, ?_⟩ | refine ⟨_, _, Value.type "int", Value.type "str", false, rfl, ClsV.ty _, TyX.base (TyOf.int _), kt_int_str, ?_⟩ | refine ⟨_, _, Value.type "bool", Value.type "str", false, rfl, ClsV.ty _, TyX.base (TyOf.bl _), kt_bool_str, ?_⟩ | refine ⟨_, _, Value.type "str", Value.type "str", true, rfl, ClsV.ty _, TyX.base (TyOf.str _), kt_str_str, ?_⟩ | refine ⟨_, _, Value.type "NoneType", Value.type "str", false, rfl, ClsV.ty _, TyX.base TyOf.non, kt_NoneType_str, ?_⟩ | refine ⟨_, _, Value.type "list", Value.type "str", false, rfl, ClsV.ty _, tyx_L (by walk_at "sq"), kt_list_str, ?_⟩ | refine ⟨_, _, Value.type "tuple", Value.type "str", false, rfl, ClsV.ty _, tyx_T (by walk_at "sq"), kt_tuple_str, ?_⟩)
local macro_rules | `(tactic| walk_at "go1") => `(tactic| first
  | (refine ⟨_, rfl, ?_⟩)
  | (refine ⟨_, _, rfl, rfl, ?_⟩)
  | (refine ⟨_, _, _, _, rfl, rfl, SqL.of (by walk_at "hp"), rfl, ?_⟩)
  | (refine Or.inl ⟨_, rfl, ?_⟩)
  | (refine ⟨rfl, ?_⟩)
  | (refine ⟨_, _, rfl, .inl (SqL.of (by walk_at "hp")), ?_⟩)
  | (refine ⟨_, _, rfl, Or.inl (by assumption), ?_⟩)
  | (refine ⟨_, _, rfl, Or.inr (by assumption), ?_⟩)
  | (refine ⟨(by walk_at "ok"), ?_⟩)
  | (refine ⟨_, _, _, _, rfl, rfl, (by walk_at "hp"), rfl, ?_⟩))
local macro_rules | `(tactic| walk_at "go") => `(tactic| repeat (walk_at "go1"))
local macro_rules | `(tactic| walk_at "gt") => `(tactic| repeat (first | walk_at "go1" | walk_at "ty"))

section
variable {P : Program} {w : World} {K : PySem.W.Frag} {mg : Str → Option Value} {base : Heap}
-- [0=_law_bag, 1=_law_way] [0=_law_width, 1=_law_rows, 2=_law_counts, 3=_law_found, 4=_law_row, 5=_law_many*, 6=_law_x, 7=_law_y]
def spNum : Sp := fun vs H Q _ => ∃ (B : Bg), vs = [.ref B.b] ∧ Bag B H ∧ ∀ (d : Int) (H' : Hp), d.natAbs ≤ 2 ^ 80 → Bag B H' → Kb B.b H H' → Q (.int d) H'
theorem ok_num (T : Tx K mg) : FnOk P w K mg base CX0 2 T.f_l_draw_number T.d_l_draw_number ["_law_bag"] spNum := by
  have G_l_pull := ok_pull (P := P) (w := w) (base := base) T
  refine T.F_l_draw_number.ok sc_l_draw_number (fun vs H Q E h => ?_) (fun cdv A outer s H vs Q E hr h => ?_)
  · obtain ⟨B, rfl, _⟩ := h
    rfl
  obtain ⟨B, rfl, hB, q⟩ := h
  have nd := sc_l_draw_number.nd
  refine ⟨_, (pss_cons (ps_set (i := 1) nd rfl (Or.inl rfl) (pe_call G_l_pull hr (by rfl) T.m_l_pull T.F_l_pull.kp T.b_l_pull .nil pass0 (pa_cons (pv 0) (pa_cons pe_int pa_nil))))
    (pss_cons (ps_if (pt_cmpR op_lt (pv 1) pe_int (nomark _)) (pss_one (ps_ret (pe_op op_sub (pe_call G_l_pull hr (by rfl) T.m_l_pull T.F_l_pull.kp T.b_l_pull .nil pass0 (pa_cons (pv 0) (pa_cons pe_int pa_nil))) pe_int))) pss_nil)
    (pss_cons (ps_if (pt_cmpR op_eq (pv 1) pe_int (nomark _)) (pss_one (ps_ret pe_int)) pss_nil)
    (pss_cons (ps_if (pt_cmpR op_eq (pv 1) pe_int (nomark _)) (pss_one (ps_ret (pe_op op_sub (pe_call G_l_pull hr (by rfl) T.m_l_pull T.F_l_pull.kp T.b_l_pull .nil pass0 (pa_cons (pv 0) (pa_cons pe_int pa_nil))) pe_int))) pss_nil)
    (pss_one (ps_ret (pe_op op_add (pe_op op_mulW (pe_op op_sub (pe_call G_l_pull hr (by rfl) T.m_l_pull T.F_l_pull.kp T.b_l_pull .nil pass0 (pa_cons (pv 0) (pa_cons pe_int pa_nil))) pe_int) (pe_op op_pow pe_int pe_int)) (pe_call G_l_pull hr (by rfl) T.m_l_pull T.F_l_pull.kp T.b_l_pull .nil pass0 (pa_cons (pv 0) (pa_cons pe_int pa_nil)))))))))), ?_⟩
  refine ⟨_, rfl, B, 7, rfl, by decide, by decide, hB, fun kd H1 k0 k1 hB1 kb1 => ?_⟩
  have p80 : (2 : Nat) ^ 80 = 1208925819614629174706176 := by decide
  rw [p80] at q
  refine ⟨_, rfl, _, _, rfl, rfl, _, rfl, ?_⟩
  refine ite2 (fun _ => ?_) (fun _ => ?_)
  · refine ⟨_, rfl, B, 7, rfl, by decide, by decide, hB1, fun d H2 d0 d1 hB2 kb2 => ?_⟩
    exact ⟨_, _, rfl, rfl, q _ _ (by omega) hB2 (kb1.trans kb2)⟩
  refine ⟨_, rfl, rfl, _, rfl, ?_⟩
  refine ite2 (fun _ => ?_) (fun _ => ?_)
  · exact q _ _ (by decide) hB1 kb1
  refine ⟨_, rfl, rfl, _, rfl, ?_⟩
  refine ite2 (fun _ => ?_) (fun _ => ?_)
  · refine ⟨_, rfl, B, 2001, rfl, by decide, by decide, hB1, fun d H2 d0 d1 hB2 kb2 => ?_⟩
    exact ⟨_, _, rfl, rfl, q _ _ (by omega) hB2 (kb1.trans kb2)⟩
  refine ⟨_, rfl, B, 1999999, rfl, by decide, by decide, hB1, fun d H2 d0 d1 hB2 kb2 => ?_⟩
  have e18 : (10 : Int) ^ (18 : Int).toNat = 1000000000000000000 := by decide
  refine ⟨_, _, rfl, rfl, 10, 18, rfl, rfl, ⟨by decide, by decide, by decide⟩, _, _, rfl, rfl, ?_, ?_⟩
  · rw [e18]
    exact wide_mul (a := 64) (b := 64) (by omega) (by omega) (by decide) (by decide) (by decide)
  · refine ⟨_, rfl, B, 1000003, rfl, by decide, by decide, hB2, fun e H3 e0 e1 hB3 kb3 => ⟨_, _, rfl, rfl, q _ _ ?_ hB3 ((kb1.trans kb2).trans kb3)⟩⟩
    rw [e18]
    omega
theorem lc_zipLS {K : PySem.W.Frag} {a b D : Addr} {xs ys : List Int} {f : Int → Int → Int} {te : TE} {vs : List Nat} {σ : L2.St} {H0 : Hp} {Qd : Hp → Prop} {i j : Nat} (h1 : SqL K H0 a (xs.map V.int)) (h2 : SqL K H0 b (ys.map V.int)) (hl : xs.length = ys.length) (hz : xs.length ≤ 1000) (hD : H0 D = none)
    (hw : ∀ u v, wipe (((wipe σ vs).set i (some u)).set j (some v)) vs = wipe σ vs)
    (hs : ∀ (u v : Int) (H : Hp) (k : VK), Same H0 H → u ∈ xs → v ∈ ys → k (.int (f u v)) H → te (((wipe σ vs).set i (some (.int u))).set j (some (.int v))) H k)
    (hd : ∀ H, Same H0 H → H D = some (.lst ((List.zipWith f xs ys).map V.int)) → Qd H) : LcGoal (Itz K a b) (gTup K 2 (gCons (gName i) (gCons (gName j) gNil))) te vs σ H0 D Qd := by
  refine lcm (walk_zip (n := xs.length) (by rw [List.length_map, List.length_map]; omega)) ((List.zipWith f xs ys).map V.int) (by rw [List.length_map, List.length_zipWith]; omega) (by omega) hD (fun H' s => ⟨s.seq h1, s.seq h2⟩) ?_ hd
  rintro t y x H1 H2 hi hy s1 ⟨Tp, u, z, rfl, hT, rfl, hu, hz'⟩ k hk
  replace hu : (xs.map V.int)[t]? = some u := hu
  replace hz' : (ys.map V.int)[t]? = some z := hz'
  rw [List.getElem?_map] at hy hu hz'
  obtain ⟨y', hy1, rfl⟩ := Option.map_eq_some_iff.mp hy
  obtain ⟨u', hu1, rfl⟩ := Option.map_eq_some_iff.mp hu
  obtain ⟨z', hz1, rfl⟩ := Option.map_eq_some_iff.mp hz'
  rw [List.getElem?_zipWith, hu1, hz1] at hy1
  obtain rfl : f u' z' = y' := Option.some.inj hy1
  refine ⟨Tp, [.int u', .int z'], rfl, SqT.of upd_same, rfl, .int u', [.int z'], rfl, .int z', [], rfl, rfl, hw _ _, ?_⟩
  exact hs u' z' _ k (s1.trans (Same.new hT)) (List.mem_of_getElem? hu1) (List.mem_of_getElem? hz1) (hk _ (Same.new hT))
/-- the rows, each as often as told, summed -/
def sumV (wd : Nat) (M : List (List Int)) (ns : List Int) : List Int := (M.zip ns).foldl (fun acc p => List.zipWith (fun x y => x + p.2 * y) acc p.1) (List.replicate wd 0)
theorem same_none {H H' : Hp} {t : Addr} (s : Same H H') (h : H' t = none) : H t = none := by
  cases e : H t with
  | none => rfl
  | some o =>
    have := s _ _ e
    rw [h] at this
    cases this
theorem flat_rep (n : Nat) : (List.replicate n [V.int 0]).flatten = (List.replicate n (0 : Int)).map V.int := by
  induction n with
  | zero => rfl
  | succ n ih =>
    rw [List.replicate_succ, List.replicate_succ, List.flatten_cons, ih]
    rfl
def spSummed (K : PySem.W.Frag) : Sp := fun vs H Q _ => ∃ (wd : Nat) (p a : Addr) (M : List (List Int)) (rs : List V) (ns : List Int), vs = [.int (wd : Int), .ref p, .ref a] ∧ SqL K H p rs ∧ MatQ K H rs M ∧ SqL K H a (ns.map V.int) ∧ M.length = ns.length ∧ M.length ≤ 100 ∧ wd ≤ 100 ∧ (∀ r ∈ M, r.length = wd) ∧ (∀ r ∈ M, EB (2 ^ 200) r) ∧ (∀ n ∈ ns, n.natAbs ≤ 1000) ∧
  ∀ t H', Same H H' → H t = none → H' t = some (.lst ((sumV wd M ns).map V.int)) → Q (.ref t) H'
theorem ok_summed (T : Tx K mg) : FnOk P w K mg base CX0 1 T.f_l_summed T.d_l_summed ["_law_width", "_law_rows", "_law_counts"] (spSummed K) := by
  refine T.F_l_summed.ok sc_l_summed (fun vs H Q E h => ?_) (fun cdv A outer s H vs Q E hr h => ?_)
  · obtain ⟨wd, p, a, M, rs, ns, rfl, _⟩ := h
    rfl
  obtain ⟨wd, p, a, M, rs, ns, rfl, hp, hM, ha, hl, hl1, hwd, hw, hb, hn, q⟩ := h
  have nd := sc_l_summed.nd
  refine ⟨_, (pss_cons (ps_set (i := 3) nd rfl (Or.inl rfl) (pe_op op_rep (pe_lst (pa_cons pe_int pa_nil)) (pv 0)))
    (pss_cons (ps_for PassesOwn.never rfl (show PI _ _ _ (RZ.iZipA K _) from RZ.pi_zipA (by rfl) T.z_zip (pa_cons (pv 1) (pa_cons (pv 2) pa_nil))) (pg_tup rfl (pgs_cons (pg_name (i := 4) nd rfl (Or.inl rfl)) (pgs_cons (pg_name (i := 5) nd rfl (Or.inr rfl)) pgs_nil))) (pss_one (ps_setLc (i := 3) (own := [("_law_x", 6), ("_law_y", 7)]) (g := (gTup K 2 (gCons (gName 6) (gCons (gName 7) gNil)))) rfl nd rfl rfl (sw_true rfl rfl rfl (by decide +kernel)) (show PI _ _ _ (RZ.iZipA K _) from RZ.pi_zipA (by rfl) T.z_zip (pa_cons (pv 3) (pa_cons (pv 4) pa_nil))) (blkOk_by (own := [("_law_x", 6), ("_law_y", 7)]) (N := N_l_summed) (sc := defScope s_l_summed) (by decide +kernel)) (fun _ _ _ _ _ => by exact (pg_tup rfl (pgs_cons (pg_name (i := 6) nd rfl (Or.inl rfl)) (pgs_cons (pg_name (i := 7) nd rfl (Or.inl rfl)) pgs_nil)))) (fun _ _ _ _ _ => by exact pts_nil) (fun _ _ _ _ _ => by exact (pe_op op_add (pv 6) (pe_op op_mulW (pv 5) (pv 7)))))))
    (pss_one (ps_ret (pv 3))))), ?_⟩
  have hst : L2.start N_l_summed [.int (wd : Int), .ref p, .ref a] = [some (.int (wd : Int)), some (.ref p), some (.ref a), none, none, none, none, none] := rfl
  rw [hst]
  refine ⟨by show 1 ≤ sizeLine; decide, fun L hL => ?_⟩
  have s0 := Same.new (o := .lst [V.int 0]) hL
  refine ⟨_, rfl, L, _, [V.int 0], rfl, rfl, upd_same, by omega, by omega, ?_, fun F hF => ?_⟩
  · show 1 * ((wd : Nat) : Int).toNat ≤ sizeLine
    rw [Int.toNat_natCast]
    exact Nat.le_of_lt (Nat.lt_of_le_of_lt (by omega : 1 * wd ≤ 1000) (by decide))
  have hFn := same_none s0 hF
  have s1 := s0.trans (Same.new (o := .lst (List.replicate ((wd : Nat) : Int).toNat [V.int 0]).flatten) hF)
  have hF1 : (upd (upd H L (.lst [V.int 0])) F (.lst (List.replicate ((wd : Nat) : Int).toNat [V.int 0]).flatten)) F = some (.lst ((List.replicate wd (0 : Int)).map V.int)) := by
    rw [upd_same, Int.toNat_natCast, flat_rep]
  generalize upd (upd H L (.lst [V.int 0])) F (.lst (List.replicate ((wd : Nat) : Int).toNat [V.int 0]).flatten) = H1 at *
  dsimp only [List.set_cons_succ, List.set_cons_zero]
  have hrl := hM.1
  have hzl : (M.zip ns).length = M.length := by rw [List.length_zip]; omega
  refine ⟨_, rfl, _, rfl, p, a, _, _, rfl, .inl ⟨s1.seq hp, s1.seq ha, for_it (walk_zip (K := K) (a := p) (b := a) (xs := rs) (ys := ns.map V.int) (n := rs.length) (by rw [List.length_map]; omega)) (fun i σ' H' => ∃ fa acc, (∃ b4 b5 b6 b7, σ' = [some (.int (wd : Int)), some (.ref p), some (.ref a), some (.ref fa), b4, b5, b6, b7]) ∧ Same H H' ∧ H fa = none ∧ H' fa = some (.lst (acc.map V.int)) ∧ acc.length = wd ∧ sumV wd M ns = ((M.zip ns).drop i).foldl (fun acc p => List.zipWith (fun x y => x + p.2 * y) acc p.1) acc) ⟨F, _, ⟨_, _, _, _, rfl⟩, s1, hFn, hF1, List.length_replicate, rfl⟩ (fun _ _ _ _ h => by obtain ⟨_, _, _, s, _⟩ := h; exact ⟨s.seq hp, s.seq ha⟩) ?_ ?_⟩⟩
  · rintro i x σ' H2 H3 hi ⟨fa, acc, ⟨b4, b5, b6, b7, rfl⟩, s2, hfn, hfa, hal, hsum⟩ ⟨Tp, u, z, rfl, hT, rfl, hu, hz⟩
    have hu' : rs[i]? = some u := hu
    have hz' : (ns.map V.int)[i]? = some z := hz
    rw [List.getElem?_map] at hz'
    obtain ⟨n, hn1, rfl⟩ := Option.map_eq_some_iff.mp hz'
    obtain ⟨tr, row, rfl, hrow, hrT⟩ := hM.2 i u hu'
    have hmem := List.mem_of_getElem? hrow
    have hrw := hw row hmem
    have hnb := hn n (List.mem_of_getElem? hn1)
    have s3 := Same.new (o := .tup [V.ref tr, V.int n]) hT
    have hiz : i < (M.zip ns).length := by omega
    have hdr : (M.zip ns).drop i = (row, n) :: (M.zip ns).drop (i + 1) := by
      rw [List.drop_eq_getElem_cons hiz]
      congr 1
      have e := List.getElem?_eq_getElem hiz
      rw [(List.getElem?_zip_eq_some (z := (row, n))).mpr ⟨hrow, hn1⟩] at e
      exact (Option.some.inj e).symm
    refine ⟨Tp, _, rfl, SqT.of upd_same, rfl, _, _, rfl, _, _, rfl, rfl, ?_⟩
    dsimp only [List.set_cons_succ, List.set_cons_zero]
    have s23 := s2.trans s3
    have hfa3 := s3 _ _ hfa
    refine ⟨_, rfl, _, rfl, fa, tr, _, _, rfl, .inl ⟨SqL.of hfa3, s23.seq hrT, fun D hD => ?_⟩⟩
    refine lc_zipLS (f := fun x y => x + n * y) (SqL.of hfa3) (s23.seq hrT) (by omega) (by omega) hD (fun u v => rfl) (fun u v H5 kk s5 hu hv hkk => ?_) fun H5 s5 hD5 => ?_
    · exact ⟨_, rfl, _, rfl, _, rfl, _, _, rfl, rfl, wide_mul (a := 10) (b := 201) (by omega) (eb_lt (hb row hmem) v hv) (by decide) (by decide) (by decide), _, _, rfl, rfl, hkk⟩
    · refine ⟨D, _, ⟨_, _, _, _, rfl⟩, s23.trans s5, same_none s23 hD, hD5, by rw [List.length_zipWith]; omega, ?_⟩
      rw [hsum, hdr]
      rfl
  · rintro σ' H2 ⟨fa, acc, ⟨b4, b5, b6, b7, rfl⟩, s2, hfn, hfa, hal, hsum⟩
    rw [show rs.length = (M.zip ns).length by omega, List.drop_length] at hsum
    have hs : sumV wd M ns = acc := hsum
    exact ⟨_, rfl, q fa _ s2 hfn (by rw [hs]; exact hfa)⟩
end
end TL
namespace TL
open PySem L2

/-! ### steps of a reading -/
local macro_rules | `(tactic| walk_at "hp") => `(tactic| first | assumption | exact upd_same | (refine (upd_ne (by first | assumption | (exact Ne.symm (by assumption)))).trans ?_; walk_at "hp"))
local macro_rules | `(tactic| walk_at "ok") => `(tactic| first | (exact Or.inr ⟨by decide, by decide⟩) | (exact ⟨by decide, by decide⟩) | (exact ⟨by decide, by decide, by decide⟩) | (show _ ≠ _; omega) | (show _ ≠ _; decide) | (exact Or.inl ⟨by omega, by omega⟩) | decide)
local macro_rules | `(tactic| walk_at "sq") => `(tactic| first | assumption | exact SqL.of (by walk_at "hp") | exact SqT.of (by walk_at "hp"))
local macro_rules | `(tactic| walk_at "ty") => `(tactic| first | refine ⟨_, _, Value.type "int", Value.type "list", false, rfl, ClsV.ty _, TyX.base (TyOf.int _), kt_int_list, ?_⟩ | refine ⟨_, _, Value.type "bool", Value.type "list", false, rfl, ClsV.ty _, TyX.base (TyOf.bl _), kt_bool_list, ?_⟩ | refine ⟨_, _, Value.type "str", Value.type "list", false, rfl, ClsV.ty _, TyX.base (TyOf.str _), kt_str_list, ?_⟩ | refine ⟨_, _, Value.type "NoneType", Value.type "list", false, rfl, ClsV.ty _, TyX.base TyOf.non, kt_NoneType_list, ?_⟩ | refine ⟨_, _, Value.type "list", Value.type "list", true, rfl, ClsV.ty _, tyx_L (by walk_at "sq"), kt_list_list, ?_⟩ | refine ⟨_, _, Value.type "tuple", Value.type "list", false, rfl, ClsV.ty _, tyx_T (by walk_at "sq"), kt_tuple_list, ?_⟩ | refine ⟨_, _, Value.type "int", Value.type "tuple", false, rfl, ClsV.ty _, TyX.base (TyOf.int _), kt_int_tuple, ?_⟩ | refine ⟨_, _, Value.type "bool", Value.type "tuple", false, rfl, ClsV.ty _, TyX.base (TyOf.bl _), kt_bool_tuple, ?_⟩ | refine ⟨_, _, Value.type "str", Value.type "tuple", false, rfl, ClsV.ty _, TyX.base (TyOf.str _), kt_str_tuple, ?_⟩ | refine ⟨_, _, Value.type "NoneType", Value.type "tuple", false, rfl, ClsV.ty _, TyX.base TyOf.non, kt_NoneType_tuple, ?_⟩ | refine ⟨_, _, Value.type "list", Value.type "tuple", false, rfl, ClsV.ty _, tyx_L (by walk_at "sq"), kt_list_tuple, ?_⟩ | refine ⟨_, _, Value.type "tuple", Value.type "tuple", true, rfl, ClsV.ty _, tyx_T (by walk_at "sq"), kt_tuple_tuple, ?_⟩ | refine ⟨_, _, Value.type "int", Value.type "bool", false, rfl, ClsV.ty _, TyX.base (TyOf.int _), kt_int_bool, ?_⟩ | refine ⟨_, _, Value.type "bool", Value.type "bool", true, rfl, ClsV.ty _, TyX.base (TyOf.bl _), kt_bool_bool, ?_⟩ | refine ⟨_, _, Value.type "str", Value.type "bool", false, rfl, ClsV.ty _, TyX.base (TyOf.str _), kt_str_bool, ?_⟩ | refine ⟨_, _, Value.type "NoneType", Value.type "bool", false, rfl, ClsV.ty _, TyX.base TyOf.non, kt_NoneType_bool, ?_⟩ | refine ⟨_, _, Value.type "list", Value.type "bool", false, rfl, ClsV.ty _, tyx_L (by walk_at "sq"), kt_list_bool, ?_⟩ | refine ⟨_, _, Value.type "tuple", Value.type "bool", false, rfl, ClsV.ty _, tyx_T (by walk_at "sq"), kt_tuple_bool, ?_⟩ | refine ⟨_, _, Value.type "int", Value.type "int", true, rfl, ClsV.ty _, TyX.base (TyOf.int _), kt_int_int, ?_⟩ | refine ⟨_, _, Value.type "bool", Value.type "int", true, rfl, ClsV.ty _, TyX.base (TyOf.bl _), kt_bool_int, ?_⟩ | refine ⟨_, _, Value.type "str", Value.type "int", false, rfl, ClsV.ty _, TyX.base (TyOf.str _), kt_str_int, ?_⟩ | refine ⟨_, _, Value.type "NoneType", Value.type "int", false, rfl, ClsV.ty _, TyX.base TyOf.non, kt_NoneType_int, ?_⟩ | refine ⟨_, _, Value.type "list", Value.type "int", false, rfl, ClsV.ty _, tyx_L (by walk_at "sq"), kt_list_int, ?_⟩ | refine ⟨_, _, Value.type "tuple", Value.type "int", false, rfl, ClsV.ty _, tyx_T (by walk_at "sq"), kt_tuple_int, ?_⟩ | refine ⟨_, _, Value.type "int", Value.type "str", false, rfl, ClsV.ty _, TyX.base (TyOf.int _), kt_int_str, ?_⟩ | refine ⟨_, _, Value.type "bool", Value.type "str", false, rfl, ClsV.ty _, TyX.base (TyOf.bl _), kt_bool_str, ?_⟩ | refine ⟨_, _, Value.type "str", Value.type "str", true, rfl, ClsV.ty _, TyX.base (TyOf.str _), kt_str_str, ?_⟩ | refine ⟨_, _, Value.type "NoneType", Value.type "str", false, rfl, ClsV.ty _, TyX.base TyOf.non, kt_NoneType_str, ?_⟩ | refine ⟨_, _, Value.type "list", Value.type "str", false, rfl, ClsV.ty _, tyx_L (by walk_at "sq"), kt_list_str, ?_⟩ | refine ⟨_, _, Value.type "tuple", Value.type "str", false, rfl, ClsV.ty _, tyx_T (by walk_at "sq"), kt_tuple_str, ?_⟩)
local macro_rules | `(tactic| walk_at "go1") => `(tactic| first
  | (refine ⟨_, rfl, ?_⟩)
  | (refine ⟨_, _, rfl, rfl, ?_⟩)
  | (refine ⟨_, _, _, _, rfl, rfl, SqL.of (by walk_at "hp"), rfl, ?_⟩)
  | (refine Or.inl ⟨_, rfl, ?_⟩)
  | (refine ⟨rfl, ?_⟩)
  | (refine ⟨_, _, rfl, .inl (SqL.of (by walk_at "hp")), ?_⟩)
  | (refine ⟨_, _, rfl, Or.inl (by assumption), ?_⟩)
  | (refine ⟨_, _, rfl, Or.inr (by assumption), ?_⟩)
  | (refine ⟨(by walk_at "ok"), ?_⟩)
  | (refine ⟨_, _, _, _, rfl, rfl, (by walk_at "hp"), rfl, ?_⟩))
local macro_rules | `(tactic| walk_at "go") => `(tactic| repeat (walk_at "go1"))
local macro_rules | `(tactic| walk_at "gt") => `(tactic| repeat (first | walk_at "go1" | walk_at "ty"))

section
variable {P : Program} {w : World} {K : PySem.W.Frag} {mg : Str → Option Value} {base : Heap}
-- [0=_law_bag, 1=_law_count, 2=_law_rest, 3=_law_found, 4=_law_turn]
def spOrder (K : PySem.W.Frag) : Sp := fun vs H Q _ => ∃ (B : Bg) (n : Nat), vs = [.ref B.b, .int (n : Int)] ∧ n ≤ 100 ∧ Bag B H ∧ ∀ t ys H', Bag B H' → Kb B.b H H' → H t = none → H' t = some (.lst ys) → ys.Perm ((List.range n).map fun i : Nat => V.int (i : Int)) → Q (.ref t) H'
theorem ok_order (T : Tx K mg) : FnOk P w K mg base CX0 2 T.f_l_order T.d_l_order ["_law_bag", "_law_count"] (spOrder K) := by
  have G_l_pull := ok_pull (P := P) (w := w) (base := base) T
  refine T.F_l_order.ok sc_l_order (fun vs H Q E h => ?_) (fun cdv A outer s H vs Q E hr h => ?_)
  · obtain ⟨B, n, rfl, _⟩ := h
    rfl
  obtain ⟨B, n, rfl, hz, hB, q⟩ := h
  have nd := sc_l_order.nd
  refine ⟨_, (pss_cons (ps_par (i := 2) (j := 3) rfl nd rfl rfl (by decide) rfl rfl (pa_cons (pe_listRg rfl (by rfl) T.z_list (prg_1 (by rfl) T.z_range (pv 1))) (pa_cons (pe_lst pa_nil) pa_nil)) rfl)
    (pss_cons (ps_for PassesOwn.never rfl (pi_range1 (by rfl) T.z_range (pa_cons (pv 1) pa_nil)) (pg_name (i := 4) nd rfl (Or.inl rfl)) (pss_one (ps_expr (pe_bm PySem.F.plainAttrs_list PySem.F.slot_list_append PySem.F.type_list_append mt_append (pv 3) (pa_cons (pe_bm PySem.F.plainAttrs_list PySem.F.slot_list_pop PySem.F.type_list_pop mt_popAt (pv 2) (pa_cons (pe_call G_l_pull hr (by rfl) T.m_l_pull T.F_l_pull.kp T.b_l_pull .nil pass0 (pa_cons (pv 0) (pa_cons (pe_callB (show CallR _ _ (rLenSq K) from call_len_seq) (by rfl) T.z_len (by decide +kernel) (pa_cons (pv 2) pa_nil)) pa_nil))) pa_nil)) pa_nil)))))
    (pss_one (ps_ret (pv 3))))), ?_⟩
  generalize hxs : ((List.range n).map fun i : Nat => V.int (i : Int)) = xs at *
  have hxl : xs.length = n := by rw [← hxs, List.length_map, List.length_range]
  have er : rgV 0 (n : Int) = xs := by
    rw [← hxs]
    unfold rgV
    rw [Int.sub_zero, Int.toNat_natCast]
    refine List.map_congr_left fun i _ => ?_
    rw [Int.zero_add]
  refine ⟨_, rfl, (n : Int), rfl, ?_, fun R hR => ?_⟩
  · exact RgOk.of_le (by omega) (by omega) (by omega) (by omega)
  rw [er]
  have s1 := Same.new (o := .lst xs) hR
  refine ⟨by show 0 ≤ sizeLine; decide, fun F hF => ?_⟩
  have s2 := Same.new (o := .lst []) hF
  have s12 := s1.trans s2
  have hRF : R ≠ F := ne_of_none upd_same hF
  have hF0 : H F = none := s1.free hF
  have nR := hB.nb hR
  have nRL := hB.nL hR
  have nF := hB.nb hF0
  have nFL := hB.nL hF0
  have hR2 : (upd (upd H R (.lst xs)) F (.lst [])) R = some (.lst xs) := s2 _ _ upd_same
  have hF2 : (upd (upd H R (.lst xs)) F (.lst [])) F = some (.lst []) := upd_same
  have hB2 := hB.same s12
  refine ⟨_, _, rfl, ?_⟩
  generalize upd (upd H R (.lst xs)) F (.lst []) = H2 at *
  have hz' : xs.length ≤ 100 := by omega
  refine ⟨_, rfl, (xs.length : Int), by rw [hxl], by omega, by omega, for_range (lo := 0) (n := ((xs.length : Nat) : Int).toNat) (fun i σ H' => (∃ b4, σ = [some (.ref B.b), some (.int (n : Int)), some (.ref R), some (.ref F), b4]) ∧ Bag B H' ∧ Kb B.b H H' ∧ ∃ rs fs, H' R = some (.lst rs) ∧ H' F = some (.lst fs) ∧ (fs ++ rs).Perm xs ∧ fs.length = i) ⟨⟨_, rfl⟩, hB2, Kb.same s12, xs, [], hR2, hF2, List.Perm.refl _, rfl⟩ ?_ ?_⟩
  · rintro i σ H3 hi ⟨⟨b4, rfl⟩, hB3, kb3, rs, fs, hR3, hF3, hp, hfl⟩
    have hlen := hp.length_eq
    rw [List.length_append] at hlen
    have hi' : i < xs.length := by omega
    have hrs : 0 < rs.length := by omega
    refine ⟨_, rfl, .inl ⟨rfl, _, SqL.of hF3⟩, ?_⟩
    refine ⟨_, rfl, .inl ⟨rfl, _, SqL.of hR3⟩, _, rfl, _, rfl, R, rs, rfl, .inl (SqL.of hR3), B, _, rfl, by omega, Nat.lt_of_le_of_lt (by omega : ((rs.length : Int)).natAbs ≤ 1000) (by decide), hB3, fun d H4 d0 d1 hB4 kb4 => ?_⟩
    have hR4 := kb4 _ _ hR3 nR
    have hF4 := kb4 _ _ hF3 nF
    have hd : d.toNat < rs.length := by omega
    obtain ⟨y, hy⟩ : ∃ y, rs[d.toNat]? = some y := ⟨_, List.getElem?_eq_getElem hd⟩
    have hlenp : (upd H4 R (.lst (rs.eraseIdx d.toNat))) F = some (.lst fs) := by rw [upd_ne hRF.symm]; exact hF4
    refine ⟨R, rs, d, d.toNat, y, rfl, rfl, hR4, by omega, by omega, seqIndex_of d0 (by omega), hy, ?_⟩
    refine ⟨F, fs, y, rfl, rfl, hlenp, Nat.lt_of_le_of_lt (by omega : fs.length ≤ 1000) (by decide), ?_⟩
    refine ⟨⟨_, rfl⟩, (hB4.upd nR nRL).upd nF nFL, fun c o h n' => ?_, rs.eraseIdx d.toNat, fs ++ [y], by rw [upd_ne hRF]; exact upd_same, upd_same, ?_, by rw [List.length_append, hfl]; rfl⟩
    · rw [upd_ne (ne_of_none h hF0), upd_ne (ne_of_none h hR)]
      exact kb4 _ _ (kb3 _ _ h n') n'
    · have e1 : rs = rs.take d.toNat ++ y :: rs.drop (d.toNat + 1) := by
        have h1 := List.drop_eq_getElem_cons hd
        rw [List.getElem?_eq_getElem hd] at hy
        rw [Option.some.inj hy] at h1
        rw [← h1, List.take_append_drop]
      have e2 : (y :: rs.eraseIdx d.toNat).Perm rs := by
        rw [List.eraseIdx_eq_take_drop_succ]
        conv => rhs; rw [e1]
        exact List.perm_middle.symm
      have e3 : (fs ++ [y] ++ rs.eraseIdx d.toNat).Perm (fs ++ rs) := by
        rw [List.append_assoc]
        exact List.Perm.append_left fs e2
      exact e3.trans hp
  · rintro σ H3 ⟨⟨b4, rfl⟩, hB3, kb3, rs, fs, hR3, hF3, hp, hfl⟩
    have hlen := hp.length_eq
    rw [List.length_append] at hlen
    have hr0 : rs = [] := List.eq_nil_of_length_eq_zero (by omega)
    rw [hr0, List.append_nil] at hp
    exact ⟨_, rfl, q F fs H3 hB3 kb3 hF0 hF3 hp⟩
end
end TL
namespace TL
open PySem L2
section
variable {J : It} {n : Nat} {G : Hp → Prop} {D : Addr} {g : TG} {tt : TT} {te : TE} {vs : List Nat} {σ : L2.St} {H0 : Hp} {Qd : Hp → Prop}
/-- what is to be shown of a comprehension with a test -/
def LcGoalT (J : It) (g : TG) (tt : TT) (te : TE) (vs : List Nat) (σ : L2.St) (H0 : Hp) (D : Addr) (Qd : Hp → Prop) : Prop :=
  ∃ W : Nat → Nat → Hp → Prop, (∃ m, W 0 m (upd H0 D (.lst []))) ∧ ∀ i m H, W i m H →
      (J.stop i H ∧ Qd H) ∨ (J.go i H ∧ ∃ Nx : Hp → Prop, (∀ H', Nx H' → ∃ m', m' < m ∧ W (i + 1) m' H') ∧ ∀ x H', J.yld i H x H' → g x (wipe σ vs) H' fun σ2 H2 => wipe σ2 vs = wipe σ vs ∧ tt σ2 H2 fun b H3 =>
        if b = true then te σ2 H3 fun y H4 => ∃ acc, H4 D = some (.lst acc) ∧ acc.length < sizeLine ∧ Nx (upd H4 D (.lst (acc ++ [y]))) else Nx H3)
/-- the items that pass a test, whatever is made of them -/
theorem lcf {xs : List V} (w : Walk J xs.length G (YAt xs)) (p : V → Bool) (f : V → V) (hz : xs.length ≤ 100000) (hD : H0 D = none) (hG : ∀ H, Same H0 H → G H)
    (hs : ∀ (i : Nat) x H, xs[i]? = some x → Same H0 H → ∀ k1 : Hp → Prop, ∀ k2 : VK, (p x = false → ∀ H4, Same H H4 → k1 H4) → (p x = true → ∀ H4, Same H H4 → k2 (f x) H4) → g x (wipe σ vs) H fun σ2 H2 => wipe σ2 vs = wipe σ vs ∧ tt σ2 H2 fun b H3 => if b = true then te σ2 H3 k2 else k1 H3)
    (hd : ∀ H, Same H0 H → H D = some (.lst ((xs.filter p).map f)) → Qd H) : LcGoalT J g tt te vs σ H0 D Qd := by
  refine lc_it w (fun i H => Same H0 H ∧ H D = some (.lst (((xs.take i).filter p).map f))) ⟨Same.new hD, upd_same⟩ (fun i H _ h => hG H h.1) (fun i x H H' hi h hy => ?_) (fun H h => ?_)
  · obtain ⟨rfl, hx⟩ := hy
    have et : (xs.take (i + 1)).filter p = (xs.take i).filter p ++ [x].filter p := by
      rw [List.take_succ, hx, List.filter_append]
      rfl
    refine hs i x H' hx h.1 _ _ (fun e H4 s4 => ⟨h.1.trans s4, ?_⟩) (fun e H4 s4 => ⟨((xs.take i).filter p).map f, s4 _ _ h.2, ?_, fun c u q => ?_, ?_⟩)
    · rw [s4 _ _ h.2, et, List.filter_cons, e]
      simp
    · rw [List.length_map]
      refine Nat.lt_of_le_of_lt (Nat.le_trans (List.length_filter_le ..) (Nat.le_trans (List.length_take_le' ..) hz)) (by decide)
    · rw [upd_ne (ne_of_none q hD)]
      exact s4 _ _ (h.1 _ _ q)
    · rw [upd_same, et, List.filter_cons, e]
      simp
  · refine hd H h.1 ?_
    rw [h.2, List.take_length]
end
/-- a range's numbers -/
theorem walk_rangeY {k n : Nat} : Walk (Itr (k : Int) n) ((List.range' k n).map fun i : Nat => V.int (i : Int)).length (fun _ => True) (YAt ((List.range' k n).map fun i : Nat => V.int (i : Int))) := by
  rw [List.length_map, List.length_range']
  refine walk_range.mono (fun _ h => h) fun i H x H' hi _ y => ?_
  obtain ⟨rfl, rfl⟩ := y
  refine ⟨rfl, ?_⟩
  rw [List.getElem?_map, List.getElem?_range' hi]
  show some (V.int ((k + 1 * i : Nat) : Int)) = some (V.int ((k : Int) + (i : Int)))
  rw [show ((k + 1 * i : Nat) : Int) = (k : Int) + (i : Int) by omega]
end TL
namespace TL
open PySem L2

/-! ### steps of a reading -/
local macro_rules | `(tactic| walk_at "hp") => `(tactic| first | assumption | exact upd_same | (refine (upd_ne (by first | assumption | (exact Ne.symm (by assumption)))).trans ?_; walk_at "hp"))
local macro_rules | `(tactic| walk_at "ok") => `(tactic| first | (exact Or.inr ⟨by decide, by decide⟩) | (exact ⟨by decide, by decide⟩) | (exact ⟨by decide, by decide, by decide⟩) | (show _ ≠ _; omega) | (show _ ≠ _; decide) | (exact Or.inl ⟨by omega, by omega⟩) | decide)
local macro_rules | `(tactic| walk_at "sq") => `(tactic| first | assumption | exact SqL.of (by walk_at "hp") | exact SqT.of (by walk_at "hp"))
local macro_rules | `(tactic| walk_at "ty") => `(tactic| first | refine ⟨_, _, Value.type "int", Value.type "list", false, rfl, ClsV.ty _, TyX.base (TyOf.int _), kt_int_list, ?_⟩ | refine ⟨_, _, Value.type "bool", Value.type "list", false, rfl, ClsV.ty _, TyX.base (TyOf.bl _), kt_bool_list, ?_⟩ | refine ⟨_, _, Value.type "str", Value.type "list", false, rfl, ClsV.ty _, TyX.base (TyOf.str _), kt_str_list, ?_⟩ | refine ⟨_, _, Value.type "NoneType", Value.type "list", false, rfl, ClsV.ty _, TyX.base TyOf.non, kt_NoneType_list, ?_⟩ | refine ⟨_, _, Value.type "list", Value.type "list", true, rfl, ClsV.ty _, tyx_L (by walk_at "sq"), kt_list_list, ?_⟩ | refine ⟨_, _, Value.type "tuple", Value.type "list", false, rfl, ClsV.ty _, tyx_T (by walk_at "sq"), kt_tuple_list, ?_⟩ | refine ⟨_, _, Value.type "int", Value.type "tuple", false, rfl, ClsV.ty _, TyX.base (TyOf.int _), kt_int_tuple, ?_⟩ | refine ⟨_, _, Value.type "bool", Value.type "tuple", false, rfl, ClsV.ty _, TyX.base (TyOf.bl _), kt_bool_tuple, ?_⟩ | refine ⟨_, _, Value.type "str", Value.type "tuple", false, rfl, ClsV.ty _, TyX.base (TyOf.str _), kt_str_tuple, ?_⟩ | refine ⟨_, _, Value.type "NoneType", Value.type "tuple", false, rfl, ClsV.ty _, TyX.base TyOf.non, kt_NoneType_tuple, ?_⟩ | refine ⟨_, _, Value.type "list", Value.type "tuple", false, rfl, ClsV.ty _, tyx_L (by walk_at "sq"), kt_list_tuple, ?_⟩ | refine ⟨_, _, Value.type "tuple", Value.type "tuple", true, rfl, ClsV.ty _, tyx_T (by walk_at "sq"), kt_tuple_tuple, ?_⟩ | refine ⟨_, _, Value.type "int", Value.type "bool", false, rfl, ClsV.ty _, TyX.base (TyOf.int _), kt_int_bool, ?_⟩ | refine ⟨_, _, Value.type "bool", Value.type "bool", true, rfl, ClsV.ty _, TyX.base (TyOf.bl _), kt_bool_bool, ?_⟩ | refine ⟨_, _, Value.type "str", Value.type "bool", false, rfl, ClsV.ty _, TyX.base (TyOf.str _), kt_str_bool, ?_⟩ | refine ⟨_, _, Value.type "NoneType", Value.type "bool", false, rfl, ClsV.ty _, TyX.base TyOf.non, kt_NoneType_bool, ?_⟩ | refine ⟨_, _, Value.type "list", Value.type "bool", false, rfl, ClsV.ty _, tyx_L (by walk_at "sq"), kt_list_bool, ?_⟩ | refine ⟨_, _, Value.type "tuple", Value.type "bool", false, rfl, ClsV.ty _, tyx_T (by walk_at "sq"), kt_tuple_bool, ?_⟩ | refine ⟨_, _, Value.type "int", Value.type "int", true, rfl, ClsV.ty _, TyX.base (TyOf.int _), kt_int_int, ?_⟩ | refine ⟨_, _, Value.type "bool", Value.type "int", true, rfl, ClsV.ty _, TyX.base (TyOf.bl _), kt_bool_int, ?_⟩ | refine ⟨_, _, Value.type "str", Value.type "int", false, rfl, ClsV.ty _, TyX.base (TyOf.str _), kt_str_int, ?_⟩ | refine ⟨_, _, Value.type "NoneType", Value.type "int", false, rfl, ClsV.ty _, TyX.base TyOf.non, kt_NoneType_int, ?_⟩ | refine ⟨_, _, Value.type "list", Value.type "int", false, rfl, ClsV.ty _, tyx_L (by walk_at "sq"), kt_list_int, ?_⟩ | refine ⟨_, _, Value.type "tuple", Value.type "int", false, rfl, ClsV.ty _, tyx_T (by walk_at "sq"), kt_tuple_int, ?_⟩ | refine ⟨_, _, Value.type "int", Value.type "str", false, rfl, ClsV.ty _, TyX.base (TyOf.int _), kt_int_str, ?_⟩ | refine ⟨_, _, Value.type "bool", Value.type "str", false, rfl, ClsV.ty _, TyX.base (TyOf.bl _), kt_bool_str, ?_⟩ | refine ⟨_, _, Value.type "str", Value.type "str", true, rfl, ClsV.ty _, TyX.base (TyOf.str _), kt_str_str, ?_⟩ | refine ⟨_, _, Value.type "NoneType", Value.type "str", false, rfl, ClsV.ty _, TyX.base TyOf.non, kt_NoneType_str, ?_⟩ | refine ⟨_, _, Value.type "list", Value.type "str", false, rfl, ClsV.ty _, tyx_L (by walk_at "sq"), kt_list_str, ?_⟩ | refine ⟨_, _, Value.type "tuple", Value.type "str", false, rfl, ClsV.ty _, tyx_T (by walk_at "sq"), kt_tuple_str, ?_⟩)
local macro_rules | `(tactic| walk_at "go1") => `(tactic| first
  | (refine ⟨_, rfl, ?_⟩)
  | (refine ⟨_, _, rfl, rfl, ?_⟩)
  | (refine ⟨_, _, _, _, rfl, rfl, SqL.of (by walk_at "hp"), rfl, ?_⟩)
  | (refine Or.inl ⟨_, rfl, ?_⟩)
  | (refine ⟨rfl, ?_⟩)
  | (refine ⟨_, _, rfl, .inl (SqL.of (by walk_at "hp")), ?_⟩)
  | (refine ⟨_, _, rfl, Or.inl (by assumption), ?_⟩)
  | (refine ⟨_, _, rfl, Or.inr (by assumption), ?_⟩)
  | (refine ⟨(by walk_at "ok"), ?_⟩)
  | (refine ⟨_, _, _, _, rfl, rfl, (by walk_at "hp"), rfl, ?_⟩))
local macro_rules | `(tactic| walk_at "go") => `(tactic| repeat (walk_at "go1"))
local macro_rules | `(tactic| walk_at "gt") => `(tactic| repeat (first | walk_at "go1" | walk_at "ty"))

section
variable {P : Program} {w : World} {K : PySem.W.Frag} {mg : Str → Option Value} {base : Heap}
-- [0=_law_stairs_here, 1=_law_line, 2=_law_rest, 3=_law_stair*, 4=_law_place, 5=_law_many*, 6=_law_x, 7=_law_y, 8=_law_at]
theorem filt_lead (v : List Int) {l : Nat} (h0 : v.getD l 0 ≠ 0) : ∀ (m k : Nat), k ≤ l → l < k + m → (∀ i, k ≤ i → i < l → v.getD i 0 = 0) → ∃ tl, (List.range' k m).filter (fun i => v.getD i 0 != 0) = l :: tl
  | 0, k, h1, h2, _ => by omega
  | m + 1, k, h1, h2, hz => by
    rw [List.range'_succ, List.filter_cons]
    by_cases c : k = l
    · subst c
      rw [if_pos (by simpa using h0)]
      exact ⟨_, rfl⟩
    · rw [if_neg (by rw [hz k (Nat.le_refl _) (by omega)]; decide)]
      exact filt_lead v h0 m (k + 1) (by omega) (by omega) (fun i a b => hz i (by omega) b)
def spWithin (K : PySem.W.Frag) : Sp := fun vs H Q _ => ∃ (p a : Addr) (rs : List V) (S : List (List Int)) (v : List Int) (bv bs : Nat), vs = [.ref p, .ref a] ∧ SqL K H p rs ∧ MatQ K H rs S ∧ SqL K H a (v.map V.int) ∧ v.length ≤ 1000 ∧ (∀ r ∈ S, r.length = v.length) ∧ (∀ r ∈ S, ∃ l, leadOf r = some l) ∧ (∀ r ∈ S, EB (2 ^ bs) r) ∧ EB (2 ^ bv) v ∧ bv + (S.length + 1) * (bs + 2) ≤ 100000000 ∧ S.length ≤ 1000 ∧ ∀ H', Same H H' → Q (.bl ((remV S v).all (· == 0))) H'
theorem ok_within (T : Tx K mg) (hP : P.given.tree = none) : FnOk P w K mg base CX0 33 T.f_l_within T.d_l_within ["_law_stairs_here", "_law_line"] (spWithin K) := by
  refine T.F_l_within.ok sc_l_within (fun vs H Q E h => ?_) (fun cdv A outer s H vs Q E hr h => ?_)
  · obtain ⟨p, a, rs, S, v, bv, bs, rfl, _⟩ := h
    rfl
  obtain ⟨p, a, rs, S, v, bv, bs, rfl, hp, hM, ha, hz, hw, hld, hbs, hbv, hsz, hS, q⟩ := h
  have nd := sc_l_within.nd
  refine ⟨_, (pss_cons (ps_set (i := 2) nd rfl (Or.inl rfl) (pe_callTy (show CallR _ _ (rListOf K) from call_list_of) (by rfl) T.z_list (by decide +kernel) (pa_cons (pv 1) pa_nil)))
    (pss_cons (ps_for PassesOwn.never rfl (show PI _ _ _ (iList K _) from pi_list (pv 0)) (pg_name (i := 3) nd rfl (Or.inr rfl)) (pss_cons (ps_set (i := 4) nd rfl (Or.inl rfl) (pe_ix (show IxR _ (rIxL K) from ix_list) (pe_lc (own := [("_law_at", 8)]) (g := (gName 8)) rfl nd (pi_range1 (by rfl) T.z_range (pa_cons (pe_callB (show CallR _ _ (rLenSq K) from call_len_seq) (by rfl) T.z_len (by decide +kernel) (pa_cons (pv 3) pa_nil)) pa_nil)) (blkOk_by (own := [("_law_at", 8)]) (N := N_l_within) (sc := defScope s_l_within) (by decide +kernel)) (fun _ _ _ _ _ => by exact (pg_name (i := 8) nd rfl (Or.inl rfl))) (fun _ _ _ _ _ => by exact (pts_one (pt_cmpR op_ne (pe_ix (show IxR _ (rIxL K) from ix_list) (pv 3) (pv 8) (fun _ _ => rfl)) pe_int (nomark _)))) (fun _ _ _ _ _ => by exact (pv 8))) pe_int (fun _ _ => rfl)))
    (pss_cons (ps_set (i := 5) nd rfl (Or.inr rfl) (pe_op (op_fdivB T.sees hP (roomB hr (by decide)) rfl rfl rfl) (pe_ix (show IxR _ (rIxL K) from ix_list) (pv 2) (pv 4) (fun _ _ => rfl)) (pe_ix (show IxR _ (rIxL K) from ix_list) (pv 3) (pv 4) (fun _ _ => rfl))))
    (pss_one (ps_setLc (i := 2) (own := [("_law_x", 6), ("_law_y", 7)]) (g := (gTup K 2 (gCons (gName 6) (gCons (gName 7) gNil)))) rfl nd rfl rfl (sw_true rfl rfl rfl (by decide +kernel)) (show PI _ _ _ (RZ.iZipA K _) from RZ.pi_zipA (by rfl) T.z_zip (pa_cons (pv 2) (pa_cons (pv 3) pa_nil))) (blkOk_by (own := [("_law_x", 6), ("_law_y", 7)]) (N := N_l_within) (sc := defScope s_l_within) (by decide +kernel)) (fun _ _ _ _ _ => by exact (pg_tup rfl (pgs_cons (pg_name (i := 6) nd rfl (Or.inl rfl)) (pgs_cons (pg_name (i := 7) nd rfl (Or.inl rfl)) pgs_nil)))) (fun _ _ _ _ _ => by exact pts_nil) (fun _ _ _ _ _ => by exact (pe_op op_sub (pv 6) (pe_op op_mulX (pv 5) (pv 7)))))))))
    (pss_one (ps_ret (pe_callB (show CallR _ _ (rAll K) from cr_all rfl) (by rfl) T.z_all (by decide +kernel) (pa_cons (pe_lc (own := [("_law_x", 6)]) (g := (gName 6)) rfl nd (show PI _ _ _ (iList K _) from pi_list (pv 2)) (blkOk_by (own := [("_law_x", 6)]) (N := N_l_within) (sc := defScope s_l_within) (by decide +kernel)) (fun _ _ _ _ _ => by exact (pg_name (i := 6) nd rfl (Or.inl rfl))) (fun _ _ _ _ _ => by exact pts_nil) (fun _ _ _ _ _ => by exact (pe_cmpR op_eq (pv 6) pe_int (nomark _)))) pa_nil)))))), ?_⟩
  have hst : L2.start N_l_within [.ref p, .ref a] = [some (.ref p), some (.ref a), none, none, none, none, none, none, none] := rfl
  rw [hst]
  refine ⟨_, rfl, a, _, rfl, .inl ha, fun R hR => ?_⟩
  have s0 := Same.new (o := .lst (v.map V.int)) hR
  have hR0 : (upd H R (.lst (v.map V.int))) R = some (.lst (v.map V.int)) := upd_same
  generalize upd H R (.lst (v.map V.int)) = H0 at *
  dsimp only [List.set_cons_succ, List.set_cons_zero]
  refine ⟨_, rfl, p, rfl, ⟨_, s0.seq hp⟩, for_it (walk_list (K := K) (a := p) (xs := rs)) (fun i σ' H' => ∃ va vi, (∃ b3 b4 b5 b6 b7 b8, σ' = [some (.ref p), some (.ref a), some (.ref va), b3, b4, b5, b6, b7, b8]) ∧ Same H H' ∧ H' va = some (.lst (vi.map V.int)) ∧ vi.length = v.length ∧ EB (2 ^ (bv + i * (bs + 2))) vi ∧ remV S v = remV (S.drop i) vi) ⟨R, v, ⟨_, _, _, _, _, _, rfl⟩, s0, hR0, rfl, by rw [Nat.zero_mul]; exact hbv, rfl⟩ (fun _ _ _ _ h => by obtain ⟨_, _, _, s, _⟩ := h; exact s.seq hp) ?_ ?_⟩
  · rintro i x σ' H1 H2 hi ⟨va, vi, ⟨b3, b4, b5, b6, b7, b8, rfl⟩, s1, hva, hvl, hve, hrem⟩ ⟨rfl, hx⟩
    obtain ⟨tr, row, rfl, hrow, hrT⟩ := hM.2 i x hx
    have hmem := List.mem_of_getElem? hrow
    have hrw := hw row hmem
    obtain ⟨l, hl⟩ := hld row hmem
    obtain ⟨l1, l2, l3⟩ := lead_some hl
    have hiS : i < S.length := by rw [← hM.1]; exact hi
    have vz : row.getD l 0 ≠ 0 := l2
    have hrb := hbs row hmem
    have hnq := fdiv_abs (a := vi.getD l 0) vz
    have hvl0 : (vi.getD l 0).natAbs ≤ 2 ^ (bv + i * (bs + 2)) := hve.at l
    have hdr : S.drop i = row :: S.drop (i + 1) := by
      rw [List.drop_eq_getElem_cons hiS]
      congr 1
      rw [List.getElem?_eq_getElem hiS] at hrow
      exact Option.some.inj hrow
    have hdl : (leadOf row).getD 0 = l := by rw [hl]; rfl
    have hmul : (i + 1) * (bs + 2) ≤ (S.length + 1) * (bs + 2) := Nat.mul_le_mul_right _ (by omega)
    have hmul2 : (i + 1) * (bs + 2) = i * (bs + 2) + (bs + 2) := Nat.succ_mul ..
    have hrT2 := s1.seq hrT
    dsimp only [List.set_cons_succ, List.set_cons_zero]
    refine ⟨_, rfl, tr, _, rfl, .inl hrT2, ((row.map V.int).length : Int), rfl, by omega, by rw [List.length_map]; omega, fun D hD => ?_⟩
    rw [List.length_map]
    refine lcf (walk_rangeY (k := 0) (n := row.length)) (fun v => match v with | .int z => row.getD z.toNat 0 != 0 | _ => false) id (by rw [List.length_map, List.length_range']; omega) hD (fun _ _ => trivial) ?_ fun H3 s3 hD3 => ?_
    · intro j x H4 hx s4 k1 k2 g1 g2
      have hj : j < row.length := by
        have := (List.getElem?_eq_some_iff.mp hx).1
        rw [List.length_map, List.length_range'] at this
        exact this
      rw [List.getElem?_map, List.getElem?_range' hj] at hx
      obtain rfl := Option.some.inj hx
      have e1 : 0 + 1 * j = j := by omega
      rw [e1] at g1 g2 ⊢
      dsimp only at g1 g2
      rw [Int.toNat_natCast] at g1 g2
      refine ⟨rfl, ⟨_, rfl, _, rfl, tr, _, _, _, rfl, rfl, s4.seq hrT2, at_of (j := j) rfl (getD_map hj), rfl, _, rfl, ?_⟩⟩
      by_cases z : row.getD j 0 = 0
      · refine iteF' (by rw [z]; rfl) (g1 ?_ _ (Same.refl _))
        rw [z]
        rfl
      · refine iteT' (by rw [decide_eq_false (fun y : V.int (row.getD j 0) = V.int 0 => z (by injection y))]; rfl) ⟨_, rfl, g2 ?_ _ (Same.refl _)⟩
        simpa using z
    · obtain ⟨tl, htl⟩ := filt_lead row vz row.length 0 (Nat.zero_le _) (by omega) (fun i _ h => l1 i h)
      have hfil : (((List.range' 0 row.length).map fun i : Nat => V.int (i : Int)).filter (fun v => match v with | .int z => row.getD z.toNat 0 != 0 | _ => false)) = V.int (l : Int) :: tl.map fun i : Nat => V.int (i : Int) := by
        rw [List.filter_map]
        have e : ((fun v => match v with | V.int z => row.getD z.toNat 0 != 0 | _ => false) ∘ fun i : Nat => V.int (i : Int)) = fun i : Nat => row.getD i 0 != 0 := by
          funext i
          show (row.getD ((i : Int)).toNat 0 != 0) = _
          rw [Int.toNat_natCast]
        rw [e, htl]
        rfl
      rw [List.map_id, hfil] at hD3
      have hva3 := s3 _ _ hva
      have hrT3 := s3.seq hrT2
      refine ⟨D, _, _, _, rfl, rfl, SqL.of hD3, at_of (j := 0) rfl rfl, ?_⟩
      dsimp only [List.set_cons_succ, List.set_cons_zero]
      refine ⟨_, rfl, _, rfl, va, _, _, _, rfl, rfl, SqL.of hva3, at_of (j := l) rfl (getD_map (by omega)), _, rfl, _, rfl, tr, _, _, _, rfl, rfl, hrT3, at_of (j := l) rfl (getD_map (by omega)), _, _, rfl, rfl, vz, ?_⟩
      dsimp only [List.set_cons_succ, List.set_cons_zero]
      have hrl2 := eb_lt hrb
      have hqb : ((vi.getD l 0).fdiv (row.getD l 0)).natAbs < 2 ^ (bv + i * (bs + 2) + 2) := by
        have a2 : (2 : Nat) ^ (bv + i * (bs + 2) + 2) = 2 ^ (bv + i * (bs + 2)) * 4 := by rw [Nat.pow_add]
        have a3 : 0 < 2 ^ (bv + i * (bs + 2)) := Nat.pow_pos (by decide)
        omega
      refine ⟨_, rfl, _, rfl, va, tr, _, _, rfl, .inl ⟨SqL.of hva3, hrT3, fun E hE => ?_⟩⟩
      refine lc_zipLS (f := fun x y => x - (vi.getD l 0).fdiv (row.getD l 0) * y) (SqL.of hva3) hrT3 (by omega) (by omega) hE (fun u v => rfl) (fun u v H5 kk s5 hu hv hkk => ?_) fun H5 s5 hE5 => ?_
      · exact ⟨_, rfl, _, rfl, _, rfl, _, _, rfl, rfl, mulx_ok hqb (hrl2 v hv) (by omega), _, _, rfl, rfl, hkk⟩
      · refine ⟨E, lessL vi ((vi.getD l 0).fdiv (row.getD l 0)) row, ⟨_, _, _, _, _, _, rfl⟩, s1.trans (s3.trans s5), hE5, ?_, ?_, ?_⟩
        · rw [less_len (by omega), hvl]
        · have := eb_less (by omega) hve hrb (by omega : ((vi.getD l 0).fdiv (row.getD l 0)).natAbs ≤ 2 ^ (bv + i * (bs + 2)) + 1)
          rw [hmul2, ← Nat.add_assoc]
          exact this
        · rw [hrem, hdr]
          show remV (S.drop (i + 1)) (lessL vi ((vecL vi ((leadOf row).getD 0)).fdiv (vecL row ((leadOf row).getD 0))) row) = _
          rw [hdl]
          rfl
  · rintro σ' H1 ⟨va, vi, ⟨b3, b4, b5, b6, b7, b8, rfl⟩, s1, hva, hvl, hve, hrem⟩
    rw [hM.1, List.drop_length] at hrem
    have hrem' : remV S v = vi := hrem
    rw [hrem'] at q
    refine ⟨_, rfl, va, rfl, ⟨_, SqL.of hva⟩, fun D hD => ?_⟩
    refine lcm (walk_list (K := K) (a := va) (xs := vi.map V.int)) ((vi.map (· == 0)).map V.bl) (by rw [List.length_map, List.length_map, List.length_map]) (by rw [List.length_map]; omega) hD (fun H' s => SqL.of (s _ _ hva)) ?_ fun H3 s3 h3 => ?_
    · rintro j y x H4 H5 hj hy s4 ⟨rfl, hx⟩ k hk
      rw [List.getElem?_map] at hx
      obtain ⟨n, hn, rfl⟩ := Option.map_eq_some_iff.mp hx
      rw [List.getElem?_map, List.getElem?_map, hn] at hy
      obtain rfl := Option.some.inj hy
      refine ⟨rfl, _, rfl, rfl, ?_⟩
      have e : decide (V.int n = V.int 0) = (n == 0) := by
        by_cases c : n = 0
        · rw [c]
          rfl
        · rw [decide_eq_false (fun z : V.int n = V.int 0 => c (by injection z))]
          simp [c]
      rw [e]
      exact hk _ (Same.refl _)
    · refine ⟨D, vi.map (· == 0), rfl, SqL.of h3, ?_⟩
      have e : (vi.map (· == 0)).all id = vi.all (· == 0) := by rw [List.all_map]; rfl
      rw [e]
      exact q _ (s1.trans s3)
end
end TL
namespace TL
open PySem L2

/-! ### steps of a reading -/
local macro_rules | `(tactic| walk_at "hp") => `(tactic| first | assumption | exact upd_same | (refine (upd_ne (by first | assumption | (exact Ne.symm (by assumption)))).trans ?_; walk_at "hp"))
local macro_rules | `(tactic| walk_at "ok") => `(tactic| first | (exact Or.inr ⟨by decide, by decide⟩) | (exact ⟨by decide, by decide⟩) | (exact ⟨by decide, by decide, by decide⟩) | (show _ ≠ _; omega) | (show _ ≠ _; decide) | (exact Or.inl ⟨by omega, by omega⟩) | decide)
local macro_rules | `(tactic| walk_at "sq") => `(tactic| first | assumption | exact SqL.of (by walk_at "hp") | exact SqT.of (by walk_at "hp"))
local macro_rules | `(tactic| walk_at "ty") => `(tactic| first | refine ⟨_, _, Value.type "int", Value.type "list", false, rfl, ClsV.ty _, TyX.base (TyOf.int _), kt_int_list, ?_⟩ | refine ⟨_, _, Value.type "bool", Value.type "list", false, rfl, ClsV.ty _, TyX.base (TyOf.bl _), kt_bool_list, ?_⟩ | refine ⟨_, _, Value.type "str", Value.type "list", false, rfl, ClsV.ty _, TyX.base (TyOf.str _), kt_str_list, ?_⟩ | refine ⟨_, _, Value.type "NoneType", Value.type "list", false, rfl, ClsV.ty _, TyX.base TyOf.non, kt_NoneType_list, ?_⟩ | refine ⟨_, _, Value.type "list", Value.type "list", true, rfl, ClsV.ty _, tyx_L (by walk_at "sq"), kt_list_list, ?_⟩ | refine ⟨_, _, Value.type "tuple", Value.type "list", false, rfl, ClsV.ty _, tyx_T (by walk_at "sq"), kt_tuple_list, ?_⟩ | refine ⟨_, _, Value.type "int", Value.type "tuple", false, rfl, ClsV.ty _, TyX.base (TyOf.int _), kt_int_tuple, ?_⟩ | refine ⟨_, _, Value.type "bool", Value.type "tuple", false, rfl, ClsV.ty _, TyX.base (TyOf.bl _), kt_bool_tuple, ?_⟩ | refine ⟨_, _, Value.type "str", Value.type "tuple", false, rfl, ClsV.ty _, TyX.base (TyOf.str _), kt_str_tuple, ?_⟩ | refine ⟨_, _, Value.type "NoneType", Value.type "tuple", false, rfl, ClsV.ty _, TyX.base TyOf.non, kt_NoneType_tuple, ?_⟩ | refine ⟨_, _, Value.type "list", Value.type "tuple", false, rfl, ClsV.ty _, tyx_L (by walk_at "sq"), kt_list_tuple, ?_⟩ | refine ⟨_, _, Value.type "tuple", Value.type "tuple", true, rfl, ClsV.ty _, tyx_T (by walk_at "sq"), kt_tuple_tuple, ?_⟩ | refine ⟨_, _, Value.type "int", Value.type "bool", false, rfl, ClsV.ty _, TyX.base (TyOf.int _), kt_int_bool, ?_⟩ | refine ⟨_, _, Value.type "bool", Value.type "bool", true, rfl, ClsV.ty _, TyX.base (TyOf.bl _), kt_bool_bool, ?_⟩ | refine ⟨_, _, Value.type "str", Value.type "bool", false, rfl, ClsV.ty _, TyX.base (TyOf.str _), kt_str_bool, ?_⟩ | refine ⟨_, _, Value.type "NoneType", Value.type "bool", false, rfl, ClsV.ty _, TyX.base TyOf.non, kt_NoneType_bool, ?_⟩ | refine ⟨_, _, Value.type "list", Value.type "bool", false, rfl, ClsV.ty _, tyx_L (by walk_at "sq"), kt_list_bool, ?_⟩ | refine ⟨_, _, Value.type "tuple", Value.type "bool", false, rfl, ClsV.ty _, tyx_T (by walk_at "sq"), kt_tuple_bool, ?_⟩ | refine ⟨_, _, Value.type "int", Value.type "int", true, rfl, ClsV.ty _, TyX.base (TyOf.int _), kt_int_int, ?_⟩ | refine ⟨_, _, Value.type "bool", Value.type "int", true, rfl, ClsV.ty _, TyX.base (TyOf.bl _), kt_bool_int, ?_⟩ | refine ⟨_, _, Value.type "str", Value.type "int", false, rfl, ClsV.ty _, TyX.base (TyOf.str _), kt_str_int, ?_⟩ | refine ⟨_, _, Value.type "NoneType", Value.type "int", false, rfl, ClsV.ty _, TyX.base TyOf.non, kt_NoneType_int, ?_⟩ | refine ⟨_, _, Value.type "list", Value.type "int", false, rfl, ClsV.ty _, tyx_L (by walk_at "sq"), kt_list_int, ?_⟩ | refine ⟨_, _, Value.type "tuple", Value.type "int", false, rfl, ClsV.ty _, tyx_T (by walk_at "sq"), kt_tuple_int, ?_⟩ | refine ⟨_, _, Value.type "int", Value.type "str", false, rfl, ClsV.ty _, TyX.base (TyOf.int _), kt_int_str, ?_⟩ | refine ⟨_, _, Value.type "bool", Value.type "str", false, rfl, ClsV.ty _, TyX.base (TyOf.bl _), kt_bool_str, ?_⟩ | refine ⟨_, _, Value.type "str", Value.type "str", true, rfl, ClsV.ty _, TyX.base (TyOf.str _), kt_str_str, ?_⟩ | refine ⟨_, _, Value.type "NoneType", Value.type "str", false, rfl, ClsV.ty _, TyX.base TyOf.non, kt_NoneType_str, ?_⟩ | refine ⟨_, _, Value.type "list", Value.type "str", false, rfl, ClsV.ty _, tyx_L (by walk_at "sq"), kt_list_str, ?_⟩ | refine ⟨_, _, Value.type "tuple", Value.type "str", false, rfl, ClsV.ty _, tyx_T (by walk_at "sq"), kt_tuple_str, ?_⟩)
local macro_rules | `(tactic| walk_at "go1") => `(tactic| first
  | (refine ⟨_, rfl, ?_⟩)
  | (refine ⟨_, _, rfl, rfl, ?_⟩)
  | (refine ⟨_, _, _, _, rfl, rfl, SqL.of (by walk_at "hp"), rfl, ?_⟩)
  | (refine Or.inl ⟨_, rfl, ?_⟩)
  | (refine ⟨rfl, ?_⟩)
  | (refine ⟨_, _, rfl, .inl (SqL.of (by walk_at "hp")), ?_⟩)
  | (refine ⟨_, _, rfl, Or.inl (by assumption), ?_⟩)
  | (refine ⟨_, _, rfl, Or.inr (by assumption), ?_⟩)
  | (refine ⟨(by walk_at "ok"), ?_⟩)
  | (refine ⟨_, _, _, _, rfl, rfl, (by walk_at "hp"), rfl, ?_⟩))
local macro_rules | `(tactic| walk_at "go") => `(tactic| repeat (walk_at "go1"))
local macro_rules | `(tactic| walk_at "gt") => `(tactic| repeat (first | walk_at "go1" | walk_at "ty"))

section
variable {P : Program} {w : World} {K : PySem.W.Frag} {mg : Str → Option Value} {base : Heap}
-- [0=_law_bag, 1=_law_some*, 2=_law_at]
def spShuf (K : PySem.W.Frag) : Sp := fun vs H Q _ => ∃ (B : Bg) (a : Addr) (xs : List V), vs = [.ref B.b, .ref a] ∧ H a = some (.lst xs) ∧ a ≠ B.b ∧ xs.length ≤ 100 ∧ Bag B H ∧ ∀ t ys H', Bag B H' → Kb B.b H H' → H t = none → H' t = some (.lst ys) → ys.Perm xs → Q (.ref t) H'
theorem kb_free {g : Addr} {H H' : Hp} {p : Addr} (k : Kb g H H') (h : H' p = none) (n : p ≠ g) : H p = none := by
  cases e : H p with
  | none => rfl
  | some o =>
    have := k _ _ e n
    rw [h] at this
    cases this
theorem ok_shuf (T : Tx K mg) : FnOk P w K mg base CX0 3 T.f_l_shuffled T.d_l_shuffled ["_law_bag", "_law_some"] (spShuf K) := by
  have G_l_order := ok_order (P := P) (w := w) (base := base) T
  refine T.F_l_shuffled.ok sc_l_shuffled (fun vs H Q E h => ?_) (fun cdv A outer s H vs Q E hr h => ?_)
  · obtain ⟨B, a, xs, rfl, _⟩ := h
    rfl
  obtain ⟨B, a, xs, rfl, ha, hne, hz, hB, q⟩ := h
  have nd := sc_l_shuffled.nd
  refine ⟨_, (pss_one (ps_ret (pe_lc (own := [("_law_at", 2)]) (g := (gName 2)) rfl nd (show PI _ _ _ (iList K _) from pi_list (pe_call G_l_order hr (by rfl) T.m_l_order T.F_l_order.kp T.b_l_order .nil pass0 (pa_cons (pv 0) (pa_cons (pe_callB (show CallR _ _ (rLenSq K) from call_len_seq) (by rfl) T.z_len (by decide +kernel) (pa_cons (pv 1) pa_nil)) pa_nil)))) (blkOk_by (own := [("_law_at", 2)]) (N := N_l_shuffled) (sc := defScope s_l_shuffled) (by decide +kernel)) (fun _ _ _ _ _ => by exact (pg_name (i := 2) nd rfl (Or.inl rfl))) (fun _ _ _ _ _ => by exact pts_nil) (fun _ _ _ _ _ => by exact (pe_ix (show IxR _ (rIxL K) from ix_list) (pv 1) (pv 2) (fun _ _ => rfl)))))), ?_⟩
  refine ⟨_, rfl, _, rfl, a, xs, rfl, .inl (SqL.of ha), B, xs.length, rfl, hz, hB, fun t ys H1 hB1 kb1 hn h1 hperm => ?_⟩
  have ha1 := kb1 _ _ ha hne
  refine ⟨t, rfl, ⟨_, SqL.of h1⟩, fun D hD => ?_⟩
  have hyl : ys.length = xs.length := by rw [hperm.length_eq, List.length_map, List.length_range]
  refine lcm (walk_list (K := K) (a := t) (xs := ys)) (ys.map fun v => match v with | .int z => xs.getD z.toNat .non | _ => .non) (by rw [List.length_map]) (by omega) hD (fun H' s => SqL.of (s _ _ h1)) ?_ fun H3 s3 h3 => ?_
  · rintro j y x H4 H5 hj hy s4 ⟨rfl, hx⟩ k hk
    rw [List.getElem?_map, hx] at hy
    obtain rfl := Option.some.inj hy
    obtain ⟨i, hi, rfl⟩ := List.mem_map.mp (hperm.mem_iff.mp (List.mem_of_getElem? hx))
    have hi' := List.mem_range.mp hi
    refine ⟨rfl, _, rfl, _, rfl, a, xs, _, _, rfl, rfl, SqL.of (s4 _ _ ha1), at_of (j := i) rfl (List.getElem?_eq_getElem hi'), ?_⟩
    have e : xs.getD ((i : Int)).toNat .non = xs[i] := by
      rw [Int.toNat_natCast, List.getD_eq_getElem?_getD, List.getElem?_eq_getElem hi']
      rfl
    have := hk _ (Same.refl _)
    dsimp only at this
    rw [e] at this
    exact this
  · have hp := hperm.map fun v => match v with | V.int z => xs.getD z.toNat V.non | _ => V.non
    have e : (((List.range xs.length).map fun i : Nat => V.int (i : Int)).map fun v => match v with | V.int z => xs.getD z.toNat V.non | _ => V.non) = xs := by
      rw [List.map_map]
      refine List.ext_getElem (by rw [List.length_map, List.length_range]) fun i h1 h2 => ?_
      rw [List.getElem_map, List.getElem_range]
      show xs.getD ((i : Int)).toNat V.non = xs[i]
      rw [Int.toNat_natCast, List.getD_eq_getElem?_getD, List.getElem?_eq_getElem h2]
      rfl
    rw [e] at hp
    exact q D _ H3 (hB1.same s3) (kb1.trans (Kb.same s3)) (kb_free kb1 hD (hB1.nb hD)) h3 hp
end
end TL
namespace TL
/-! ### the staircase as the law reckons it: column by column -/
theorem euc_head {w j : Nat} : ∀ (rs : List (List Int)) (h : List Int), Low w j h → (∀ r ∈ rs, Low w j r) → vecL h j ≠ 0 → vecL (eucCol j h rs).1 j ≠ 0
  | [], h, _, _, h0 => h0
  | r :: rs, h, hh, hr, h0 => by
    have hr0 := hr r List.mem_cons_self
    obtain ⟨p, v, e, b1, b2, b3, b4, b5, b6, _⟩ := dvd2_ok (w := w) (l := j) (vecL r j).natAbs h r hh.1 hr0.1 (Nat.le_refl _) (.inl h0) hh.2 hr0.2
    show vecL (eucCol j (dvd2 j (vecL r j).natAbs h r).1 rs).1 j ≠ 0
    rw [e]
    exact euc_head rs p ⟨b1, b5⟩ (fun x hx => hr x (List.mem_cons_of_mem _ hx)) b4
/-- a column: the leads so far, the rows that are left -/
def lawCol (j : Nat) (s : List (List Int) × List (List Int)) : List (List Int) × List (List Int) :=
  match s.2.filter (fun r => vecL r j != 0) with
  | [] => (s.1, s.2.filter fun r => vecL r j == 0)
  | h :: hs => (s.1 ++ [(eucCol j h hs).1], s.2.filter (fun r => vecL r j == 0) ++ (eucCol j h hs).2)
def lawN (vs : List (List Int)) : Nat → List (List Int) × List (List Int)
  | 0 => ([], vs)
  | j + 1 => lawCol j (lawN vs j)
structure LawI (w j : Nat) (vs : List (List Int)) (s : List (List Int) × List (List Int)) : Prop where
  len : ∀ r ∈ s.1, r.length = w
  low : ∀ r ∈ s.2, Low w j r
  ech : ∀ M : List (Nat → Int), Ech j M → Ech 0 (s.1.map vecL ++ M)
  spn : ∀ u, Spn ((s.1 ++ s.2).map vecL) u ↔ Spn (vs.map vecL) u
theorem spn_mem {A B : List (List Int)} (h : ∀ r ∈ A, r ∈ B) {u : Nat → Int} (k : Spn (A.map vecL) u) : Spn (B.map vecL) u := Spn.sub (fun x hx => by
  obtain ⟨r, hr, rfl⟩ := List.mem_map.mp hx
  exact Spn.mem (List.mem_map.mpr ⟨r, h r hr, rfl⟩)) k
theorem LawI.step {w j : Nat} {vs : List (List Int)} {s : List (List Int) × List (List Int)} (h : LawI w j vs s) : LawI w (j + 1) vs (lawCol j s) := by
  obtain ⟨L, R⟩ := s
  obtain ⟨h1, h2, h3, h4⟩ := h
  dsimp only at h1 h2 h3 h4
  have hz : ∀ r ∈ R.filter (fun r => vecL r j == 0), Low w (j + 1) r := fun r hr => by
    obtain ⟨a, b⟩ := List.mem_filter.mp hr
    obtain ⟨c, d⟩ := h2 r a
    refine ⟨c, fun i hi => ?_⟩
    rcases Nat.lt_or_ge i j with z | z
    · exact d i z
    · rw [show i = j by omega]
      exact beq_iff_eq.mp b
  have hpart : ∀ r ∈ R, r ∈ R.filter (fun r => vecL r j != 0) ∨ r ∈ R.filter (fun r => vecL r j == 0) := fun r hr => by
    by_cases c : vecL r j = 0
    · exact .inr (List.mem_filter.mpr ⟨hr, by rw [c]; rfl⟩)
    · exact .inl (List.mem_filter.mpr ⟨hr, by simpa using c⟩)
  unfold lawCol
  dsimp only
  cases hf : R.filter (fun r => vecL r j != 0) with
  | nil =>
    dsimp only
    have hall : ∀ r ∈ R, r ∈ R.filter (fun r => vecL r j == 0) := fun r hr => by
      rcases hpart r hr with z | z
      · rw [hf] at z
        cases z
      · exact z
    refine ⟨h1, hz, fun M hM => h3 M (hM.le (Nat.le_succ j)), fun u => Iff.trans ⟨spn_mem fun r hr => ?_, spn_mem fun r hr => ?_⟩ (h4 u)⟩
    · rcases List.mem_append.mp hr with z | z
      · exact List.mem_append_left _ z
      · exact List.mem_append_right _ (List.mem_filter.mp z).1
    · rcases List.mem_append.mp hr with z | z
      · exact List.mem_append_left _ z
      · exact List.mem_append_right _ (hall r z)
  | cons x xs =>
    dsimp only
    have hm : ∀ r ∈ x :: xs, r ∈ R ∧ vecL r j ≠ 0 := fun r hr => by
      rw [← hf] at hr
      obtain ⟨a, b⟩ := List.mem_filter.mp hr
      exact ⟨a, by simpa using b⟩
    have hx := hm x List.mem_cons_self
    obtain ⟨a1, a2, a3⟩ := eucCol_ok xs x (h2 x hx.1) (fun r hr => h2 r (hm r (List.mem_cons_of_mem _ hr)).1)
    have a4 := euc_head xs x (h2 x hx.1) (fun r hr => h2 r (hm r (List.mem_cons_of_mem _ hr)).1) hx.2
    refine ⟨fun r hr => ?_, fun r hr => ?_, fun M hM => ?_, fun u => Iff.trans (Spn.iff (fun y hy => ?_) (fun y hy => ?_) u) (h4 u)⟩
    · rcases List.mem_append.mp hr with z | z
      · exact h1 r z
      · rw [List.mem_singleton.mp z]
        exact a1.1
    · rcases List.mem_append.mp hr with z | z
      · exact hz r z
      · exact a2 r z
    · rw [List.map_append, List.append_assoc]
      exact h3 _ ⟨j, Nat.le_refl _, a1.2, a4, hM⟩
    · obtain ⟨r, hr, rfl⟩ := List.mem_map.mp hy
      have big : ∀ q, Spn ((x :: xs).map vecL) q → Spn ((L ++ R).map vecL) q := fun q => spn_mem fun r hr => List.mem_append_right _ (hm r hr).1
      rcases List.mem_append.mp hr with z | z
      · rcases List.mem_append.mp z with z | z
        · exact Spn.mem (List.mem_map.mpr ⟨r, List.mem_append_left _ z, rfl⟩)
        · rw [List.mem_singleton.mp z]
          exact big _ ((a3 _).mp (Spn.mem List.mem_cons_self))
      · rcases List.mem_append.mp z with z | z
        · exact Spn.mem (List.mem_map.mpr ⟨r, List.mem_append_right _ (List.mem_filter.mp z).1, rfl⟩)
        · exact big _ ((a3 _).mp (Spn.mem (List.mem_cons_of_mem _ (List.mem_map.mpr ⟨r, z, rfl⟩))))
    · obtain ⟨r, hr, rfl⟩ := List.mem_map.mp hy
      have big : ∀ q, Spn (vecL (eucCol j x xs).1 :: (eucCol j x xs).2.map vecL) q → Spn (((L ++ [(eucCol j x xs).1]) ++ (R.filter (fun r => vecL r j == 0) ++ (eucCol j x xs).2)).map vecL) q := fun q k => by
        refine spn_mem (A := (eucCol j x xs).1 :: (eucCol j x xs).2) (fun r hr => ?_) k
        rcases List.mem_cons.mp hr with rfl | hr
        · exact List.mem_append_left _ (List.mem_append_right _ (List.mem_singleton.mpr rfl))
        · exact List.mem_append_right _ (List.mem_append_right _ hr)
      rcases List.mem_append.mp hr with z | z
      · exact Spn.mem (List.mem_map.mpr ⟨r, List.mem_append_left _ (List.mem_append_left _ z), rfl⟩)
      · rcases hpart r z with z | z
        · rw [hf] at z
          exact big _ ((a3 _).mpr (Spn.mem (List.mem_map.mpr ⟨r, z, rfl⟩)))
        · exact Spn.mem (List.mem_map.mpr ⟨r, List.mem_append_right _ (List.mem_append_left _ z), rfl⟩)
theorem lawN_ok {w : Nat} {vs : List (List Int)} (hv : ∀ v ∈ vs, v.length = w) : ∀ j, LawI w j vs (lawN vs j)
  | 0 => ⟨fun r hr => (by cases hr), fun r hr => ⟨hv r hr, fun i hi => by omega⟩, fun M hM => hM, fun u => Iff.rfl⟩
  | j + 1 => (lawN_ok hv j).step
/-- the law's staircase is the program's -/
theorem law_stairs {w : Nat} {vs : List (List Int)} (hv : ∀ v ∈ vs, v.length = w) : settle [] (lawN vs w).1 = stairsOf vs := by
  obtain ⟨h1, h2, h3, h4⟩ := lawN_ok hv w
  have he := h3 [] trivial
  rw [List.append_nil] at he
  obtain ⟨a1, a2, a3⟩ := settle_ok (lawN vs w).1 [] 0 (fun r hr => by cases hr) h1 trivial he
  obtain ⟨b1, b2, b3⟩ := stairs_ok hv
  refine stairs_one a1 b1 a2 b2 fun u => ((a3 u).trans ?_).trans (b3 u).symm
  refine Iff.trans (Spn.iff (fun y hy => ?_) (fun y hy => ?_) u) (h4 u)
  · obtain ⟨r, hr, rfl⟩ := List.mem_map.mp hy
    exact Spn.mem (List.mem_map.mpr ⟨r, List.mem_append_left _ hr, rfl⟩)
  · obtain ⟨r, hr, rfl⟩ := List.mem_map.mp hy
    rcases List.mem_append.mp hr with z | z
    · exact Spn.mem (List.mem_map.mpr ⟨r, z, rfl⟩)
    · have hz : ∀ i, vecL r i = 0 := fun i => by
        obtain ⟨c, d⟩ := h2 r z
        rcases Nat.lt_or_ge i w with y | y
        · exact d i y
        · unfold vecL
          rw [List.getD_eq_getElem?_getD, List.getElem?_eq_none (by omega)]
          rfl
      exact (Spn.zero _).congr fun i => (hz i).symm
end TL
namespace TL
/-! ### sizes of the law's staircase -/
theorem eb_upN {a b : Nat} {v : List Int} (h : EB (2 ^ a) v) (k : a ≤ b) : EB (2 ^ b) v := h.le (Nat.pow_le_pow_right (by decide) k)
theorem dvd2_pbtN {l D : Nat} : ∀ (n : Nat) (r v : List Int), r.length = v.length → PBt l D r v → PBt l D (dvd2 l n r v).1 (dvd2 l n r v).2 ∧ (dvd2 l n r v).1.length = r.length ∧ (dvd2 l n r v).2.length = r.length
  | 0, r, v, hl, h => ⟨h, rfl, hl.symm⟩
  | n + 1, r, v, hl, h => by
    have e : dvd2 l (n + 1) r v = if vecL v l ≠ 0 then dvd2 l n v (lessL r ((vecL r l).fdiv (vecL v l)) v) else (r, v) := rfl
    rw [e]
    split
    · rename_i c
      have := dvd2_pbtN n v _ (by rw [less_len hl]; exact hl.symm) (h.step hl c)
      rw [hl]
      exact this
    · exact ⟨h, rfl, hl.symm⟩
theorem euc_bits {w j c : Nat} : ∀ (rs : List (List Int)) (h : List Int) (d : Nat), h.length = w → (∀ r ∈ rs, r.length = w) → EB (2 ^ d) h → (∀ r ∈ rs, EB (2 ^ c) r) → EB (2 ^ (d + rs.length * (c + 2))) (eucCol j h rs).1 ∧ (∀ r ∈ (eucCol j h rs).2, EB (2 ^ (d + rs.length * (c + 2))) r) ∧ (eucCol j h rs).2.length = rs.length
  | [], h, d, _, _, hd, _ => ⟨eb_upN hd (by omega), fun r hr => (by cases hr), rfl⟩
  | r :: rs, h, d, hw, hr, hd, hc => by
    have hrw := hr r List.mem_cons_self
    have hp := PBt.start (l := j) hd (hc r List.mem_cons_self)
    obtain ⟨b1, b2, b3⟩ := dvd2_pbtN (vecL r j).natAbs h r (hw.trans hrw.symm) hp
    obtain ⟨a1, a2, a3⟩ := euc_bits rs (dvd2 j (vecL r j).natAbs h r).1 (d + (c + 2)) (b2.trans hw) (fun x hx => hr x (List.mem_cons_of_mem _ hx)) b1.eb.1 (fun x hx => hc x (List.mem_cons_of_mem _ hx))
    have e : d + (r :: rs).length * (c + 2) = d + (c + 2) + rs.length * (c + 2) := by
      rw [List.length_cons, Nat.succ_mul]
      omega
    rw [e]
    refine ⟨a1, fun x hx => ?_, ?_⟩
    · rcases List.mem_cons.mp hx with rfl | hx
      · exact eb_upN b1.eb.2 (by omega)
      · exact a2 x hx
    · show (eucCol j (dvd2 j (vecL r j).natAbs h r).1 rs).2.length + 1 = _
      rw [a3]
      rfl
/-- the bits behind t leads -/
def Gq : Nat → Nat
  | 0 => 128
  | t + 1 => 6 * (Gq t + 2)
theorem Gq_up : ∀ {s t : Nat}, s ≤ t → Gq s ≤ Gq t := fun {s t} h => by
  induction t with
  | zero =>
    obtain rfl : s = 0 := by omega
    exact Nat.le_refl _
  | succ t ih =>
    rcases Nat.lt_or_ge s (t + 1) with z | z
    · refine Nat.le_trans (ih (by omega)) ?_
      show Gq t ≤ 6 * (Gq t + 2)
      omega
    · obtain rfl : s = t + 1 := by omega
      exact Nat.le_refl _
theorem Gq6 : Gq 6 < 6200000 := by decide +kernel
structure LawS (n : Nat) (s : List (List Int) × List (List Int)) : Prop where
  sum : s.1.length + s.2.length = n
  one : ∀ r ∈ s.1, EB (2 ^ Gq s.1.length) r
  two : ∀ r ∈ s.2, EB (2 ^ Gq s.1.length) r
theorem filt_len (p : List Int → Bool) : ∀ R : List (List Int), (R.filter p).length + (R.filter fun r => !p r).length = R.length
  | [] => rfl
  | r :: R => by
    have := filt_len p R
    cases h : p r <;> simp [List.filter_cons, h] <;> omega
theorem LawS.step {w j n : Nat} {vs : List (List Int)} {s : List (List Int) × List (List Int)} (hi : LawI w j vs s) (h : LawS n s) (hn : n ≤ 6) : LawS n (lawCol j s) := by
  obtain ⟨L, R⟩ := s
  obtain ⟨h1, h2, h3⟩ := h
  dsimp only at h1 h2 h3
  have hlow := hi.low
  dsimp only at hlow
  have hfl := filt_len (fun r => vecL r j != 0) R
  have e0 : (R.filter fun r => !(vecL r j != 0)) = R.filter fun r => vecL r j == 0 := by
    congr 1
    funext r
    simp [bne]
  rw [e0] at hfl
  unfold lawCol
  dsimp only
  cases hf : R.filter (fun r => vecL r j != 0) with
  | nil =>
    rw [hf] at hfl
    dsimp only
    refine ⟨?_, h2, fun r hr => h3 r (List.mem_filter.mp hr).1⟩
    rw [List.length_nil] at hfl
    show L.length + (R.filter fun r => vecL r j == 0).length = n
    omega
  | cons x xs =>
    rw [hf, List.length_cons] at hfl
    dsimp only
    have hm : ∀ r ∈ x :: xs, r ∈ R := fun r hr => by
      rw [← hf] at hr
      exact (List.mem_filter.mp hr).1
    obtain ⟨a1, a2, a3⟩ := euc_bits (w := w) (j := j) (c := Gq L.length) xs x (Gq L.length) (hlow x (hm x List.mem_cons_self)).1 (fun r hr => (hlow r (hm r (List.mem_cons_of_mem _ hr))).1) (h3 x (hm x List.mem_cons_self)) (fun r hr => h3 r (hm r (List.mem_cons_of_mem _ hr)))
    have el : (L ++ [(eucCol j x xs).1]).length = L.length + 1 := by rw [List.length_append]; rfl
    have hx : xs.length + 1 ≤ 6 := by omega
    have hg : Gq L.length + xs.length * (Gq L.length + 2) ≤ Gq (L.length + 1) := by
      show _ ≤ 6 * (Gq L.length + 2)
      have k1 : (xs.length + 1) * (Gq L.length + 2) ≤ 6 * (Gq L.length + 2) := Nat.mul_le_mul_right _ hx
      have k2 : (xs.length + 1) * (Gq L.length + 2) = xs.length * (Gq L.length + 2) + (Gq L.length + 2) := Nat.succ_mul ..
      omega
    have hup : Gq L.length ≤ Gq (L.length + 1) := Gq_up (by omega)
    refine ⟨?_, fun r hr => ?_, fun r hr => ?_⟩
    · dsimp only
      rw [el, List.length_append, a3]
      omega
    · dsimp only
      rw [el]
      rcases List.mem_append.mp hr with z | z
      · exact eb_upN (h2 r z) hup
      · rw [List.mem_singleton.mp z]
        exact eb_upN a1 hg
    · dsimp only
      rw [el]
      rcases List.mem_append.mp hr with z | z
      · exact eb_upN (h3 r (List.mem_filter.mp z).1) hup
      · exact eb_upN (a2 r z) hg
theorem lawN_size {w : Nat} {vs : List (List Int)} (hv : ∀ v ∈ vs, v.length = w) (h6 : vs.length ≤ 6) (hb : ∀ v ∈ vs, EB (2 ^ 128) v) : ∀ j, LawS vs.length (lawN vs j)
  | 0 => ⟨Nat.zero_add _, fun r hr => (by cases hr), hb⟩
  | j + 1 => (lawN_size hv h6 hb j).step (lawN_ok hv j) h6
end TL
namespace TL
open PySem L2

/-! ### the law's staircase: mathematics -/
theorem settle_snoc : ∀ (L acc : List (List Int)) (row : List Int), settle acc (L ++ [row]) = (settle acc L).map (redR row) ++ [nrm row]
  | [], acc, row => rfl
  | x :: L, acc, row => by
    rw [List.cons_append, settle_step, settle_step]
    exact settle_snoc L _ row
theorem sok_snoc : ∀ (L acc : List (List Int)) (row : List Int), SOk acc (L ++ [row]) → ∀ up ∈ settle acc L, ∀ x ∈ nrm row, CMulX ((vecL up ((leadOf row).getD 0)).fdiv (vecL (nrm row) ((leadOf row).getD 0))) x
  | [], acc, row, h => h.1
  | x :: L, acc, row, h => sok_snoc L _ row h.2
theorem lead_at {v : List Int} {l : Nat} (h1 : ∀ j, j < l → vecL v j = 0) (h2 : vecL v l ≠ 0) : leadOf v = some l := by
  cases e : leadOf v with
  | none => exact absurd (lead_none e l) h2
  | some m => rw [lead_uniq e h1 h2]
theorem sum_of {T : Nat} : ∀ {M : List (List Int)} {g : Nat}, (∀ r ∈ M, EB (2 ^ g) r) → M.length * (g + 2) ≤ T → SumOk M T
  | [], _, _, _ => trivial
  | r :: rs, g, h, hT => by
    have e : (r :: rs).length * (g + 2) = rs.length * (g + 2) + (g + 2) := Nat.succ_mul ..
    exact ⟨g, h r List.mem_cons_self, by omega, sum_of (fun x hx => h x (List.mem_cons_of_mem _ hx)) (by omega)⟩
/-- what a column of the law asks of the leads so far -/
theorem law_sok {w j n : Nat} {vs : List (List Int)} (hi : LawI w j vs (lawN vs j)) (hs : LawS n (lawN vs j)) (hn : n ≤ 6) :
    SOk [] (lawN vs j).1 ∧ (∀ r ∈ settle [] (lawN vs j).1, EB (2 ^ 40000000) r) ∧ (∀ r ∈ settle [] (lawN vs j).1, r.length = w) ∧ (settle [] (lawN vs j).1).length = (lawN vs j).1.length := by
  have he := hi.ech [] trivial
  rw [List.append_nil] at he
  have h6 : (lawN vs j).1.length ≤ 6 := by have := hs.sum; omega
  have hg : Gq (lawN vs j).1.length ≤ Gq 6 := Gq_up h6
  have g6 := Gq6
  have hm : (lawN vs j).1.length * (Gq (lawN vs j).1.length + 2) ≤ 6 * (Gq (lawN vs j).1.length + 2) := Nat.mul_le_mul_right _ h6
  obtain ⟨a1, a2, a3⟩ := settle_sum (lawN vs j).1 [] 0 40000000 (fun r hr => by cases hr) hi.len (lead_of_ech he) (fun r hr => by cases hr) (sum_of hs.one (by omega)) (by omega)
  obtain ⟨b1, _, _⟩ := settle_ok (lawN vs j).1 [] 0 (fun r hr => by cases hr) hi.len trivial he
  refine ⟨a1, fun r hr => by have := a2 r hr; rw [Nat.zero_add] at this; exact this, b1, by rw [a3, List.length_nil, Nat.zero_add]⟩
theorem dvd2_pb {l D : Nat} {r v : List Int} (hl : r.length = v.length) (h : PBt l D r v) : EB D (dvd2 l (vecL v l).natAbs r v).1 := (dvd2_pbtN _ r v hl h).1.eb.1
theorem _root_.L2.SqL.updL {K : PySem.W.Frag} {H : Hp} {a r : Addr} {xs ys : List V} {o : HO} (h : SqL K H a xs) (hr : H r = some (.lst ys)) (ne : xs ≠ ys) : SqL K (upd H r o) a xs := by
  rcases h with (h | ⟨ob, h⟩) | h
  · exact .inl (.inl (by
      rw [upd_ne (fun e => by
        subst e
        rw [h] at hr
        cases hr
        exact ne rfl)]
      exact h))
  · exact .inl (.inr ⟨ob, by
      rw [upd_ne (fun e => by
        subst e
        rw [h] at hr
        cases hr)]
      exact h⟩)
  · exact .inr h
/-- a row of whole numbers is no list of rows -/
theorem row_ne {row : List Int} {K : PySem.W.Frag} {H : Hp} {ys : List V} {M : List (List Int)} (h : 0 < row.length) (hm : MatQ K H ys M) : row.map V.int ≠ ys := fun e => by
  cases row with
  | nil => cases h
  | cons x xs =>
    obtain ⟨t, r, a, _⟩ := hm.2 0 (.int x) (by rw [← e]; rfl)
    cases a
theorem MatQ.updL {K : PySem.W.Frag} {H : Hp} {rs ys : List V} {M N : List (List Int)} {r : Addr} {o : HO} (h : MatQ K H rs M) (hp : ∀ row ∈ M, 0 < row.length) (hr : H r = some (.lst ys)) (hy : MatQ K H ys N) : MatQ K (L2.upd H r o) rs M := ⟨h.1, fun i q hq => by
  obtain ⟨t, row, a1, a2, a3⟩ := h.2 i q hq
  exact ⟨t, row, a1, a2, a3.updL hr (row_ne (hp row (List.mem_of_getElem? a2)) hy)⟩⟩
theorem MatQ.filt {K : PySem.W.Frag} {H : Hp} (p : List Int → Bool) (q : V → Bool) : ∀ {rs : List V} {M : List (List Int)}, MatQ K H rs M → (∀ (i : Nat) r row, rs[i]? = some r → M[i]? = some row → q r = p row) → MatQ K H (rs.filter q) (M.filter p)
  | [], [], h, _ => h
  | [], _ :: _, h, _ => by cases h.1
  | _ :: _, [], h, _ => by cases h.1
  | r :: rs, row :: M, h, e => by
    have h0 := e 0 r row rfl rfl
    have ht : MatQ K H rs M := ⟨Nat.succ.inj h.1, fun i x hx => h.2 (i + 1) x hx⟩
    have ih := MatQ.filt p q ht fun i x y hx hy => e (i + 1) x y hx hy
    rw [List.filter_cons, List.filter_cons, h0]
    split
    · refine ⟨by rw [List.length_cons, List.length_cons, ih.1], fun i x hx => ?_⟩
      cases i with
      | zero =>
        obtain ⟨t, rw', b1, b2, b3⟩ := h.2 0 r rfl
        obtain rfl : r = x := Option.some.inj hx
        exact ⟨t, rw', b1, b2, b3⟩
      | succ i => exact ih.2 i x hx
    · exact ih
theorem MatQ.tail {K : PySem.W.Frag} {H : Hp} {r : V} {rs : List V} {row : List Int} {M : List (List Int)} (h : MatQ K H (r :: rs) (row :: M)) : MatQ K H rs M := ⟨Nat.succ.inj h.1, fun i x hx => h.2 (i + 1) x hx⟩
end TL
namespace TL
open PySem L2

/-! ### lists of rows compared -/
def dL (M : List (List Int)) : PyData := .list (M.map fun row => .list (row.map .int))
theorem ints_eqv : ∀ a b : List Int, PyData.eqvAll (a.map PyData.int) (b.map PyData.int) = decide (a = b)
  | [], [] => by rw [List.map_nil, PyData.eqvAll]; rfl
  | [], y :: ys => by rw [List.map_nil, List.map_cons, PyData.eqvAll]; rfl
  | x :: xs, [] => by rw [List.map_nil, List.map_cons, PyData.eqvAll]; rfl
  | x :: xs, y :: ys => by
    rw [List.map_cons, List.map_cons, PyData.eqvAll, ints_eqv xs ys, PyData.eqv]
    by_cases h : x = y
    · subst h
      by_cases h2 : xs = ys
      · subst h2
        simp
      · simp [h2]
    · simp [h]
theorem rows_eqv : ∀ A B : List (List Int), PyData.eqvAll (A.map fun row => PyData.list (row.map .int)) (B.map fun row => PyData.list (row.map .int)) = decide (A = B)
  | [], [] => by rw [List.map_nil, PyData.eqvAll]; rfl
  | [], y :: ys => by rw [List.map_nil, List.map_cons, PyData.eqvAll]; rfl
  | x :: xs, [] => by rw [List.map_nil, List.map_cons, PyData.eqvAll]; rfl
  | x :: xs, y :: ys => by
    rw [List.map_cons, List.map_cons, PyData.eqvAll, rows_eqv xs ys, PyData.eqv, ints_eqv]
    by_cases h : x = y
    · subst h
      by_cases h2 : xs = ys
      · subst h2
        simp
      · simp [h2]
    · simp [h]
theorem dL_eqv (A B : List (List Int)) : PyData.eqv (dL A) (dL B) = decide (A = B) := by
  unfold dL
  rw [PyData.eqv, rows_eqv]
theorem ints_lay : ∀ row : List Int, PyData.canLayAll0 (row.map PyData.int) = true ∧ PyData.depthAll (row.map PyData.int) ≤ 1
  | [] => ⟨rfl, Nat.zero_le _⟩
  | x :: xs => by
    obtain ⟨h1, h2⟩ := ints_lay xs
    refine ⟨by rw [List.map_cons, PyData.canLayAll0, h1]; rfl, ?_⟩
    rw [List.map_cons, PyData.depthAll]
    exact Nat.max_le.mpr ⟨by unfold PyData.depth; decide, h2⟩
theorem rows_lay : ∀ M : List (List Int), PyData.canLayAll0 (M.map fun row => PyData.list (row.map .int)) = true ∧ PyData.depthAll (M.map fun row => PyData.list (row.map .int)) ≤ 10
  | [] => ⟨rfl, Nat.zero_le _⟩
  | row :: M => by
    obtain ⟨h1, h2⟩ := rows_lay M
    obtain ⟨a1, a2⟩ := ints_lay row
    refine ⟨by rw [List.map_cons, PyData.canLayAll0, h1, PyData.canLay0, a1]; rfl, ?_⟩
    rw [List.map_cons, PyData.depthAll]
    refine Nat.max_le.mpr ⟨?_, h2⟩
    unfold PyData.depth
    omega
theorem dL_shaped (M : List (List Int)) : SeqAt.shaped (dL M) = true := by
  obtain ⟨h1, h2⟩ := rows_lay M
  have hc : (dL M).canLay0 = true := by
    unfold dL PyData.canLay0
    exact h1
  unfold SeqAt.shaped
  rw [hc]
  have : (dL M).depth ≤ 64 := by
    unfold dL PyData.depth
    omega
  rw [decide_eq_true this]
  rfl
theorem dp_ints {K : PySem.W.Frag} {H : Hp} : ∀ row : List Int, DpAll K H (row.map V.int) (row.map PyData.int)
  | [] => .nil
  | x :: xs => .cons (.int x) (dp_ints xs)
theorem dp_matq {K : PySem.W.Frag} {H : Hp} : ∀ {rs : List V} {M : List (List Int)}, MatQ K H rs M → DpAll K H rs (M.map fun row => PyData.list (row.map .int))
  | [], [], _ => .nil
  | [], _ :: _, h => by cases h.1
  | _ :: _, [], h => by cases h.1
  | y :: ys, row :: M, h => by
    obtain ⟨u, row', a1, a2, a3⟩ := h.2 0 y rfl
    cases a2
    subst a1
    exact .cons (.lst a3 (dp_ints row)) (dp_matq h.tail)
theorem dp_rows {K : PySem.W.Frag} {H : Hp} {p : Addr} {rs : List V} {M : List (List Int)} (hp : SqL K H p rs) (h : MatQ K H rs M) : Dp K H (.ref p) (dL M) := .lst hp (dp_matq h)
/-! ### a comprehension with a test, place by place -/
def filtI {α : Type} (bs : List Bool) (xs : List α) : List α := ((bs.zip xs).filter (·.1)).map (·.2)
theorem filtI_map {α : Type} (p : α → Bool) : ∀ xs : List α, filtI (xs.map p) xs = xs.filter p
  | [] => rfl
  | x :: xs => by
    have ih := filtI_map p xs
    unfold filtI at ih ⊢
    rw [List.map_cons, List.zip_cons_cons, List.filter_cons, List.filter_cons]
    cases p x with
    | true => exact congrArg (x :: ·) ih
    | false => exact ih
theorem MatQ.filtI {K : PySem.W.Frag} {H : Hp} : ∀ {bs : List Bool} {rs : List V} {M : List (List Int)}, MatQ K H rs M → MatQ K H (TL.filtI bs rs) (TL.filtI bs M)
  | [], _, _, _ => ⟨rfl, fun i r h => by cases h⟩
  | _ :: _, [], [], _ => ⟨rfl, fun i r h => by cases h⟩
  | _ :: _, [], _ :: _, h => by cases h.1
  | _ :: _, _ :: _, [], h => by cases h.1
  | b :: bs, r :: rs, row :: M, h => by
    have ih := MatQ.filtI (bs := bs) h.tail
    cases b with
    | false => exact ih
    | true =>
      refine ⟨congrArg (· + 1) ih.1, fun i x hx => ?_⟩
      cases i with
      | zero =>
        obtain ⟨t, rw', b1, b2, b3⟩ := h.2 0 r rfl
        obtain rfl : r = x := Option.some.inj hx
        exact ⟨t, rw', b1, b2, b3⟩
      | succ i => exact ih.2 i x hx
section
variable {J : It} {G : Hp → Prop} {D : Addr} {g : TG} {tt : TT} {te : TE} {vs : List Nat} {σ : L2.St} {H0 : Hp} {Qd : Hp → Prop}
theorem lcfI {xs : List V} {bs : List Bool} (w : Walk J xs.length G (YAt xs)) (hb : bs.length = xs.length) (hz : xs.length ≤ 100000) (hD : H0 D = none) (hG : ∀ H, Same H0 H → G H)
    (hs : ∀ (i : Nat) x b H, xs[i]? = some x → bs[i]? = some b → Same H0 H → ∀ k1 : Hp → Prop, ∀ k2 : VK, (b = false → ∀ H4, Same H H4 → k1 H4) → (b = true → ∀ H4, Same H H4 → k2 x H4) → g x (wipe σ vs) H fun σ2 H2 => wipe σ2 vs = wipe σ vs ∧ tt σ2 H2 fun b H3 => if b = true then te σ2 H3 k2 else k1 H3)
    (hd : ∀ H, Same H0 H → H D = some (.lst (filtI bs xs)) → Qd H) : LcGoalT J g tt te vs σ H0 D Qd := by
  have hzl : (bs.zip xs).length = xs.length := by rw [List.length_zip]; omega
  refine lc_it w (fun i H => Same H0 H ∧ H D = some (.lst ((((bs.zip xs).take i).filter (·.1)).map (·.2)))) ⟨Same.new hD, upd_same⟩ (fun i H _ h => hG H h.1) (fun i x H H' hi h hy => ?_) (fun H h => ?_)
  · obtain ⟨rfl, hx⟩ := hy
    obtain ⟨b, hbi⟩ : ∃ b, bs[i]? = some b := ⟨_, List.getElem?_eq_getElem (by omega)⟩
    have hzi : (bs.zip xs)[i]? = some (b, x) := (List.getElem?_zip_eq_some (z := (b, x))).mpr ⟨hbi, hx⟩
    have et : ((bs.zip xs).take (i + 1)).filter (·.1) = ((bs.zip xs).take i).filter (·.1) ++ [(b, x)].filter (·.1) := by
      rw [List.take_succ, hzi, List.filter_append]
      rfl
    refine hs i x b H' hx hbi h.1 _ _ (fun e H4 s4 => ⟨h.1.trans s4, ?_⟩) (fun e H4 s4 => ⟨(((bs.zip xs).take i).filter (·.1)).map (·.2), s4 _ _ h.2, ?_, fun c u q => ?_, ?_⟩)
    · rw [s4 _ _ h.2, et, List.filter_cons, e]
      simp
    · rw [List.length_map]
      refine Nat.lt_of_le_of_lt (Nat.le_trans (List.length_filter_le ..) (Nat.le_trans (List.length_take_le' ..) (by rw [hzl]; exact hz))) (by decide)
    · rw [upd_ne (ne_of_none q hD)]
      exact s4 _ _ (h.1 _ _ q)
    · rw [upd_same, et, List.filter_cons, e]
      simp
  · refine hd H h.1 ?_
    rw [h.2, ← hzl, List.take_length]
    rfl
end
end TL
namespace TL
open PySem L2

/-! ### steps of a reading -/
local macro_rules | `(tactic| walk_at "hp") => `(tactic| first | assumption | exact upd_same | (refine (upd_ne (by first | assumption | (exact Ne.symm (by assumption)))).trans ?_; walk_at "hp"))
local macro_rules | `(tactic| walk_at "ok") => `(tactic| first | (exact Or.inr ⟨by decide, by decide⟩) | (exact ⟨by decide, by decide⟩) | (exact ⟨by decide, by decide, by decide⟩) | (show _ ≠ _; omega) | (show _ ≠ _; decide) | (exact Or.inl ⟨by omega, by omega⟩) | decide)
local macro_rules | `(tactic| walk_at "sq") => `(tactic| first | assumption | exact SqL.of (by walk_at "hp") | exact SqT.of (by walk_at "hp"))
local macro_rules | `(tactic| walk_at "ty") => `(tactic| first | refine ⟨_, _, Value.type "int", Value.type "list", false, rfl, ClsV.ty _, TyX.base (TyOf.int _), kt_int_list, ?_⟩ | refine ⟨_, _, Value.type "bool", Value.type "list", false, rfl, ClsV.ty _, TyX.base (TyOf.bl _), kt_bool_list, ?_⟩ | refine ⟨_, _, Value.type "str", Value.type "list", false, rfl, ClsV.ty _, TyX.base (TyOf.str _), kt_str_list, ?_⟩ | refine ⟨_, _, Value.type "NoneType", Value.type "list", false, rfl, ClsV.ty _, TyX.base TyOf.non, kt_NoneType_list, ?_⟩ | refine ⟨_, _, Value.type "list", Value.type "list", true, rfl, ClsV.ty _, tyx_L (by walk_at "sq"), kt_list_list, ?_⟩ | refine ⟨_, _, Value.type "tuple", Value.type "list", false, rfl, ClsV.ty _, tyx_T (by walk_at "sq"), kt_tuple_list, ?_⟩ | refine ⟨_, _, Value.type "int", Value.type "tuple", false, rfl, ClsV.ty _, TyX.base (TyOf.int _), kt_int_tuple, ?_⟩ | refine ⟨_, _, Value.type "bool", Value.type "tuple", false, rfl, ClsV.ty _, TyX.base (TyOf.bl _), kt_bool_tuple, ?_⟩ | refine ⟨_, _, Value.type "str", Value.type "tuple", false, rfl, ClsV.ty _, TyX.base (TyOf.str _), kt_str_tuple, ?_⟩ | refine ⟨_, _, Value.type "NoneType", Value.type "tuple", false, rfl, ClsV.ty _, TyX.base TyOf.non, kt_NoneType_tuple, ?_⟩ | refine ⟨_, _, Value.type "list", Value.type "tuple", false, rfl, ClsV.ty _, tyx_L (by walk_at "sq"), kt_list_tuple, ?_⟩ | refine ⟨_, _, Value.type "tuple", Value.type "tuple", true, rfl, ClsV.ty _, tyx_T (by walk_at "sq"), kt_tuple_tuple, ?_⟩ | refine ⟨_, _, Value.type "int", Value.type "bool", false, rfl, ClsV.ty _, TyX.base (TyOf.int _), kt_int_bool, ?_⟩ | refine ⟨_, _, Value.type "bool", Value.type "bool", true, rfl, ClsV.ty _, TyX.base (TyOf.bl _), kt_bool_bool, ?_⟩ | refine ⟨_, _, Value.type "str", Value.type "bool", false, rfl, ClsV.ty _, TyX.base (TyOf.str _), kt_str_bool, ?_⟩ | refine ⟨_, _, Value.type "NoneType", Value.type "bool", false, rfl, ClsV.ty _, TyX.base TyOf.non, kt_NoneType_bool, ?_⟩ | refine ⟨_, _, Value.type "list", Value.type "bool", false, rfl, ClsV.ty _, tyx_L (by walk_at "sq"), kt_list_bool, ?_⟩ | refine ⟨_, _, Value.type "tuple", Value.type "bool", false, rfl, ClsV.ty _, tyx_T (by walk_at "sq"), kt_tuple_bool, ?_⟩ | refine ⟨_, _, Value.type "int", Value.type "int", true, rfl, ClsV.ty _, TyX.base (TyOf.int _), kt_int_int, ?_⟩ | refine ⟨_, _, Value.type "bool", Value.type "int", true, rfl, ClsV.ty _, TyX.base (TyOf.bl _), kt_bool_int, ?_⟩ | refine ⟨_, _, Value.type "str", Value.type "int", false, rfl, ClsV.ty _, TyX.base (TyOf.str _), kt_str_int, ?_⟩ | refine ⟨_, _, Value.type "NoneType", Value.type "int", false, rfl, ClsV.ty _, TyX.base TyOf.non, kt_NoneType_int, ?_⟩ | refine ⟨_, _, Value.type "list", Value.type "int", false, rfl, ClsV.ty _, tyx_L (by walk_at "sq"), kt_list_int, ?_⟩ | refine ⟨_, _, Value.type "tuple", Value.type "int", false, rfl, ClsV.ty _, tyx_T (by walk_at "sq"), kt_tuple_int, ?_⟩ | refine ⟨_, _, Value.type "int", Value.type "str", false, rfl, ClsV.ty _, TyX.base (TyOf.int _), kt_int_str, ?_⟩ | refine ⟨_, _, Value.type "bool", Value.type "str", false, rfl, ClsV.ty _, TyX.base (TyOf.bl _), kt_bool_str, ?_⟩ | refine ⟨_, _, Value.type "str", Value.type "str", true, rfl, ClsV.ty _, TyX.base (TyOf.str _), kt_str_str, ?_⟩ | refine ⟨_, _, Value.type "NoneType", Value.type "str", false, rfl, ClsV.ty _, TyX.base TyOf.non, kt_NoneType_str, ?_⟩ | refine ⟨_, _, Value.type "list", Value.type "str", false, rfl, ClsV.ty _, tyx_L (by walk_at "sq"), kt_list_str, ?_⟩ | refine ⟨_, _, Value.type "tuple", Value.type "str", false, rfl, ClsV.ty _, tyx_T (by walk_at "sq"), kt_tuple_str, ?_⟩)
local macro_rules | `(tactic| walk_at "go1") => `(tactic| first
  | (refine ⟨_, rfl, ?_⟩)
  | (refine ⟨_, _, rfl, rfl, ?_⟩)
  | (refine ⟨_, _, _, _, rfl, rfl, SqL.of (by walk_at "hp"), rfl, ?_⟩)
  | (refine Or.inl ⟨_, rfl, ?_⟩)
  | (refine ⟨rfl, ?_⟩)
  | (refine ⟨_, _, rfl, .inl (SqL.of (by walk_at "hp")), ?_⟩)
  | (refine ⟨_, _, rfl, Or.inl (by assumption), ?_⟩)
  | (refine ⟨_, _, rfl, Or.inr (by assumption), ?_⟩)
  | (refine ⟨(by walk_at "ok"), ?_⟩)
  | (refine ⟨_, _, _, _, rfl, rfl, (by walk_at "hp"), rfl, ?_⟩))
local macro_rules | `(tactic| walk_at "go") => `(tactic| repeat (walk_at "go1"))
local macro_rules | `(tactic| walk_at "gt") => `(tactic| repeat (first | walk_at "go1" | walk_at "ty"))

section
variable {P : Program} {w : World} {K : PySem.W.Frag} {mg : Str → Option Value} {base : Heap}
-- [0=_law_width, 1=_law_vectors, 2=_law_rest, 3=_law_found, 4=_law_place*, 5=_law_some, 6=_law_lead, 7=_law_also, 8=_law_line, 9=_law_many*, 10=_law_lower, 11=_law_stair, 12=_law_x, 13=_law_y]
/-- what the law holds while it makes the staircase -/
structure LsI (K : PySem.W.Frag) (H H' : Hp) (fa : Addr) (fq : List V) (SF : List (List Int)) (ra : Addr) (xs : List V) (RR : List (List Int)) : Prop where
  same : Same H H'
  hfa : H' fa = some (.lst fq)
  hfq : MatQ K H' fq SF
  hra : H' ra = some (.lst xs)
  hrr : MatQ K H' xs RR
  ne : fa ≠ ra
  hfn : H fa = none
  hrn : H ra = none
theorem LsI.to {H H' H2 : Hp} {fa ra : Addr} {fq xs : List V} {SF RR : List (List Int)} (h : LsI K H H' fa fq SF ra xs RR) (s : Same H' H2) : LsI K H H2 fa fq SF ra xs RR :=
  ⟨h.same.trans s, s _ _ h.hfa, h.hfq.same s, s _ _ h.hra, h.hrr.same s, h.ne, h.hfn, h.hrn⟩
theorem LsI.app {H H' : Hp} {fa ra va : Addr} {fq xs : List V} {SF RR : List (List Int)} {row : List Int} (h : LsI K H H' fa fq SF ra xs RR) (hv : SqL K H' va (row.map V.int)) (p1 : ∀ r ∈ SF, 0 < r.length) (p2 : ∀ r ∈ RR, 0 < r.length) (p3 : 0 < row.length) :
    LsI K H (upd H' ra (.lst (xs ++ [V.ref va]))) fa fq SF ra (xs ++ [V.ref va]) (RR ++ [row]) :=
  ⟨h.same.upd_new h.hrn, by rw [upd_ne h.ne]; exact h.hfa, h.hfq.updL p1 h.hra h.hrr, upd_same, (h.hrr.updL p2 h.hra h.hrr).snoc (hv.updL h.hra (row_ne p3 h.hrr)), h.ne, h.hfn, h.hrn⟩
theorem eucCol_cons (j : Nat) (h r : List Int) (rs : List (List Int)) : eucCol j h (r :: rs) = ((eucCol j (dvd2 j (vecL r j).natAbs h r).1 rs).1, (dvd2 j (vecL r j).natAbs h r).2 :: (eucCol j (dvd2 j (vecL r j).natAbs h r).1 rs).2) := rfl
theorem cut1 {x : V} {xs : List V} : cutV (x :: xs) (some 1) none = xs := by
  unfold cutV
  have e1 : HT.sIx (x :: xs).length 0 (some 1) = 1 := by
    unfold HT.sIx
    simp
  have e2 : HT.sIx (x :: xs).length (x :: xs).length none = (x :: xs).length := rfl
  rw [e1, e2]
  simp
def spLSt (K : PySem.W.Frag) : Sp := fun vs H Q _ => ∃ (wd : Nat) (p : Addr) (rs : List V) (M : List (List Int)), vs = [.int (wd : Int), .ref p] ∧ SqL K H p rs ∧ MatQ K H rs M ∧ (∀ r ∈ M, r.length = wd) ∧ 0 < wd ∧ wd ≤ 100 ∧ M.length ≤ 6 ∧ (∀ r ∈ M, EB (2 ^ 128) r) ∧
  ∀ t qs H', Same H H' → H t = none → H' t = some (.lst qs) → MatQ K H' qs (stairsOf M) → Q (.ref t) H'
theorem ok_lst (T : Tx K mg) (hP : P.given.tree = none) : FnOk P w K mg base CX0 33 T.f_l_stairs T.d_l_stairs ["_law_width", "_law_vectors"] (spLSt K) := by
  refine T.F_l_stairs.ok sc_l_stairs (fun vs H Q E h => ?_) (fun cdv A outer s H vs Q E hr h => ?_)
  · obtain ⟨wd, p, rs, M, rfl, _⟩ := h
    rfl
  obtain ⟨wd, p, rs, M, rfl, hp, hM, hw, hwd, hw1, hl, hb, q⟩ := h
  have nd := sc_l_stairs.nd
  refine ⟨_, (pss_cons (ps_par (i := 2) (j := 3) rfl nd rfl rfl (by decide) rfl rfl (pa_cons (pe_lc (own := [("_law_line", 8)]) (g := (gName 8)) rfl nd (show PI _ _ _ (iList K _) from pi_list (pv 1)) (blkOk_by (own := [("_law_line", 8)]) (N := N_l_stairs) (sc := defScope s_l_stairs) (by decide +kernel)) (fun _ _ _ _ _ => by exact (pg_name (i := 8) nd rfl (Or.inl rfl))) (fun _ _ _ _ _ => by exact pts_nil) (fun _ _ _ _ _ => by exact (pe_callTy (show CallR _ _ (rListOf K) from call_list_of) (by rfl) T.z_list (by decide +kernel) (pa_cons (pv 8) pa_nil)))) (pa_cons (pe_lst pa_nil) pa_nil)) rfl)
    (pss_cons (ps_for PassesOwn.never rfl (pi_range1 (by rfl) T.z_range (pa_cons (pv 0) pa_nil)) (pg_name (i := 4) nd rfl (Or.inr rfl)) (pss_cons (ps_setLc (i := 5) (own := [("_law_line", 8)]) (g := (gName 8)) rfl nd rfl rfl (sw_true rfl rfl rfl (by decide +kernel)) (show PI _ _ _ (iList K _) from pi_list (pv 2)) (blkOk_by (own := [("_law_line", 8)]) (N := N_l_stairs) (sc := defScope s_l_stairs) (by decide +kernel)) (fun _ _ _ _ _ => by exact (pg_name (i := 8) nd rfl (Or.inl rfl))) (fun _ _ _ _ _ => by exact (pts_one (pt_cmpR op_ne (pe_ix (show IxR _ (rIxL K) from ix_list) (pv 8) (pv 4) (fun _ _ => rfl)) pe_int (nomark _)))) (fun _ _ _ _ _ => by exact (pv 8)))
    (pss_cons (ps_setLc (i := 2) (own := [("_law_line", 8)]) (g := (gName 8)) rfl nd rfl rfl (sw_true rfl rfl rfl (by decide +kernel)) (show PI _ _ _ (iList K _) from pi_list (pv 2)) (blkOk_by (own := [("_law_line", 8)]) (N := N_l_stairs) (sc := defScope s_l_stairs) (by decide +kernel)) (fun _ _ _ _ _ => by exact (pg_name (i := 8) nd rfl (Or.inl rfl))) (fun _ _ _ _ _ => by exact (pts_one (pt_cmpR op_eq (pe_ix (show IxR _ (rIxL K) from ix_list) (pv 8) (pv 4) (fun _ _ => rfl)) pe_int (nomark _)))) (fun _ _ _ _ _ => by exact (pv 8)))
    (pss_cons (ps_if (pt_cmpR (show OpR _ _ (rEqD K) from op_eqD hr.units) (pv 5) (pe_lst pa_nil) (nomark _)) (pss_one ps_continue) pss_nil)
    (pss_cons (ps_set (i := 6) nd rfl (Or.inl rfl) (pe_ix (show IxR _ (rIxL K) from ix_list) (pv 5) pe_int (fun _ _ => rfl)))
    (pss_cons (ps_for PassesOwn.never rfl (show PI _ _ _ (iList K _) from pi_list (pe_slice (show SlR _ (rSlL K) from sl_list) (pv 5) (po_some pe_int) po_none)) (pg_name (i := 7) nd rfl (Or.inl rfl)) (pss_cons (ps_set (i := 8) nd rfl (Or.inl rfl) (pv 7))
    (pss_cons (ps_while PassesOwn.never (pt_cmpR op_ne (pe_ix (show IxR _ (rIxL K) from ix_list) (pv 8) (pv 4) (fun _ _ => rfl)) pe_int (nomark _)) (pss_cons (ps_set (i := 9) nd rfl (Or.inr rfl) (pe_op (op_fdivB T.sees hP (roomB hr (by decide)) rfl rfl rfl) (pe_ix (show IxR _ (rIxL K) from ix_list) (pv 6) (pv 4) (fun _ _ => rfl)) (pe_ix (show IxR _ (rIxL K) from ix_list) (pv 8) (pv 4) (fun _ _ => rfl))))
    (pss_one (ps_par (i := 6) (j := 8) rfl nd rfl rfl (by decide) rfl rfl (pa_cons (pv 8) (pa_cons (pe_lc (own := [("_law_x", 12), ("_law_y", 13)]) (g := (gTup K 2 (gCons (gName 12) (gCons (gName 13) gNil)))) rfl nd (show PI _ _ _ (RZ.iZipA K _) from RZ.pi_zipA (by rfl) T.z_zip (pa_cons (pv 6) (pa_cons (pv 8) pa_nil))) (blkOk_by (own := [("_law_x", 12), ("_law_y", 13)]) (N := N_l_stairs) (sc := defScope s_l_stairs) (by decide +kernel)) (fun _ _ _ _ _ => by exact (pg_tup rfl (pgs_cons (pg_name (i := 12) nd rfl (Or.inl rfl)) (pgs_cons (pg_name (i := 13) nd rfl (Or.inl rfl)) pgs_nil)))) (fun _ _ _ _ _ => by exact pts_nil) (fun _ _ _ _ _ => by exact (pe_op op_sub (pv 12) (pe_op op_mulX (pv 9) (pv 13))))) pa_nil)) rfl))))
    (pss_one (ps_expr (pe_bm PySem.F.plainAttrs_list PySem.F.slot_list_append PySem.F.type_list_append mt_append (pv 2) (pa_cons (pv 8) pa_nil)))))))
    (pss_cut (ps_if (pt_cmpR op_lt (pe_ix (show IxR _ (rIxL K) from ix_list) (pv 6) (pv 4) (fun _ _ => rfl)) pe_int (nomark _)) (pss_one (ps_setLc (i := 6) (own := [("_law_x", 12)]) (g := (gName 12)) rfl nd rfl rfl (sw_true rfl rfl rfl (by decide +kernel)) (show PI _ _ _ (iList K _) from pi_list (pv 6)) (blkOk_by (own := [("_law_x", 12)]) (N := N_l_stairs) (sc := defScope s_l_stairs) (by decide +kernel)) (fun _ _ _ _ _ => by exact (pg_name (i := 12) nd rfl (Or.inl rfl))) (fun _ _ _ _ _ => by exact pts_nil) (fun _ _ _ _ _ => by exact (pe_un un_neg (pv 12))))) pss_nil)
    (pss_cons (ps_set (i := 10) nd rfl (Or.inl rfl) (pe_lst pa_nil))
    (pss_cons (ps_for PassesOwn.never rfl (show PI _ _ _ (iList K _) from pi_list (pv 3)) (pg_name (i := 11) nd rfl (Or.inl rfl)) (pss_cons (ps_set (i := 9) nd rfl (Or.inr rfl) (pe_op (op_fdivB T.sees hP (roomB hr (by decide)) rfl rfl rfl) (pe_ix (show IxR _ (rIxL K) from ix_list) (pv 11) (pv 4) (fun _ _ => rfl)) (pe_ix (show IxR _ (rIxL K) from ix_list) (pv 6) (pv 4) (fun _ _ => rfl))))
    (pss_one (ps_expr (pe_bm PySem.F.plainAttrs_list PySem.F.slot_list_append PySem.F.type_list_append mt_append (pv 10) (pa_cons (pe_lc (own := [("_law_x", 12), ("_law_y", 13)]) (g := (gTup K 2 (gCons (gName 12) (gCons (gName 13) gNil)))) rfl nd (show PI _ _ _ (RZ.iZipA K _) from RZ.pi_zipA (by rfl) T.z_zip (pa_cons (pv 11) (pa_cons (pv 6) pa_nil))) (blkOk_by (own := [("_law_x", 12), ("_law_y", 13)]) (N := N_l_stairs) (sc := defScope s_l_stairs) (by decide +kernel)) (fun _ _ _ _ _ => by exact (pg_tup rfl (pgs_cons (pg_name (i := 12) nd rfl (Or.inl rfl)) (pgs_cons (pg_name (i := 13) nd rfl (Or.inl rfl)) pgs_nil)))) (fun _ _ _ _ _ => by exact pts_nil) (fun _ _ _ _ _ => by exact (pe_op op_sub (pv 12) (pe_op op_mulX (pv 9) (pv 13))))) pa_nil))))))
    (pss_one (ps_set (i := 3) nd rfl (Or.inl rfl) (pe_op op_cat (pv 10) (pe_lst (pa_cons (pv 6) pa_nil))))))))))))))
    (pss_one (ps_ret (pv 3))))), ?_⟩
  have hst : L2.start N_l_stairs [.int (wd : Int), .ref p] = [some (.int (wd : Int)), some (.ref p), none, none, none, none, none, none, none, none, none, none, none, none] := rfl
  rw [hst]
  refine ⟨_, rfl, p, rfl, ⟨_, hp⟩, fun D hD => ?_⟩
  refine lcsD (walk_list (K := K) (a := p) (xs := rs)) (fun i y H => ∃ t row', y = V.ref t ∧ t ≠ D ∧ M[i]? = some row' ∧ H t = some (.lst (row'.map V.int))) (fun i y Ha Hb s ⟨t, row', a1, a2, a3, a4⟩ => ⟨t, row', a1, a2, a3, s _ _ a4⟩)
      (fun i y Ha zs zs' hz' ⟨t, row', a1, a2, a3, a4⟩ => ⟨t, row', a1, a2, a3, by rw [upd_ne a2]; exact a4⟩) (by have := hM.1; omega) hD (fun Ha s => s.seq hp) ?_ fun ys H1 hyl hys s1 hD1 => ?_
  · rintro n x Ha Hb hn sa' ⟨zs, hz⟩ ⟨rfl, hx⟩ k hk
    obtain ⟨tu, up, rfl, hup, huT⟩ := hM.2 n x hx
    refine ⟨rfl, _, rfl, tu, _, rfl, .inl (sa'.seq huT), fun R hR => hk _ _ (Same.new hR) ⟨R, up, rfl, (ne_of_none hz hR).symm, hup, upd_same⟩⟩
  have hyq : MatQ K H1 ys M := ⟨hyl.trans hM.1, fun i r hr => by
    obtain ⟨t, row', a1, a2, a3, a4⟩ := hys i r hr
    exact ⟨t, row', a1, a3, SqL.of a4⟩⟩
  refine ⟨by show 0 ≤ sizeLine; decide, fun F hF => ?_⟩
  have s2 := s1.trans (Same.new (o := .lst []) hF)
  have hD2 : (upd H1 F (.lst [])) D = some (.lst ys) := (Same.new hF) _ _ hD1
  have hq2 := hyq.same (Same.new (o := .lst []) hF)
  have hFn := s1.free hF
  have hF2 : (upd H1 F (.lst [])) F = some (.lst []) := upd_same
  generalize upd H1 F (.lst []) = H2 at *
  refine ⟨_, _, rfl, ?_⟩
  dsimp only [List.set_cons_succ, List.set_cons_zero]
  refine ⟨_, rfl, (wd : Int), rfl, by omega, by omega, for_range (lo := 0) (n := ((wd : Nat) : Int).toNat) (fun i σ H' => ∃ ra fa rq fq, (∃ b4 b5 b6 b7 b8 b9 b10 b11 b12 b13, σ = [some (.int (wd : Int)), some (.ref p), some (.ref ra), some (.ref fa), b4, b5, b6, b7, b8, b9, b10, b11, b12, b13]) ∧ Same H H' ∧ H fa = none ∧ H' ra = some (.lst rq) ∧ H' fa = some (.lst fq) ∧ MatQ K H' rq (lawN M i).2 ∧ MatQ K H' fq (settle [] (lawN M i).1)) ⟨D, F, ys, [], ⟨_, _, _, _, _, _, _, _, _, _, rfl⟩, s2, hFn, hD2, hF2, hq2, ⟨rfl, fun i r h => by cases h⟩⟩ ?_ ?_⟩
  · rintro i σ H3 hi ⟨ra, fa, rq, fq, ⟨b4, b5, b6, b7, b8, b9, b10, b11, b12, b13, rfl⟩, s3, hfn, hra, hfa, hrq, hfq⟩
    have hiw : i < wd := by omega
    have LI := lawN_ok hw i
    have LS := lawN_size hw hl hb i
    obtain ⟨so1, so2, so3, so4⟩ := law_sok LI LS hl
    have LS2 := lawN_size hw hl hb (i + 1)
    have LI2 := lawN_ok hw (i + 1)
    have e00 : (0 : Int) + (i : Int) = (i : Int) := Int.zero_add _
    rw [e00]
    have hcol : lawN M (i + 1) = lawCol i (lawN M i) := rfl
    rw [hcol] at LS2 LI2
    have hsokN := fun (h6 : SOk [] (lawCol i (lawN M i)).1) => h6
    have so5 := (law_sok (j := i + 1) (by rw [hcol]; exact LI2) (by rw [hcol]; exact LS2) hl).1
    rw [hcol] at so5 ⊢
    generalize lawN M i = s at *
    obtain ⟨L, R⟩ := s
    dsimp only at hrq hfq so1 so2 so3 so4
    have hlow := LI.low
    have hone := LS.two
    have hsum := LS.sum
    dsimp only at hlow hone hsum
    have hrl := hrq.1
    have hR6 : R.length ≤ 6 := by omega
    dsimp only [List.set_cons_succ, List.set_cons_zero, gName]
    refine ⟨_, rfl, ra, rfl, ⟨_, SqL.of hra⟩, fun D1 hD1 => ?_⟩
    refine lcfI (bs := R.map fun r => vecL r i != 0) (walk_list (K := K) (a := ra) (xs := rq)) (by rw [List.length_map, hrl]) (by omega) hD1 (fun Ha s => SqL.of (s _ _ hra)) ?_ fun H4 s4 hD14 => ?_
    · intro j x b Ha hx hbj s4 k1 k2 g1 g2
      obtain ⟨tr, row, rfl, hrow, hrT⟩ := hrq.2 j x hx
      have hrw := (hlow row (List.mem_of_getElem? hrow)).1
      rw [List.getElem?_map, hrow] at hbj
      obtain rfl := Option.some.inj hbj
      refine ⟨rfl, ⟨_, rfl, _, rfl, tr, _, _, _, rfl, rfl, s4.seq hrT, at_of (j := i) rfl (getD_map (by omega)), rfl, _, rfl, ?_⟩⟩
      by_cases z : row.getD i 0 = 0
      · refine iteF' (by rw [z]; rfl) (g1 ?_ _ (Same.refl _))
        show (row.getD i 0 != 0) = false
        rw [z]
        rfl
      · refine iteT' (by rw [decide_eq_false (fun y : V.int (row.getD i 0) = V.int 0 => z (by injection y))]; rfl) ⟨_, rfl, g2 ?_ _ (Same.refl _)⟩
        show (row.getD i 0 != 0) = true
        simpa using z
    have hD1n := s3.free hD1
    have hsome : MatQ K H4 (filtI (R.map fun r => vecL r i != 0) rq) (R.filter fun r => vecL r i != 0) := by
      have := (hrq.same s4).filtI (bs := R.map fun r => vecL r i != 0)
      rw [filtI_map] at this
      exact this
    have hra4 := s4 _ _ hra
    have hrq4 := hrq.same s4
    dsimp only [List.set_cons_succ, List.set_cons_zero, gName]
    refine ⟨_, rfl, ra, rfl, ⟨_, SqL.of hra4⟩, fun D2 hD2' => ?_⟩
    refine lcfI (bs := R.map fun r => vecL r i == 0) (walk_list (K := K) (a := ra) (xs := rq)) (by rw [List.length_map, hrl]) (by omega) hD2' (fun Ha s => SqL.of (s _ _ hra4)) ?_ fun H5 s5 hD25 => ?_
    · intro j x b Ha hx hbj s4 k1 k2 g1 g2
      obtain ⟨tr, row, rfl, hrow, hrT⟩ := hrq4.2 j x hx
      have hrw := (hlow row (List.mem_of_getElem? hrow)).1
      rw [List.getElem?_map, hrow] at hbj
      obtain rfl := Option.some.inj hbj
      refine ⟨rfl, ⟨_, rfl, _, rfl, tr, _, _, _, rfl, rfl, s4.seq hrT, at_of (j := i) rfl (getD_map (by omega)), rfl, _, rfl, ?_⟩⟩
      by_cases z : row.getD i 0 = 0
      · refine iteT' (by rw [z]; rfl) ⟨_, rfl, g2 ?_ _ (Same.refl _)⟩
        show (row.getD i 0 == 0) = true
        rw [z]
        rfl
      · refine iteF' (by rw [decide_eq_false (fun y : V.int (row.getD i 0) = V.int 0 => z (by injection y))]) (g1 ?_ _ (Same.refl _))
        show (row.getD i 0 == 0) = false
        simpa using z
    have s35 := s3.trans (s4.trans s5)
    have hD2n := (s3.trans s4).free hD2'
    have hrest : MatQ K H5 (filtI (R.map fun r => vecL r i == 0) rq) (R.filter fun r => vecL r i == 0) := by
      have := (hrq4.same s5).filtI (bs := R.map fun r => vecL r i == 0)
      rw [filtI_map] at this
      exact this
    have hsome5 := hsome.same s5
    have hfaD2 : fa ≠ D2 := ne_of_none (s4 _ _ hfa) hD2'
    have I5 : LsI K H H5 fa fq (settle [] L) D2 _ _ := ⟨s35, s5 _ _ (s4 _ _ hfa), hfq.same (s4.trans s5), hD25, hrest, hfaD2, hfn, hD2n⟩
    have hD15 := s5 _ _ hD14
    generalize filtI (R.map fun r => vecL r i != 0) rq = sq at *
    generalize filtI (R.map fun r => vecL r i == 0) rq = zq at *
    dsimp only [List.set_cons_succ, List.set_cons_zero, gName]
    refine ⟨_, rfl, by show 0 ≤ sizeLine; decide, fun E1 hE1 => ?_⟩
    have s6 := Same.new (o := .lst []) hE1
    refine ⟨dL (R.filter fun r => vecL r i != 0), dL [], dp_rows (SqL.of (s6 _ _ hD15)) (hsome5.same s6), dp_rows (SqL.of upd_same) ⟨rfl, fun i r h => by cases h⟩, dL_shaped _, dL_shaped _, _, rfl, ?_⟩
    rw [dL_eqv]
    have I6 := I5.to s6
    have hD16 := s6 _ _ hD15
    have hsome6 := hsome5.same s6
    generalize upd H5 E1 (.lst []) = H6 at *
    unfold lawCol at LS2 LI2 so5 ⊢
    dsimp only at LS2 LI2 so5 ⊢
    have hmemR : ∀ r ∈ R.filter (fun r => vecL r i != 0), r ∈ R ∧ vecL r i ≠ 0 := fun r hr => by
      obtain ⟨a, b⟩ := List.mem_filter.mp hr
      exact ⟨a, by simpa using b⟩
    have hposS : ∀ r ∈ settle [] L, 0 < r.length := fun r hr => by rw [so3 r hr]; exact hwd
    have hposZ : ∀ r ∈ R.filter (fun r => vecL r i == 0), r.length = wd := fun r hr => (hlow r (List.mem_filter.mp hr).1).1
    have hZ6 : (R.filter (fun r => vecL r i == 0)).length ≤ 6 := Nat.le_trans (List.length_filter_le ..) hR6
    generalize R.filter (fun r => vecL r i == 0) = Z at *
    cases hf : R.filter (fun r => vecL r i != 0) with
    | nil =>
      rw [hf] at LS2 LI2 so5
      dsimp only at LS2 LI2 so5 ⊢
      refine iteT' (decide_eq_true rfl) ?_
      exact ⟨D2, fa, zq, fq, ⟨_, _, _, _, _, _, _, _, _, _, rfl⟩, I6.same, hfn, I6.hra, I6.hfa, I6.hrr, I6.hfq⟩
    | cons h hs =>
      rw [hf] at LS2 LI2 so5 hsome6 hmemR
      dsimp only at LS2 LI2 so5 ⊢
      refine iteF' (decide_eq_false (by simp)) ?_
      cases sq with
      | nil => cases hsome6.1
      | cons r0 sq' =>
      obtain ⟨l0, h', rfl, he0, hl0⟩ := hsome6.2 0 r0 rfl
      obtain rfl : h = h' := Option.some.inj he0
      have hsq := hsome6.tail
      have hh := hmemR h List.mem_cons_self
      have hhw := (hlow h hh.1).1
      refine ⟨_, rfl, D1, _, _, _, rfl, rfl, SqL.of hD16, at_of (j := 0) rfl rfl, ?_⟩
      dsimp only [List.set_cons_succ, List.set_cons_zero, gName]
      refine ⟨_, rfl, _, rfl, D1, _, rfl, SqL.of hD16, fun p1 hp1 => ?_⟩
      rw [cut1]
      have hnp : p1 ≠ D2 := (ne_of_none I6.hra hp1).symm
      have s7 := Same.new (o := .lst sq') hp1
      have I7 := I6.to s7
      have hp17 : (upd H6 p1 (.lst sq')) p1 = some (.lst sq') := upd_same
      have hsq7 := hsq.same s7
      have hl07 := s7.seq hl0
      generalize upd H6 p1 (.lst sq') = H7 at *
      generalize hg : Gq L.length = g at *
      have hg6 : g ≤ 6200000 ∧ 6 * (g + 2) ≤ 38000000 := by
        have h6 : L.length ≤ 6 := by omega
        have := Gq_up h6
        have := Gq6
        omega
      have hs6 : hs.length ≤ 6 := by
        have e : (R.filter fun r => vecL r i != 0).length ≤ R.length := List.length_filter_le ..
        rw [hf, List.length_cons] at e
        omega
      refine ⟨p1, rfl, ⟨_, SqL.of hp17⟩, for_it (walk_list (K := K) (a := p1) (xs := sq')) (fun k σ' H' => ∃ la ld dn xs, (∃ b7 b8 b9, σ' = [some (.int (wd : Int)), some (.ref p), some (.ref D2), some (.ref fa), some (.int (i : Int)), some (.ref D1), some (.ref la), b7, b8, b9, b10, b11, b12, b13]) ∧ LsI K H H' fa fq (settle [] L) D2 xs (Z ++ dn) ∧ SqL K H' la (ld.map V.int) ∧ ld.length = wd ∧ EB (2 ^ (g + k * (g + 2))) ld ∧ H' p1 = some (.lst sq') ∧ MatQ K H' sq' hs ∧ (∀ r ∈ dn, r.length = wd) ∧ dn.length = k ∧ eucCol i h hs = ((eucCol i ld (hs.drop k)).1, dn ++ (eucCol i ld (hs.drop k)).2)) ⟨l0, h, [], zq, ⟨_, _, _, rfl⟩, by rw [List.append_nil]; exact I7, hl07, hhw, by rw [Nat.zero_mul]; exact hone h hh.1, hp17, hsq7, fun r hr => (by cases hr), rfl, rfl⟩ (fun _ _ _ _ z => by obtain ⟨_, _, _, _, _, _, _, _, _, z, _⟩ := z; exact SqL.of z) ?_ ?_⟩
      · rintro k x σ' Ha Hb hk ⟨la, ld, dn, xs, ⟨b7', b8', b9', rfl⟩, IL, hla, hld, hle, hpa, hsa, hdn, hdl, hcol⟩ ⟨rfl, hx⟩
        obtain ⟨ta, row, rfl, hrow, hrT⟩ := hsa.2 k x hx
        have hrR := hmemR row (List.mem_cons_of_mem _ (List.mem_of_getElem? hrow))
        have hrw := (hlow row hrR.1).1
        have hkh : k < hs.length := (List.getElem?_eq_some_iff.mp hrow).1
        have hdr : hs.drop k = row :: hs.drop (k + 1) := by
          rw [List.drop_eq_getElem_cons hkh]
          congr 1
          rw [List.getElem?_eq_getElem hkh] at hrow
          exact Option.some.inj hrow
        rw [hdr] at hcol
        have hpb := PBt.start (l := i) hle (hone row hrR.1)
        have hke : g + k * (g + 2) + (g + 2) ≤ 60000000 := by
          have : (k + 1) * (g + 2) ≤ 6 * (g + 2) := Nat.mul_le_mul_right _ (by omega)
          have e : (k + 1) * (g + 2) = k * (g + 2) + (g + 2) := Nat.succ_mul ..
          omega
        generalize he : g + k * (g + 2) + (g + 2) = e at *
        dsimp only [List.set_cons_succ, List.set_cons_zero, gName]
        refine ⟨_, rfl, ?_⟩
        dsimp only [List.set_cons_succ, List.set_cons_zero, gName]
        refine ⟨fun m σ' H' => ∃ rw' vc ra va, m = (vecL vc i).natAbs ∧ (∃ b9, σ' = [some (.int (wd : Int)), some (.ref p), some (.ref D2), some (.ref fa), some (.int (i : Int)), some (.ref D1), some (.ref ra), some (.ref ta), some (.ref va), b9, b10, b11, b12, b13]) ∧ Same Hb H' ∧ SqL K H' ra (rw'.map V.int) ∧ SqL K H' va (vc.map V.int) ∧ rw'.length = wd ∧ vc.length = wd ∧ PBt i (2 ^ e) rw' vc ∧ dvd2 i (vecL row i).natAbs ld row = dvd2 i (vecL vc i).natAbs rw' vc, ⟨_, ld, row, la, ta, rfl, ⟨_, rfl⟩, Same.refl _, hla, hrT, hld, hrw, hpb, rfl⟩, ?_⟩
        rintro m σ' Hc ⟨rw', vc, ra', va, rfl, ⟨b9'', rfl⟩, sc, hra', hva, hl1, hl2, hp2, hdv⟩
        refine ⟨_, rfl, _, rfl, va, _, _, _, rfl, rfl, hva, at_of (j := i) rfl (getD_map (by omega)), rfl, ?_⟩
        by_cases hz0 : vecL vc i = 0
        · refine ⟨false, congrArg V.bl (by rw [decide_eq_true (show V.int (vc.getD i 0) = V.int 0 from congrArg V.int hz0)]; rfl), ?_⟩
          rw [dvd2_end hz0] at hdv
          have IC := IL.to sc
          refine ⟨_, rfl, .inl ⟨rfl, _, SqL.of IC.hra⟩, _, rfl, D2, xs, V.ref va, rfl, rfl, IC.hra, ?_, ?_⟩
          · have := IC.hrr.1
            rw [List.length_append] at this
            exact Nat.lt_of_le_of_lt (by omega : xs.length ≤ 1000) (by decide)
          have hposD : ∀ r ∈ Z ++ dn, 0 < r.length := fun r hr => by
            rcases List.mem_append.mp hr with z | z
            · rw [hposZ r z]
              exact hwd
            · rw [hdn r z]
              exact hwd
          refine ⟨ra', rw', dn ++ [vc], xs ++ [.ref va], ⟨_, _, _, rfl⟩, by rw [← List.append_assoc]; exact IC.app hva hposS hposD (by omega), hra'.updL IC.hra (row_ne (by omega) IC.hrr), hl1, ?_, by rw [upd_ne hnp]; exact sc _ _ hpa, (hsa.same sc).updL (fun r hr => by rw [(hlow r (hmemR r (List.mem_cons_of_mem _ hr)).1).1]; exact hwd) IC.hra IC.hrr, fun r hr => ?_, by rw [List.length_append, hdl]; rfl, ?_⟩
          · have e1 : g + (k + 1) * (g + 2) = e := by
              have : (k + 1) * (g + 2) = k * (g + 2) + (g + 2) := Nat.succ_mul ..
              omega
            rw [e1]
            exact hp2.eb.1
          · rcases List.mem_append.mp hr with z | z
            · exact hdn r z
            · rw [List.mem_singleton.mp z]
              exact hl2
          · rw [hcol]
            rw [eucCol_cons, hdv, List.append_assoc]
            rfl
        · refine ⟨true, congrArg V.bl (by rw [decide_eq_false (fun z : V.int (vc.getD i 0) = V.int 0 => hz0 (by injection z))]; rfl), ?_⟩
          have vz : vc.getD i 0 ≠ 0 := hz0
          have hrv : rw'.length = vc.length := hl1.trans hl2.symm
          refine ⟨fun σ' H' => ∃ rw2 vc2 ra va, (vecL vc2 i).natAbs < (vecL vc i).natAbs ∧ (∃ b9, σ' = [some (.int (wd : Int)), some (.ref p), some (.ref D2), some (.ref fa), some (.int (i : Int)), some (.ref D1), some (.ref ra), some (.ref ta), some (.ref va), b9, b10, b11, b12, b13]) ∧ Same Hb H' ∧ SqL K H' ra (rw2.map V.int) ∧ SqL K H' va (vc2.map V.int) ∧ rw2.length = wd ∧ vc2.length = wd ∧ PBt i (2 ^ e) rw2 vc2 ∧ dvd2 i (vecL row i).natAbs ld row = dvd2 i (vecL vc2 i).natAbs rw2 vc2, fun σ' H' ⟨rw2, vc2, ra, va, h1, h2, h3⟩ => ⟨_, h1, rw2, vc2, ra, va, rfl, h2, h3⟩, ?_⟩
          refine ⟨_, rfl, _, rfl, ra', _, _, _, rfl, rfl, hra', at_of (j := i) rfl (getD_map (by omega)), _, rfl, _, rfl, va, _, _, _, rfl, rfl, hva, at_of (j := i) rfl (getD_map (by omega)), _, _, rfl, rfl, vz, ?_⟩
          dsimp only [List.set_cons_succ, List.set_cons_zero, gName]
          have hnq := fdiv_abs (a := rw'.getD i 0) vz
          have hra2 : (rw'.getD i 0).natAbs ≤ 2 ^ e := hp2.eb.1.at i
          have hvb := eb_lt hp2.eb.2
          have hqb : ((rw'.getD i 0).fdiv (vc.getD i 0)).natAbs < 2 ^ (e + 2) := by
            have a2 : (2 : Nat) ^ (e + 2) = 2 ^ e * 4 := by rw [Nat.pow_add]
            have a3 : 0 < 2 ^ e := Nat.pow_pos (by decide)
            omega
          refine ⟨_, rfl, _, rfl, _, rfl, ra', va, _, _, rfl, .inl ⟨hra', hva, fun E2 hE2 => ?_⟩⟩
          refine lc_zipLS (f := fun x y => x - (rw'.getD i 0).fdiv (vc.getD i 0) * y) hra' hva hrv (by omega) hE2 (fun u v => rfl) (fun u v H5 kk s5 hu hv hkk => ?_) fun Hd sd hEd => ?_
          · exact ⟨_, rfl, _, rfl, _, rfl, _, _, rfl, rfl, mulx_ok hqb (hvb v hv) (by omega), _, _, rfl, rfl, hkk⟩
          · refine ⟨_, _, rfl, vc, lessL rw' ((vecL rw' i).fdiv (vecL vc i)) vc, va, E2, dvd2_lt hrv hz0, ⟨_, rfl⟩, sc.trans sd, sd.seq hva, SqL.of hEd, hl2, ?_, hp2.step hrv hz0, ?_⟩
            · rw [less_len hrv, hl1]
            · rw [hdv, dvd2_step hrv hz0]
      · rintro σ' Ha ⟨la, ld, dn, xs, ⟨b7', b8', b9', rfl⟩, IL, hla, hld, hle, hpa, hsa, hdn, hdl, hcol⟩
        rw [hsq.1, List.drop_length] at hcol
        have hcol : eucCol i h hs = (ld, dn) := by
          rw [hcol]
          show (ld, dn ++ []) = (ld, dn)
          rw [List.append_nil]
        rw [hcol] at LS2 LI2 so5 ⊢
        dsimp only at LS2 LI2 so5 ⊢
        have LLI := LI2.ech [] trivial
        dsimp only at LLI
        rw [List.append_nil] at LLI
        have hlenL := LI2.len
        have honeL := LS2.one
        have hsumL := LS2.sum
        dsimp only at hlenL honeL hsumL
        have hldm : ld ∈ L ++ [ld] := List.mem_append_right _ List.mem_cons_self
        obtain ⟨elow, _, _⟩ := eucCol_ok (w := wd) hs h (hlow h hh.1) (fun r hr => hlow r (hmemR r (List.mem_cons_of_mem _ hr)).1)
        have ehd := euc_head (w := wd) hs h (hlow h hh.1) (fun r hr => hlow r (hmemR r (List.mem_cons_of_mem _ hr)).1) hh.2
        rw [hcol] at elow ehd
        dsimp only at elow ehd
        have hlead : leadOf ld = some i := lead_at elow.2 ehd
        have hdl2 : (leadOf ld).getD 0 = i := by rw [hlead]; rfl
        have hsnoc := settle_snoc L [] ld
        have hcm := sok_snoc L [] ld so5
        rw [hdl2] at hcm
        refine ⟨fun σ' H' => ∃ tr', (∃ b12 b13, σ' = [some (.int (wd : Int)), some (.ref p), some (.ref D2), some (.ref fa), some (.int (i : Int)), some (.ref D1), some (.ref tr'), b7', b8', b9', b10, b11, b12, b13]) ∧ Same Ha H' ∧ SqL K H' tr' ((nrm ld).map V.int), ?_, ?_⟩
        · refine ⟨_, rfl, _, rfl, la, _, _, _, rfl, rfl, hla, at_of (j := i) rfl (getD_map (by omega)), ⟨_, _, rfl, rfl, _, rfl, ?_⟩⟩
          refine ite2 (fun c => ?_) (fun c => ?_)
          · have c' : ld.getD i 0 < 0 := of_decide_eq_true c
            have hn : nrm ld = ld.map (- ·) := by
              unfold nrm
              rw [hdl2]
              exact if_pos c'
            refine ⟨_, rfl, la, rfl, ⟨_, hla⟩, fun E3 hE3 => ?_⟩
            refine lc_mapL (f := fun a => -a) hla (by omega) hE3 (fun u => rfl) (fun u H6 kk hu hk => ⟨_, rfl, _, rfl, hk⟩) fun Hc sc hEc => ?_
            exact ⟨E3, ⟨_, _, rfl⟩, sc, by rw [hn]; exact SqL.of hEc⟩
          · have c' : ¬ ld.getD i 0 < 0 := fun z => c (decide_eq_true z)
            have hn : nrm ld = ld := by
              unfold nrm
              rw [hdl2]
              exact if_neg c'
            exact ⟨la, ⟨_, _, rfl⟩, Same.refl _, by rw [hn]; exact hla⟩
        rintro σ' Hc ⟨tr', ⟨b12', b13', rfl⟩, sc, htr⟩
        have IC := IL.to sc
        have hnl : (nrm ld).length = wd := (nrm_len ld).trans hld
        have hnz : vecL (nrm ld) i ≠ 0 := nrm_lead hlead
        refine ⟨by show 0 ≤ sizeLine; decide, fun F2 hF2 => ?_⟩
        have hF2n := IC.same.free hF2
        have s8 := Same.new (o := .lst []) hF2
        have I8 := IC.to s8
        have htr8 := s8.seq htr
        have hF28 : (upd Hc F2 (.lst [])) F2 = some (.lst []) := upd_same
        have hneF : fa ≠ F2 := ne_of_none IC.hfa hF2
        have hneR : D2 ≠ F2 := ne_of_none IC.hra hF2
        generalize upd Hc F2 (.lst []) = H8 at *
        dsimp only [List.set_cons_succ, List.set_cons_zero, gName]
        have hfl := IC.hfq.1
        refine ⟨_, rfl, fa, rfl, ⟨_, SqL.of I8.hfa⟩, for_it (walk_list (K := K) (a := fa) (xs := fq)) (fun k σ' H' => ∃ lq, (∃ b9 b11 b12 b13, σ' = [some (.int (wd : Int)), some (.ref p), some (.ref D2), some (.ref fa), some (.int (i : Int)), some (.ref D1), some (.ref tr'), b7', b8', b9, some (.ref F2), b11, b12, b13]) ∧ LsI K H H' fa fq (settle [] L) D2 xs (Z ++ dn) ∧ SqL K H' tr' ((nrm ld).map V.int) ∧ H' F2 = some (.lst lq) ∧ MatQ K H' lq (((settle [] L).take k).map (redR ld))) ⟨[], ⟨_, _, _, _, rfl⟩, I8, htr8, hF28, ⟨rfl, fun i r h => by cases h⟩⟩ (fun _ _ _ _ z => by obtain ⟨_, _, z, _⟩ := z; exact SqL.of z.hfa) ?_ ?_⟩
        · rintro k x σ' Hd He hk ⟨lq, ⟨b9, b11', b12', b13', rfl⟩, ID, htrD, hFD, hlq⟩ ⟨rfl, hx⟩
          obtain ⟨tu, up, rfl, hup, huT⟩ := ID.hfq.2 k x hx
          have hum := List.mem_of_getElem? hup
          have hul := so3 up hum
          have hkl := (List.getElem?_eq_some_iff.mp hup).1
          dsimp only [List.set_cons_succ, List.set_cons_zero, gName]
          refine ⟨_, rfl, _, rfl, tu, _, _, _, rfl, rfl, huT, at_of (j := i) rfl (getD_map (by omega)), _, rfl, _, rfl, tr', _, _, _, rfl, rfl, htrD, at_of (j := i) rfl (getD_map (by omega)), _, _, rfl, rfl, hnz, ?_⟩
          dsimp only [List.set_cons_succ, List.set_cons_zero, gName]
          refine ⟨_, rfl, .inl ⟨rfl, _, SqL.of hFD⟩, ?_⟩
          refine ⟨_, rfl, _, rfl, tu, tr', _, _, rfl, .inl ⟨huT, htrD, fun E4 hE4 => ?_⟩⟩
          refine lc_zipLS (f := fun x y => x - (up.getD i 0).fdiv ((nrm ld).getD i 0) * y) huT htrD (by omega) (by omega) hE4 (fun u v => rfl) (fun u v H5 kk s5 hu hv hkk => ?_) fun Hf sf hEf => ?_
          · exact ⟨_, rfl, _, rfl, _, rfl, _, _, rfl, rfl, hcm up hum v hv, _, _, rfl, rfl, hkk⟩
          · have hFf := sf _ _ hFD
            have IF := ID.to sf
            have hlqf := hlq.same sf
            refine ⟨F2, lq, V.ref E4, rfl, rfl, hFf, ?_, ?_⟩
            · have := hlq.1
              rw [List.length_map, List.length_take] at this
              exact Nat.lt_of_le_of_lt (by omega : lq.length ≤ 1000) (by decide)
            have hposL : ∀ r ∈ ((settle [] L).take k).map (redR ld), 0 < r.length := fun r hr => by
              obtain ⟨u, hu, rfl⟩ := List.mem_map.mp hr
              have := so3 u (List.mem_of_mem_take hu)
              unfold redR
              rw [less_len (by omega)]
              omega
            have hposD : ∀ r ∈ Z ++ dn, 0 < r.length := fun r hr => by
              rcases List.mem_append.mp hr with z | z
              · rw [hposZ r z]
                exact hwd
              · rw [hdn r z]
                exact hwd
            refine ⟨lq ++ [.ref E4], ⟨_, _, _, _, rfl⟩, ⟨IF.same.upd_new hF2n, by rw [upd_ne hneF]; exact IF.hfa, IF.hfq.updL hposS hFf hlqf, by rw [upd_ne hneR]; exact IF.hra, IF.hrr.updL hposD hFf hlqf, IF.ne, IF.hfn, IF.hrn⟩, (sf.seq htrD).updL hFf (row_ne (by omega) hlqf), upd_same, ?_⟩
            have et : ((settle [] L).take (k + 1)).map (redR ld) = ((settle [] L).take k).map (redR ld) ++ [redR ld up] := by
              rw [List.take_succ, hup, List.map_append]
              rfl
            rw [et]
            refine (hlqf.updL hposL hFf hlqf).snoc (SqL.of (?_ : _ = some (HO.lst ((redR ld up).map V.int))))
            rw [upd_ne (ne_of_none hFD hE4).symm, hEf]
            unfold redR
            rw [hdl2]
            rfl
        · rintro σ' Hd ⟨lq, ⟨b9, b11', b12', b13', rfl⟩, ID, htrD, hFD, hlq⟩
          rw [hfl, List.take_length] at hlq
          refine ⟨_, rfl, _, rfl, by show 1 ≤ sizeLine; decide, fun L2 hL2 => ?_⟩
          have s9 := Same.new (o := .lst [V.ref tr']) hL2
          refine ⟨F2, L2, lq, [V.ref tr'], rfl, rfl, s9 _ _ hFD, upd_same, ?_, fun R2 hR2 => ?_⟩
          · have := hlq.1
            rw [List.length_map] at this
            exact Nat.le_of_lt (Nat.lt_of_le_of_lt (by show lq.length + 1 ≤ 1000; omega) (by decide))
          have s10 := Same.new (o := .lst (lq ++ [V.ref tr'])) hR2
          have s11 := s9.trans s10
          have I11 := ID.to s11
          refine ⟨D2, R2, xs, lq ++ [V.ref tr'], ⟨_, _, _, _, _, _, _, _, _, _, rfl⟩, I11.same, ?_, I11.hra, upd_same, I11.hrr, ?_⟩
          · exact (ID.same.trans s9).free hR2
          · rw [hsnoc]
            exact (hlq.same s11).snoc (s11.seq htrD)
  · rintro σ H3 ⟨ra, fa, rq, fq, ⟨b4, b5, b6, b7, b8, b9, b10, b11, b12, b13, rfl⟩, s3, hfn, hra, hfa, hrq, hfq⟩
    rw [Int.toNat_natCast, law_stairs hw] at hfq
    exact ⟨_, rfl, q fa fq _ s3 hfn hfa hfq⟩
end
end TL
namespace TL
open PySem L2

/-! ### steps of a reading -/
local macro_rules | `(tactic| walk_at "hp") => `(tactic| first | assumption | exact upd_same | (refine (upd_ne (by first | assumption | (exact Ne.symm (by assumption)))).trans ?_; walk_at "hp"))
local macro_rules | `(tactic| walk_at "ok") => `(tactic| first | (exact Or.inr ⟨by decide, by decide⟩) | (exact ⟨by decide, by decide⟩) | (exact ⟨by decide, by decide, by decide⟩) | (show _ ≠ _; omega) | (show _ ≠ _; decide) | (exact Or.inl ⟨by omega, by omega⟩) | decide)
local macro_rules | `(tactic| walk_at "sq") => `(tactic| first | assumption | exact SqL.of (by walk_at "hp") | exact SqT.of (by walk_at "hp"))
local macro_rules | `(tactic| walk_at "ty") => `(tactic| first | refine ⟨_, _, Value.type "int", Value.type "list", false, rfl, ClsV.ty _, TyX.base (TyOf.int _), kt_int_list, ?_⟩ | refine ⟨_, _, Value.type "bool", Value.type "list", false, rfl, ClsV.ty _, TyX.base (TyOf.bl _), kt_bool_list, ?_⟩ | refine ⟨_, _, Value.type "str", Value.type "list", false, rfl, ClsV.ty _, TyX.base (TyOf.str _), kt_str_list, ?_⟩ | refine ⟨_, _, Value.type "NoneType", Value.type "list", false, rfl, ClsV.ty _, TyX.base TyOf.non, kt_NoneType_list, ?_⟩ | refine ⟨_, _, Value.type "list", Value.type "list", true, rfl, ClsV.ty _, tyx_L (by walk_at "sq"), kt_list_list, ?_⟩ | refine ⟨_, _, Value.type "tuple", Value.type "list", false, rfl, ClsV.ty _, tyx_T (by walk_at "sq"), kt_tuple_list, ?_⟩ | refine ⟨_, _, Value.type "int", Value.type "tuple", false, rfl, ClsV.ty _, TyX.base (TyOf.int _), kt_int_tuple, ?_⟩ | refine ⟨_, _, Value.type "bool", Value.type "tuple", false, rfl, ClsV.ty _, TyX.base (TyOf.bl _), kt_bool_tuple, ?_⟩ | refine ⟨_, _, Value.type "str", Value.type "tuple", false, rfl, ClsV.ty _, TyX.base (TyOf.str _), kt_str_tuple, ?_⟩ | refine ⟨_, _, Value.type "NoneType", Value.type "tuple", false, rfl, ClsV.ty _, TyX.base TyOf.non, kt_NoneType_tuple, ?_⟩ | refine ⟨_, _, Value.type "list", Value.type "tuple", false, rfl, ClsV.ty _, tyx_L (by walk_at "sq"), kt_list_tuple, ?_⟩ | refine ⟨_, _, Value.type "tuple", Value.type "tuple", true, rfl, ClsV.ty _, tyx_T (by walk_at "sq"), kt_tuple_tuple, ?_⟩ | refine ⟨_, _, Value.type "int", Value.type "bool", false, rfl, ClsV.ty _, TyX.base (TyOf.int _), kt_int_bool, ?_⟩ | refine ⟨_, _, Value.type "bool", Value.type "bool", true, rfl, ClsV.ty _, TyX.base (TyOf.bl _), kt_bool_bool, ?_⟩ | refine ⟨_, _, Value.type "str", Value.type "bool", false, rfl, ClsV.ty _, TyX.base (TyOf.str _), kt_str_bool, ?_⟩ | refine ⟨_, _, Value.type "NoneType", Value.type "bool", false, rfl, ClsV.ty _, TyX.base TyOf.non, kt_NoneType_bool, ?_⟩ | refine ⟨_, _, Value.type "list", Value.type "bool", false, rfl, ClsV.ty _, tyx_L (by walk_at "sq"), kt_list_bool, ?_⟩ | refine ⟨_, _, Value.type "tuple", Value.type "bool", false, rfl, ClsV.ty _, tyx_T (by walk_at "sq"), kt_tuple_bool, ?_⟩ | refine ⟨_, _, Value.type "int", Value.type "int", true, rfl, ClsV.ty _, TyX.base (TyOf.int _), kt_int_int, ?_⟩ | refine ⟨_, _, Value.type "bool", Value.type "int", true, rfl, ClsV.ty _, TyX.base (TyOf.bl _), kt_bool_int, ?_⟩ | refine ⟨_, _, Value.type "str", Value.type "int", false, rfl, ClsV.ty _, TyX.base (TyOf.str _), kt_str_int, ?_⟩ | refine ⟨_, _, Value.type "NoneType", Value.type "int", false, rfl, ClsV.ty _, TyX.base TyOf.non, kt_NoneType_int, ?_⟩ | refine ⟨_, _, Value.type "list", Value.type "int", false, rfl, ClsV.ty _, tyx_L (by walk_at "sq"), kt_list_int, ?_⟩ | refine ⟨_, _, Value.type "tuple", Value.type "int", false, rfl, ClsV.ty _, tyx_T (by walk_at "sq"), kt_tuple_int, ?_⟩ | refine ⟨_, _, Value.type "int", Value.type "str", false, rfl, ClsV.ty _, TyX.base (TyOf.int _), kt_int_str, ?_⟩ | refine ⟨_, _, Value.type "bool", Value.type "str", false, rfl, ClsV.ty _, TyX.base (TyOf.bl _), kt_bool_str, ?_⟩ | refine ⟨_, _, Value.type "str", Value.type "str", true, rfl, ClsV.ty _, TyX.base (TyOf.str _), kt_str_str, ?_⟩ | refine ⟨_, _, Value.type "NoneType", Value.type "str", false, rfl, ClsV.ty _, TyX.base TyOf.non, kt_NoneType_str, ?_⟩ | refine ⟨_, _, Value.type "list", Value.type "str", false, rfl, ClsV.ty _, tyx_L (by walk_at "sq"), kt_list_str, ?_⟩ | refine ⟨_, _, Value.type "tuple", Value.type "str", false, rfl, ClsV.ty _, tyx_T (by walk_at "sq"), kt_tuple_str, ?_⟩)
local macro_rules | `(tactic| walk_at "go1") => `(tactic| first
  | (refine ⟨_, rfl, ?_⟩)
  | (refine ⟨_, _, rfl, rfl, ?_⟩)
  | (refine ⟨_, _, _, _, rfl, rfl, SqL.of (by walk_at "hp"), rfl, ?_⟩)
  | (refine Or.inl ⟨_, rfl, ?_⟩)
  | (refine ⟨rfl, ?_⟩)
  | (refine ⟨_, _, rfl, .inl (SqL.of (by walk_at "hp")), ?_⟩)
  | (refine ⟨_, _, rfl, Or.inl (by assumption), ?_⟩)
  | (refine ⟨_, _, rfl, Or.inr (by assumption), ?_⟩)
  | (refine ⟨(by walk_at "ok"), ?_⟩)
  | (refine ⟨_, _, _, _, rfl, rfl, (by walk_at "hp"), rfl, ?_⟩))
local macro_rules | `(tactic| walk_at "go") => `(tactic| repeat (walk_at "go1"))
local macro_rules | `(tactic| walk_at "gt") => `(tactic| repeat (first | walk_at "go1" | walk_at "ty"))

section
variable {P : Program} {w : World} {K : PySem.W.Frag} {mg : Str → Option Value} {base : Heap}
def spIsNum : Sp := fun vs H Q _ => ∃ n, vs = [.int n] ∧ Q (.bl true) H
theorem ok_is_number (T : Tx K mg) : FnOk P w K mg base CX0 1 T.f_is_number T.d_is_number ["value"] spIsNum := by
  refine T.F_is_number.ok sc_is_number (fun vs H Q E h => ?_) (fun cdv A outer s H vs Q E hr h => ?_)
  · obtain ⟨n, rfl, _⟩ := h
    rfl
  obtain ⟨n, rfl, q⟩ := h
  refine ⟨_, (pss_one (ps_ret (pe_and (pe_callB (show CallR _ _ (rIsi K) from call_isi) (by rfl) T.z_isinstance (by decide +kernel) (pa_cons (pv 0) (pa_cons (pe_bltn (v := .ty "int") (u := .type "int") (by rfl) T.z_int (by decide +kernel) rfl) pa_nil))) (pe_one (pe_not (pe_callB (show CallR _ _ (rIsi K) from call_isi) (by rfl) T.z_isinstance (by decide +kernel) (pa_cons (pv 0) (pa_cons (pe_bltn (v := .ty "bool") (u := .type "bool") (by rfl) T.z_bool (by decide +kernel) rfl) pa_nil)))))))), ?_⟩
  walk_at "gt"
  exact q
def spIsListed (K : PySem.W.Frag) : Sp := fun vs H Q _ => ∃ a xs, vs = [.ref a] ∧ Sq K H a xs ∧ ∀ H', Same H H' → Q (.bl true) H'
theorem kit_l : PySem.W.kitAny K (.type "list") [.type "list", .type "tuple"] = some true := kitAny_cons kt_list_list (fun z => nomatch z) (fun _ => rfl)
theorem kit_t : PySem.W.kitAny K (.type "tuple") [.type "list", .type "tuple"] = some true := kitAny_cons kt_tuple_list (fun _ => kitAny_cons kt_tuple_tuple (fun z => nomatch z) (fun _ => rfl)) (fun _ => rfl)
theorem ok_is_listed (T : Tx K mg) : FnOk P w K mg base CX0 1 T.f_is_listed T.d_is_listed ["value"] (spIsListed K) := by
  refine T.F_is_listed.ok sc_is_listed (fun vs H Q E h => ?_) (fun cdv A outer s H vs Q E hr h => ?_)
  · obtain ⟨a, xs, rfl, _⟩ := h
    rfl
  obtain ⟨a, xs, rfl, hS, q⟩ := h
  refine ⟨_, (pss_one (ps_ret (pe_callB (show CallR _ _ (rIsiT K) from call_isiT) (by rfl) T.z_isinstance (by decide +kernel) (pa_cons (pv 0) (pa_cons (pe_tup (pa_cons (pe_bltn (v := .ty "list") (u := .type "list") (by rfl) T.z_list (by decide +kernel) rfl) (pa_cons (pe_bltn (v := .ty "tuple") (u := .type "tuple") (by rfl) T.z_tuple (by decide +kernel) rfl) pa_nil))) pa_nil))))), ?_⟩
  refine ⟨_, rfl, (by show 2 ≤ sizeLine; decide), fun p hp => ?_⟩
  have s1 : Same H (upd H p (.tup [.ty "list", .ty "tuple"])) := Same.new hp
  rcases hS with h | h
  · exact ⟨_, p, _, .type "list", [.type "list", .type "tuple"], true, rfl, upd_same, .cons (.ty _) (.cons (.ty _) .nil), tyx_L (s1.seq h), kit_l, q _ s1⟩
  · exact ⟨_, p, _, .type "tuple", [.type "list", .type "tuple"], true, rfl, upd_same, .cons (.ty _) (.cons (.ty _) .nil), tyx_T (seqT s1 h), kit_t, q _ s1⟩
def spAreNums (K : PySem.W.Frag) : Sp := fun vs H Q _ => ∃ (a : Addr) (ns : List Int), vs = [.ref a, .int (ns.length : Int)] ∧ Sq K H a (ns.map V.int) ∧ ns.length ≤ 1000 ∧ ∀ H', Same H H' → Q (.bl true) H'
theorem len_map {ns : List Int} : (ns.map V.int).length = ns.length := List.length_map _
theorem ok_are_numbers (T : Tx K mg) : FnOk P w K mg base CX0 2 T.f_are_numbers T.d_are_numbers ["value", "many"] (spAreNums K) := by
  have G_is_number := ok_is_number (P := P) (w := w) (base := base) T
  have G_is_listed := ok_is_listed (P := P) (w := w) (base := base) T
  refine T.F_are_numbers.ok sc_are_numbers (fun vs H Q E h => ?_) (fun cdv A outer s H vs Q E hr h => ?_)
  · obtain ⟨a, ns, rfl, _⟩ := h
    rfl
  obtain ⟨a, ns, rfl, hS, hz, q⟩ := h
  have nd := sc_are_numbers.nd
  rcases hS with hS | hS
  · refine ⟨_, (pss_cons (ps_if (PW.pt (pw_or (pt_not (pt_val (pe_call G_is_listed hr (by rfl) T.m_is_listed T.F_is_listed.kp T.b_is_listed .nil pass0 (pa_cons (pv 0) pa_nil)))) (pw_or1 (pt_cmpR op_ne (pe_callB (show CallR _ _ (rLenSq K) from call_len_seq) (by rfl) T.z_len (by decide +kernel) (pa_cons (pv 0) pa_nil)) (pv 1) (nomark _))))) (pss_one (ps_ret pe_bl)) pss_nil)
    (pss_one (ps_ret (pe_callB (show CallR _ _ (rAll K) from cr_all rfl) (by rfl) T.z_all (by decide +kernel) (pa_cons (pe_lc (own := [("item", 2)]) (g := (gName 2)) rfl nd (show PI _ _ _ (iList K _) from pi_list (pv 0)) (blkOk_by (own := [("item", 2)]) (N := N_are_numbers) (sc := defScope s_are_numbers) (by decide +kernel)) (fun _ _ _ _ _ => by exact (pg_name (i := 2) nd rfl (Or.inl rfl))) (fun _ _ _ _ _ => by exact pts_nil) (fun _ _ _ _ _ => by exact (pe_call G_is_number hr (by rfl) T.m_is_number T.F_is_number.kp T.b_is_number .nil pass0 (pa_cons (pv 2) pa_nil)))) pa_nil))))), ?_⟩
    refine ⟨_, rfl, a, _, rfl, .inl hS, fun H1 s1 => ?_⟩
    have hS1 := s1.seq hS
    walk_at "go"
    rw [len_map]
    walk_at "go"
    refine iteNS rfl ?_
    refine ⟨_, rfl, a, rfl, ⟨_, hS1⟩, fun D hD => ?_⟩
    refine lcm (walk_list (K := K) (a := a) (xs := ns.map V.int)) (List.replicate ns.length (V.bl true)) (by simp) (by rw [len_map]; omega) hD (fun H' s => s.seq hS1) ?_ ?_
    · rintro i y x H2 H3 hi hy s2 ⟨rfl, hx⟩ k hk
      obtain rfl := rep_get hy
      obtain ⟨n, hn, rfl⟩ := List.getElem?_map .. ▸ hx |> Option.map_eq_some_iff.mp
      exact ⟨rfl, _, rfl, n, rfl, hk _ (Same.refl _)⟩
    · intro H' s2 hD'
      refine ⟨D, List.replicate ns.length true, rfl, SqL.of (by rw [hD', List.map_replicate]), ?_⟩
      rw [all_rep]
      exact q H' (s1.trans s2)
  · refine ⟨_, (pss_cons (ps_if (PW.pt (pw_or (pt_not (pt_val (pe_call G_is_listed hr (by rfl) T.m_is_listed T.F_is_listed.kp T.b_is_listed .nil pass0 (pa_cons (pv 0) pa_nil)))) (pw_or1 (pt_cmpR op_ne (pe_callB (show CallR _ _ (rLenSq K) from call_len_seq) (by rfl) T.z_len (by decide +kernel) (pa_cons (pv 0) pa_nil)) (pv 1) (nomark _))))) (pss_one (ps_ret pe_bl)) pss_nil)
    (pss_one (ps_ret (pe_callB (show CallR _ _ (rAll K) from cr_all rfl) (by rfl) T.z_all (by decide +kernel) (pa_cons (pe_lc (own := [("item", 2)]) (g := (gName 2)) rfl nd (show PI _ _ _ (iTup K _) from pi_tup (pv 0)) (blkOk_by (own := [("item", 2)]) (N := N_are_numbers) (sc := defScope s_are_numbers) (by decide +kernel)) (fun _ _ _ _ _ => by exact (pg_name (i := 2) nd rfl (Or.inl rfl))) (fun _ _ _ _ _ => by exact pts_nil) (fun _ _ _ _ _ => by exact (pe_call G_is_number hr (by rfl) T.m_is_number T.F_is_number.kp T.b_is_number .nil pass0 (pa_cons (pv 2) pa_nil)))) pa_nil))))), ?_⟩
    refine ⟨_, rfl, a, _, rfl, .inr hS, fun H1 s1 => ?_⟩
    have hS1 := seqT s1 hS
    walk_at "go"
    rw [len_map]
    walk_at "go"
    refine iteNS rfl ?_
    refine ⟨_, rfl, a, rfl, ⟨_, hS1⟩, fun D hD => ?_⟩
    refine lcm (walk_tup (K := K) (a := a) (xs := ns.map V.int)) (List.replicate ns.length (V.bl true)) (by simp) (by rw [len_map]; omega) hD (fun H' s => seqT s hS1) ?_ ?_
    · rintro i y x H2 H3 hi hy s2 ⟨rfl, hx⟩ k hk
      obtain rfl := rep_get hy
      obtain ⟨n, hn, rfl⟩ := List.getElem?_map .. ▸ hx |> Option.map_eq_some_iff.mp
      exact ⟨rfl, _, rfl, n, rfl, hk _ (Same.refl _)⟩
    · intro H' s2 hD'
      refine ⟨D, List.replicate ns.length true, rfl, SqL.of (by rw [hD', List.map_replicate]), ?_⟩
      rw [all_rep]
      exact q H' (s1.trans s2)
end
end TL
namespace TL
open PySem L2

/-! ### steps of a reading -/
local macro_rules | `(tactic| walk_at "hp") => `(tactic| first | assumption | exact upd_same | (refine (upd_ne (by first | assumption | (exact Ne.symm (by assumption)))).trans ?_; walk_at "hp"))
local macro_rules | `(tactic| walk_at "ok") => `(tactic| first | (exact Or.inr ⟨by decide, by decide⟩) | (exact ⟨by decide, by decide⟩) | (exact ⟨by decide, by decide, by decide⟩) | (show _ ≠ _; omega) | (show _ ≠ _; decide) | (exact Or.inl ⟨by omega, by omega⟩) | decide)
local macro_rules | `(tactic| walk_at "sq") => `(tactic| first | assumption | exact SqL.of (by walk_at "hp") | exact SqT.of (by walk_at "hp"))
local macro_rules | `(tactic| walk_at "ty") => `(tactic| first | refine ⟨_, _, Value.type "int", Value.type "list", false, rfl, ClsV.ty _, TyX.base (TyOf.int _), kt_int_list, ?_⟩ | refine ⟨_, _, Value.type "bool", Value.type "list", false, rfl, ClsV.ty _, TyX.base (TyOf.bl _), kt_bool_list, ?_⟩ | refine ⟨_, _, Value.type "str", Value.type "list", false, rfl, ClsV.ty _, TyX.base (TyOf.str _), kt_str_list, ?_⟩ | refine ⟨_, _, Value.type "NoneType", Value.type "list", false, rfl, ClsV.ty _, TyX.base TyOf.non, kt_NoneType_list, ?_⟩ | refine ⟨_, _, Value.type "list", Value.type "list", true, rfl, ClsV.ty _, tyx_L (by walk_at "sq"), kt_list_list, ?_⟩ | refine ⟨_, _, Value.type "tuple", Value.type "list", false, rfl, ClsV.ty _, tyx_T (by walk_at "sq"), kt_tuple_list, ?_⟩ | refine ⟨_, _, Value.type "int", Value.type "tuple", false, rfl, ClsV.ty _, TyX.base (TyOf.int _), kt_int_tuple, ?_⟩ | refine ⟨_, _, Value.type "bool", Value.type "tuple", false, rfl, ClsV.ty _, TyX.base (TyOf.bl _), kt_bool_tuple, ?_⟩ | refine ⟨_, _, Value.type "str", Value.type "tuple", false, rfl, ClsV.ty _, TyX.base (TyOf.str _), kt_str_tuple, ?_⟩ | refine ⟨_, _, Value.type "NoneType", Value.type "tuple", false, rfl, ClsV.ty _, TyX.base TyOf.non, kt_NoneType_tuple, ?_⟩ | refine ⟨_, _, Value.type "list", Value.type "tuple", false, rfl, ClsV.ty _, tyx_L (by walk_at "sq"), kt_list_tuple, ?_⟩ | refine ⟨_, _, Value.type "tuple", Value.type "tuple", true, rfl, ClsV.ty _, tyx_T (by walk_at "sq"), kt_tuple_tuple, ?_⟩ | refine ⟨_, _, Value.type "int", Value.type "bool", false, rfl, ClsV.ty _, TyX.base (TyOf.int _), kt_int_bool, ?_⟩ | refine ⟨_, _, Value.type "bool", Value.type "bool", true, rfl, ClsV.ty _, TyX.base (TyOf.bl _), kt_bool_bool, ?_⟩ | refine ⟨_, _, Value.type "str", Value.type "bool", false, rfl, ClsV.ty _, TyX.base (TyOf.str _), kt_str_bool, ?_⟩ | refine ⟨_, _, Value.type "NoneType", Value.type "bool", false, rfl, ClsV.ty _, TyX.base TyOf.non, kt_NoneType_bool, ?_⟩ | refine ⟨_, _, Value.type "list", Value.type "bool", false, rfl, ClsV.ty _, tyx_L (by walk_at "sq"), kt_list_bool, ?_⟩ | refine ⟨_, _, Value.type "tuple", Value.type "bool", false, rfl, ClsV.ty _, tyx_T (by walk_at "sq"), kt_tuple_bool, ?_⟩ | refine ⟨_, _, Value.type "int", Value.type "int", true, rfl, ClsV.ty _, TyX.base (TyOf.int _), kt_int_int, ?_⟩ | refine ⟨_, _, Value.type "bool", Value.type "int", true, rfl, ClsV.ty _, TyX.base (TyOf.bl _), kt_bool_int, ?_⟩ | refine ⟨_, _, Value.type "str", Value.type "int", false, rfl, ClsV.ty _, TyX.base (TyOf.str _), kt_str_int, ?_⟩ | refine ⟨_, _, Value.type "NoneType", Value.type "int", false, rfl, ClsV.ty _, TyX.base TyOf.non, kt_NoneType_int, ?_⟩ | refine ⟨_, _, Value.type "list", Value.type "int", false, rfl, ClsV.ty _, tyx_L (by walk_at "sq"), kt_list_int, ?_⟩ | refine ⟨_, _, Value.type "tuple", Value.type "int", false, rfl, ClsV.ty _, tyx_T (by walk_at "sq"), kt_tuple_int, ?_⟩ | refine ⟨_, _, Value.type "int", Value.type "str", false, rfl, ClsV.ty _, TyX.base (TyOf.int _), kt_int_str, ?_⟩ | refine ⟨_, _, Value.type "bool", Value.type "str", false, rfl, ClsV.ty _, TyX.base (TyOf.bl _), kt_bool_str, ?_⟩ | refine ⟨_, _, Value.type "str", Value.type "str", true, rfl, ClsV.ty _, TyX.base (TyOf.str _), kt_str_str, ?_⟩ | refine ⟨_, _, Value.type "NoneType", Value.type "str", false, rfl, ClsV.ty _, TyX.base TyOf.non, kt_NoneType_str, ?_⟩ | refine ⟨_, _, Value.type "list", Value.type "str", false, rfl, ClsV.ty _, tyx_L (by walk_at "sq"), kt_list_str, ?_⟩ | refine ⟨_, _, Value.type "tuple", Value.type "str", false, rfl, ClsV.ty _, tyx_T (by walk_at "sq"), kt_tuple_str, ?_⟩)
local macro_rules | `(tactic| walk_at "go1") => `(tactic| first
  | (refine ⟨_, rfl, ?_⟩)
  | (refine ⟨_, _, rfl, rfl, ?_⟩)
  | (refine ⟨_, _, _, _, rfl, rfl, SqL.of (by walk_at "hp"), rfl, ?_⟩)
  | (refine Or.inl ⟨_, rfl, ?_⟩)
  | (refine ⟨rfl, ?_⟩)
  | (refine ⟨_, _, rfl, .inl (SqL.of (by walk_at "hp")), ?_⟩)
  | (refine ⟨_, _, rfl, Or.inl (by assumption), ?_⟩)
  | (refine ⟨_, _, rfl, Or.inr (by assumption), ?_⟩)
  | (refine ⟨(by walk_at "ok"), ?_⟩)
  | (refine ⟨_, _, _, _, rfl, rfl, (by walk_at "hp"), rfl, ?_⟩))
local macro_rules | `(tactic| walk_at "go") => `(tactic| repeat (walk_at "go1"))
local macro_rules | `(tactic| walk_at "gt") => `(tactic| repeat (first | walk_at "go1" | walk_at "ty"))

section
variable {P : Program} {w : World} {K : PySem.W.Frag} {mg : Str → Option Value} {base : Heap}
-- [0=self, 1=width, 2=vectors, 3=at, 4=vector]
/-- rows as lists or tuples -/
def RowQ (K : PySem.W.Frag) (H : Hp) (rs : List V) (M : List (List Int)) : Prop := rs.length = M.length ∧ ∀ (i : Nat) r, rs[i]? = some r → ∃ t row, r = V.ref t ∧ M[i]? = some row ∧ Sq K H t (row.map V.int)
theorem RowQ.same {H H' : Hp} {rs : List V} {M : List (List Int)} (h : RowQ K H rs M) (s : Same H H') : RowQ K H' rs M := ⟨h.1, fun i r hr => by
  obtain ⟨t, row, a1, a2, a3⟩ := h.2 i r hr
  exact ⟨t, row, a1, a2, a3.same s⟩⟩
theorem MatQ.rowQ {H : Hp} {rs : List V} {M : List (List Int)} (h : MatQ K H rs M) : RowQ K H rs M := ⟨h.1, fun i r hr => by
  obtain ⟨t, row, a1, a2, a3⟩ := h.2 i r hr
  exact ⟨t, row, a1, a2, .inl a3⟩⟩
/-- a lattice of the program; what it holds stands apart from the lists of D -/
structure LatF (K : PySem.W.Frag) (C : Addr) (D : Addr → Prop) (H : Hp) (x : Addr) (wd : Nat) (S : List (List Int)) : Prop where
  ex : ∃ dx va sa qs, H x = some (.ins C dx [("width", .int (wd : Int)), ("_vectors", .ref va), ("_stairs", .ref sa)]) ∧ SqL K (cutH D H) sa qs ∧ MatQ K (cutH D H) qs S
theorem same_cut {D : Addr → Prop} {H H' : Hp} (s : Same H H') : Same (cutH D H) (cutH D H') := fun b o h => by
  obtain ⟨n, e⟩ := cutH_some h
  rw [cutH_out n]
  exact s _ _ e
theorem cut_same {D : Addr → Prop} {H : Hp} : Same (cutH D H) H := fun b o h => (cutH_some h).2
theorem LatF.same {C : Addr} {D : Addr → Prop} {H H' : Hp} {x : Addr} {wd : Nat} {S : List (List Int)} (h : LatF K C D H x wd S) (s : Same H H') : LatF K C D H' x wd S := by
  obtain ⟨dx, va, sa, qs, h1, h2, h3⟩ := h.ex
  exact ⟨dx, va, sa, qs, s _ _ h1, (same_cut s).seq h2, h3.same (same_cut s)⟩
theorem kb_cut {D : Addr → Prop} {H H' : Hp} {g : Addr} (s : Kb g H H') (d : D g) : Same (cutH D H) (cutH D H') := fun b o h => by
  obtain ⟨n, e⟩ := cutH_some h
  rw [cutH_out n]
  exact s _ _ e fun z => n (z ▸ d)
theorem LatF.kb {C : Addr} {D : Addr → Prop} {H H' : Hp} {x g : Addr} {wd : Nat} {S : List (List Int)} (h : LatF K C D H x wd S) (s : Kb g H H') (d : D g) (hx : x ≠ g) : LatF K C D H' x wd S := by
  obtain ⟨dx, va, sa, qs, h1, h2, h3⟩ := h.ex
  exact ⟨dx, va, sa, qs, s _ _ h1 hx, (kb_cut s d).seq h2, h3.same (kb_cut s d)⟩
theorem RowQ.ins {H : Hp} {rs : List V} {M : List (List Int)} {p C dx : Addr} {fs : List (Str × V)} {o : HO} (h : RowQ K H rs M) (hp : H p = some (.ins C dx fs)) : RowQ K (upd H p o) rs M := ⟨h.1, fun i r hr => by
  obtain ⟨t, row, a1, a2, a3⟩ := h.2 i r hr
  exact ⟨t, row, a1, a2, a3.ins hp⟩⟩
theorem MatQ.ins {H : Hp} {rs : List V} {M : List (List Int)} {p C dx : Addr} {fs : List (Str × V)} {o : HO} (h : MatQ K H rs M) (hp : H p = some (.ins C dx fs)) : MatQ K (L2.upd H p o) rs M := ⟨h.1, fun i r hr => by
  obtain ⟨t, row, a1, a2, a3⟩ := h.2 i r hr
  exact ⟨t, row, a1, a2, seqL_ins hp a3⟩⟩
theorem cut_upd {D : Addr → Prop} {H : Hp} {p : Addr} {o : HO} (n : ¬ D p) : cutH D (upd H p o) = upd (cutH D H) p o := by
  funext b
  by_cases e : b = p
  · subst e
    rw [cutH_out n, upd_same, upd_same]
  · by_cases d : D b
    · rw [cutH_in d, upd_ne e, cutH_in d]
    · rw [cutH_out d, upd_ne e, upd_ne e, cutH_out d]
theorem cut_join {D : Addr → Prop} {H H' : Hp} (z : ∀ b, D b → H' b = none) : cutH D (joinH D H H') = H' := by
  funext b
  by_cases d : D b
  · rw [cutH_in d, z b d]
  · rw [cutH_out d, joinH_out d]
theorem cut_new {D : Addr → Prop} {H : Hp} {b : Addr} {o : HO} (n : ¬ D b) (h : H b = some o) : cutH D H b = some o := (cutH_out n).trans h
theorem fs_put (n : Int) (t1 t2 : Addr) : putF "_stairs" (V.ref t2) (putF "_vectors" (V.ref t1) (putF "width" (V.int n) [])) = [(("width" : Str), .int n), ("_vectors", .ref t1), ("_stairs", .ref t2)] := by
  have e1 : ¬ (("width" : Str) = "_vectors") := by decide +kernel
  have e2 : ¬ (("width" : Str) = "_stairs") := by decide +kernel
  have e3 : ¬ (("_vectors" : Str) = "_stairs") := by decide +kernel
  simp [putF, e1, e2, e3]
theorem fs_vec (n : Int) (t1 : Addr) : (putF "_vectors" (V.ref t1) (putF "width" (V.int n) [])).lookup ("_vectors" : Str) = some (.ref t1) := by
  have e1 : ¬ (("width" : Str) = "_vectors") := by decide +kernel
  have e2 : (("_vectors" : Str) == "width") = false := by decide +kernel
  simp [putF, e1, List.lookup, e2]
def isLst (H : Hp) : Addr → Prop := fun b => ∃ xs, H b = some (.lst xs)
def spLat (K : PySem.W.Frag) (C : Addr) : Sp := fun vs H Q _ => ∃ (x dx p : Addr) (wd : Nat) (rs : List V) (M : List (List Int)), vs = [.ref x, .int (wd : Int), .ref p] ∧ H x = some (.ins C dx []) ∧ H dx = some (.own x) ∧ SqT K H p rs ∧ RowQ K H rs M ∧ (∀ r ∈ M, r.length = wd) ∧ 0 < wd ∧ wd ≤ 24 ∧ M.length ≤ 6 ∧ (∀ r ∈ M, EB (2 ^ 128) r) ∧
  ∀ H', (∀ b o, H b = some o → b ≠ x → H' b = some o) → LatF K C (isLst H) H' x wd (stairsOf M) → Q .non H'
theorem ok_lat (T : Tx K mg) (hP : P.given.tree = none) : FnR P w K mg base CX0 36 T.f_Lattice_init (spStar 2 (spLat K T.C_Lattice)) := by
  have G_is_number := ok_is_number (P := P) (w := w) (base := base) T
  have G_are_numbers := ok_are_numbers (P := P) (w := w) (base := base) T
  have G_staircase_of := (ok_stair (P := P) (w := w) (base := base) T hP).frame
  refine fun_star (ps := ["self", "width"]) (pv := "vectors") T.F_Lattice_init sc_Lattice_init T.B_Lattice_init (fun cdv A outer s H vs Q E hr h => ?_)
  obtain ⟨x, dx, p, wd, rs, M, rfl, hx, hdx, hp, hM, hw, hwd, hw1, hl, hb, q⟩ := h
  have nd := sc_Lattice_init.nd
  refine ⟨_, (pss_cons (ps_if (PW.pt (pw_or (pt_not (pt_val (pe_call G_is_number (hr.mono (by decide)) (by rfl) T.m_is_number T.F_is_number.kp T.b_is_number .nil pass0 (pa_cons (pv 1) pa_nil)))) (pw_or1 (pt_not (pt_chain op_le op_le pe_int (pv 1) (pe_glob (v := .int 24) (by rfl) T.m_MOST_WIDTH ⟨_, rfl⟩)))))) (pss_one ps_never) pss_nil)
    (pss_cons (ps_for PassesOwn.never rfl (show PI _ _ _ (iEnumT K _) from pi_enumT (by rfl) T.z_enumerate (pa_cons (pv 2) pa_nil)) (pg_tup rfl (pgs_cons (pg_name (i := 3) nd rfl (Or.inl rfl)) (pgs_cons (pg_name (i := 4) nd rfl (Or.inl rfl)) pgs_nil))) (pss_one (ps_if (pt_not (pt_val (pe_call G_are_numbers (hr.mono (by decide)) (by rfl) T.m_are_numbers T.F_are_numbers.kp T.b_are_numbers .nil pass0 (pa_cons (pv 4) (pa_cons (pv 1) pa_nil))))) (pss_one ps_never) pss_nil)))
    (pss_cons (ps_fld (pv 0) (pv 1) rfl)
    (pss_cons (ps_fld (pv 0) (pe_lc (own := [("vector", 4)]) (g := (gName 4)) rfl nd (show PI _ _ _ (iTup K _) from pi_tup (pv 2)) (blkOk_by (own := [("vector", 4)]) (N := N_Lattice_init) (sc := defScope s_Lattice_init) (by decide +kernel)) (fun _ _ _ _ _ => by exact (pg_name (i := 4) nd rfl (Or.inl rfl))) (fun _ _ _ _ _ => by exact pts_nil) (fun _ _ _ _ _ => by exact (pe_callTy (show CallR _ _ (rListOf K) from call_list_of) (by rfl) T.z_list (by decide +kernel) (pa_cons (pv 4) pa_nil)))) rfl)
    (pss_one (ps_fld (pv 0) (pe_call G_staircase_of hr (by rfl) T.m_staircase_of T.F_staircase_of.kp T.b_staircase_of .nil pass0 (pa_cons (show PE _ _ (tFld K _ _) from pe_fld (pv 0) rfl) pa_nil)) rfl)))))), ?_⟩
  have hst : L2.start N_Lattice_init [.ref x, .int (wd : Int), .ref p] = [some (.ref x), some (.int (wd : Int)), some (.ref p), none, none] := rfl
  rw [hst]
  refine ⟨_, rfl, (wd : Int), rfl, _, rfl, ?_⟩
  refine iteF' rfl ?_
  refine ⟨_, rfl, _, _, rfl, rfl, _, rfl, ?_⟩
  refine iteT' (decide_eq_true (by omega)) ?_
  refine ⟨_, _, rfl, rfl, _, rfl, ?_⟩
  refine iteF' (by rw [decide_eq_true (by omega)]; rfl) ?_
  refine ⟨_, rfl, p, rfl, ⟨_, hp⟩, for_it (walk_enumT (K := K) (a := p) (xs := rs)) (fun i σ' H' => (∃ b3 b4, σ' = [some (.ref x), some (.int (wd : Int)), some (.ref p), b3, b4]) ∧ Same H H') ⟨⟨_, _, rfl⟩, Same.refl _⟩ (fun _ _ _ _ h => seqT h.2 hp) ?_ ?_⟩
  · rintro i y σ' H1 H2 hi ⟨⟨b3, b4, rfl⟩, s1⟩ ⟨Tp, u, z, rfl, hT, rfl, hu, hz⟩
    replace hu : some (V.int (i : Int)) = some u := hu
    obtain rfl := Option.some.inj hu
    replace hz : rs[i]? = some z := hz
    obtain ⟨t, row, rfl, hrow, hrT⟩ := hM.2 i z hz
    have hrw := hw row (List.mem_of_getElem? hrow)
    have s2 := Same.new (o := .tup [V.int (i : Int), V.ref t]) hT
    refine ⟨Tp, _, rfl, SqT.of upd_same, rfl, _, _, rfl, _, _, rfl, rfl, ?_⟩
    dsimp only [List.set_cons_succ, List.set_cons_zero, gName]
    refine ⟨_, rfl, _, rfl, t, row, by rw [hrw]; rfl, (hrT.same s1).same s2, by omega, fun H3 s3 => ?_⟩
    refine ⟨_, rfl, ?_⟩
    refine iteF' rfl ?_
    exact ⟨⟨_, _, rfl⟩, s1.trans (s2.trans s3)⟩
  · rintro σ' H1 ⟨⟨b3, b4, rfl⟩, s1⟩
    have hx1 := s1 _ _ hx
    refine ⟨_, rfl, _, rfl, x, T.C_Lattice, dx, [], rfl, hx1, T.c_Lattice, T.n_Lattice_width, by show 0 < 1000; decide, ?_⟩
    have hp2 := seqT_ins (o := .ins T.C_Lattice dx (putF "width" (V.int (wd : Int)) [])) hx1 (seqT s1 hp)
    have hM2 := (hM.same s1).ins (o := .ins T.C_Lattice dx (putF "width" (V.int (wd : Int)) [])) hx1
    have hx2 : (upd H1 x (.ins T.C_Lattice dx (putF "width" (V.int (wd : Int)) []))) x = some (.ins T.C_Lattice dx (putF "width" (V.int (wd : Int)) [])) := upd_same
    have kp2 : ∀ b o, H b = some o → b ≠ x → (upd H1 x (.ins T.C_Lattice dx (putF "width" (V.int (wd : Int)) []))) b = some o := fun b o e n => by
      rw [upd_ne n]
      exact s1 _ _ e
    have nw2 : ∀ b, (upd H1 x (.ins T.C_Lattice dx (putF "width" (V.int (wd : Int)) []))) b = none → H b = none := fun b e => by
      have n : b ≠ x := fun z => by
        subst z
        rw [upd_same] at e
        cases e
      rw [upd_ne n] at e
      exact s1.free e
    generalize upd H1 x (.ins T.C_Lattice dx (putF "width" (V.int (wd : Int)) [])) = H2 at *
    refine ⟨_, rfl, p, rfl, ⟨_, hp2⟩, fun V0 hV0 => ?_⟩
    refine lcsD (walk_tup (K := K) (a := p) (xs := rs)) (fun i y Ha => ∃ t row', y = V.ref t ∧ t ≠ V0 ∧ M[i]? = some row' ∧ Ha t = some (.lst (row'.map V.int)) ∧ H2 t = none) (fun i y Ha Hb s ⟨t, row', a1, a2, a3, a4, a5⟩ => ⟨t, row', a1, a2, a3, s _ _ a4, a5⟩)
      (fun i y Ha zs zs' hz' ⟨t, row', a1, a2, a3, a4, a5⟩ => ⟨t, row', a1, a2, a3, by rw [upd_ne a2]; exact a4, a5⟩) (by have := hM.1; omega) hV0 (fun Ha s => seqT s hp2) ?_ fun ys H3 hyl hys s3 hV3 => ?_
    · rintro n z Ha Hb hn sa' ⟨zs, hz⟩ ⟨rfl, hxz⟩ k hk
      obtain ⟨tu, up, rfl, hup, huT⟩ := hM2.2 n z hxz
      refine ⟨rfl, _, rfl, tu, _, rfl, huT.same sa', fun R hR => hk _ _ (Same.new hR) ⟨R, up, rfl, (ne_of_none hz hR).symm, hup, upd_same, sa'.free hR⟩⟩
    have hx3 := s3 _ _ hx2
    refine ⟨_, rfl, x, T.C_Lattice, dx, _, rfl, hx3, T.c_Lattice, T.n_Lattice_vectors, by show 1 < 1000; decide, ?_⟩
    have nx : ¬ isLst H x := fun ⟨xs, e⟩ => by
      rw [hx] at e
      cases e
    have hV4 : ∀ o, (upd H3 x o) V0 = some (.lst ys) := fun o => by
      rw [upd_ne (ne_of hV3 hx3 (by intro z; cases z))]
      exact hV3
    have nV0 : ¬ isLst H V0 := fun ⟨xs, e⟩ => by
      rw [nw2 V0 hV0] at e
      cases e
    have hyq : ∀ o, MatQ K (cutH (isLst H) (upd H3 x o)) ys M := fun o => ⟨hyl.trans hM.1, fun i r hr => by
      obtain ⟨t, row', a1, a2, a3, a4, a5⟩ := hys i r hr
      refine ⟨t, row', a1, a3, SqL.of (cut_new (fun ⟨xs, e⟩ => ?_) ?_)⟩
      · rw [nw2 t a5] at e
        cases e
      · rw [upd_ne (ne_of a4 hx3 (by intro z; cases z))]
        exact a4⟩
    have hx4 : ∀ o, (upd H3 x o) x = some o := fun o => upd_same
    have kp4 : ∀ o b u, H b = some u → b ≠ x → (upd H3 x o) b = some u := fun o b u e n => by
      rw [upd_ne n]
      exact s3 _ _ (kp2 b u e n)
    have hok := (stairs_size hl hw hb).1
    refine ⟨_, rfl, x, T.C_Lattice, dx, _, V.ref V0, rfl, upd_same, T.c_Lattice, T.n_Lattice_vectors, fs_vec _ _, ?_⟩
    refine ⟨isLst H, fun b ⟨xs, e⟩ => ⟨xs, kp4 _ b _ e fun z => ?_⟩, V0, ys, M, wd, rfl, SqL.of (cut_new nV0 (hV4 _)), hyq _, hw, hwd, by omega, by omega, hok, fun t qs H5 s5 ht hq dn => ?_⟩
    · subst z
      exact nx ⟨xs, e⟩
    have hxj : (joinH (isLst H) (upd H3 x (.ins T.C_Lattice dx (putF "_vectors" (V.ref V0) (putF "width" (V.int (wd : Int)) [])))) H5) x = some (.ins T.C_Lattice dx (putF "_vectors" (V.ref V0) (putF "width" (V.int (wd : Int)) []))) := joinH_none dn (s5 _ _ (cut_new nx upd_same))
    refine ⟨_, rfl, x, T.C_Lattice, dx, _, rfl, hxj, T.c_Lattice, T.n_Lattice_stairs, by show 2 < 1000; decide, ?_⟩
    refine q _ (fun b o e n => ?_) ⟨dx, V0, t, qs, by rw [fs_put]; exact upd_same, ?_, ?_⟩
    · rw [upd_ne n]
      by_cases d : isLst H b
      · rw [joinH_in d]
        exact kp4 _ b o e n
      · rw [joinH_out d]
        exact s5 _ _ (cut_new d (kp4 _ b o e n))
    · rw [cut_upd nx, cut_join dn]
      exact seqL_ins (s5 _ _ (cut_new nx upd_same)) ht
    · rw [cut_upd nx, cut_join dn]
      exact hq.ins (s5 _ _ (cut_new nx upd_same))
end
end TL
namespace TL
open PySem L2

/-! ### steps of a reading -/
local macro_rules | `(tactic| walk_at "hp") => `(tactic| first | assumption | exact upd_same | (refine (upd_ne (by first | assumption | (exact Ne.symm (by assumption)))).trans ?_; walk_at "hp"))
local macro_rules | `(tactic| walk_at "ok") => `(tactic| first | (exact Or.inr ⟨by decide, by decide⟩) | (exact ⟨by decide, by decide⟩) | (exact ⟨by decide, by decide, by decide⟩) | (show _ ≠ _; omega) | (show _ ≠ _; decide) | (exact Or.inl ⟨by omega, by omega⟩) | decide)
local macro_rules | `(tactic| walk_at "sq") => `(tactic| first | assumption | exact SqL.of (by walk_at "hp") | exact SqT.of (by walk_at "hp"))
local macro_rules | `(tactic| walk_at "ty") => `(tactic| first | refine ⟨_, _, Value.type "int", Value.type "list", false, rfl, ClsV.ty _, TyX.base (TyOf.int _), kt_int_list, ?_⟩ | refine ⟨_, _, Value.type "bool", Value.type "list", false, rfl, ClsV.ty _, TyX.base (TyOf.bl _), kt_bool_list, ?_⟩ | refine ⟨_, _, Value.type "str", Value.type "list", false, rfl, ClsV.ty _, TyX.base (TyOf.str _), kt_str_list, ?_⟩ | refine ⟨_, _, Value.type "NoneType", Value.type "list", false, rfl, ClsV.ty _, TyX.base TyOf.non, kt_NoneType_list, ?_⟩ | refine ⟨_, _, Value.type "list", Value.type "list", true, rfl, ClsV.ty _, tyx_L (by walk_at "sq"), kt_list_list, ?_⟩ | refine ⟨_, _, Value.type "tuple", Value.type "list", false, rfl, ClsV.ty _, tyx_T (by walk_at "sq"), kt_tuple_list, ?_⟩ | refine ⟨_, _, Value.type "int", Value.type "tuple", false, rfl, ClsV.ty _, TyX.base (TyOf.int _), kt_int_tuple, ?_⟩ | refine ⟨_, _, Value.type "bool", Value.type "tuple", false, rfl, ClsV.ty _, TyX.base (TyOf.bl _), kt_bool_tuple, ?_⟩ | refine ⟨_, _, Value.type "str", Value.type "tuple", false, rfl, ClsV.ty _, TyX.base (TyOf.str _), kt_str_tuple, ?_⟩ | refine ⟨_, _, Value.type "NoneType", Value.type "tuple", false, rfl, ClsV.ty _, TyX.base TyOf.non, kt_NoneType_tuple, ?_⟩ | refine ⟨_, _, Value.type "list", Value.type "tuple", false, rfl, ClsV.ty _, tyx_L (by walk_at "sq"), kt_list_tuple, ?_⟩ | refine ⟨_, _, Value.type "tuple", Value.type "tuple", true, rfl, ClsV.ty _, tyx_T (by walk_at "sq"), kt_tuple_tuple, ?_⟩ | refine ⟨_, _, Value.type "int", Value.type "bool", false, rfl, ClsV.ty _, TyX.base (TyOf.int _), kt_int_bool, ?_⟩ | refine ⟨_, _, Value.type "bool", Value.type "bool", true, rfl, ClsV.ty _, TyX.base (TyOf.bl _), kt_bool_bool, ?_⟩ | refine ⟨_, _, Value.type "str", Value.type "bool", false, rfl, ClsV.ty _, TyX.base (TyOf.str _), kt_str_bool, ?_⟩ | refine ⟨_, _, Value.type "NoneType", Value.type "bool", false, rfl, ClsV.ty _, TyX.base TyOf.non, kt_NoneType_bool, ?_⟩ | refine ⟨_, _, Value.type "list", Value.type "bool", false, rfl, ClsV.ty _, tyx_L (by walk_at "sq"), kt_list_bool, ?_⟩ | refine ⟨_, _, Value.type "tuple", Value.type "bool", false, rfl, ClsV.ty _, tyx_T (by walk_at "sq"), kt_tuple_bool, ?_⟩ | refine ⟨_, _, Value.type "int", Value.type "int", true, rfl, ClsV.ty _, TyX.base (TyOf.int _), kt_int_int, ?_⟩ | refine ⟨_, _, Value.type "bool", Value.type "int", true, rfl, ClsV.ty _, TyX.base (TyOf.bl _), kt_bool_int, ?_⟩ | refine ⟨_, _, Value.type "str", Value.type "int", false, rfl, ClsV.ty _, TyX.base (TyOf.str _), kt_str_int, ?_⟩ | refine ⟨_, _, Value.type "NoneType", Value.type "int", false, rfl, ClsV.ty _, TyX.base TyOf.non, kt_NoneType_int, ?_⟩ | refine ⟨_, _, Value.type "list", Value.type "int", false, rfl, ClsV.ty _, tyx_L (by walk_at "sq"), kt_list_int, ?_⟩ | refine ⟨_, _, Value.type "tuple", Value.type "int", false, rfl, ClsV.ty _, tyx_T (by walk_at "sq"), kt_tuple_int, ?_⟩ | refine ⟨_, _, Value.type "int", Value.type "str", false, rfl, ClsV.ty _, TyX.base (TyOf.int _), kt_int_str, ?_⟩ | refine ⟨_, _, Value.type "bool", Value.type "str", false, rfl, ClsV.ty _, TyX.base (TyOf.bl _), kt_bool_str, ?_⟩ | refine ⟨_, _, Value.type "str", Value.type "str", true, rfl, ClsV.ty _, TyX.base (TyOf.str _), kt_str_str, ?_⟩ | refine ⟨_, _, Value.type "NoneType", Value.type "str", false, rfl, ClsV.ty _, TyX.base TyOf.non, kt_NoneType_str, ?_⟩ | refine ⟨_, _, Value.type "list", Value.type "str", false, rfl, ClsV.ty _, tyx_L (by walk_at "sq"), kt_list_str, ?_⟩ | refine ⟨_, _, Value.type "tuple", Value.type "str", false, rfl, ClsV.ty _, tyx_T (by walk_at "sq"), kt_tuple_str, ?_⟩)
local macro_rules | `(tactic| walk_at "go1") => `(tactic| first
  | (refine ⟨_, rfl, ?_⟩)
  | (refine ⟨_, _, rfl, rfl, ?_⟩)
  | (refine ⟨_, _, _, _, rfl, rfl, SqL.of (by walk_at "hp"), rfl, ?_⟩)
  | (refine Or.inl ⟨_, rfl, ?_⟩)
  | (refine ⟨rfl, ?_⟩)
  | (refine ⟨_, _, rfl, .inl (SqL.of (by walk_at "hp")), ?_⟩)
  | (refine ⟨_, _, rfl, Or.inl (by assumption), ?_⟩)
  | (refine ⟨_, _, rfl, Or.inr (by assumption), ?_⟩)
  | (refine ⟨(by walk_at "ok"), ?_⟩)
  | (refine ⟨_, _, _, _, rfl, rfl, (by walk_at "hp"), rfl, ?_⟩))
local macro_rules | `(tactic| walk_at "go") => `(tactic| repeat (walk_at "go1"))
local macro_rules | `(tactic| walk_at "gt") => `(tactic| repeat (first | walk_at "go1" | walk_at "ty"))

section
variable {P : Program} {w : World} {K : PySem.W.Frag} {mg : Str → Option Value} {base : Heap}
-- [0=self, 1=vector]
theorem fl_w (n : Int) (t1 t2 : Addr) : List.lookup ("width" : Str) [(("width" : Str), V.int n), ("_vectors", .ref t1), ("_stairs", .ref t2)] = some (.int n) := by simp [List.lookup]
theorem fl_s (n : Int) (t1 t2 : Addr) : List.lookup ("_stairs" : Str) [(("width" : Str), V.int n), ("_vectors", .ref t1), ("_stairs", .ref t2)] = some (.ref t2) := by
  have e1 : (("_stairs" : Str) == "width") = false := by decide +kernel
  have e2 : (("_stairs" : Str) == "_vectors") = false := by decide +kernel
  simp [List.lookup, e1, e2]
/-- rows as tuples -/
def TupQ (K : PySem.W.Frag) (H : Hp) (rs : List V) (M : List (List Int)) : Prop := rs.length = M.length ∧ ∀ (i : Nat) r, rs[i]? = some r → ∃ t row, r = V.ref t ∧ M[i]? = some row ∧ SqT K H t (row.map V.int)
theorem TupQ.same {H H' : Hp} {rs : List V} {M : List (List Int)} (h : TupQ K H rs M) (s : Same H H') : TupQ K H' rs M := ⟨h.1, fun i r hr => by
  obtain ⟨t, row, a1, a2, a3⟩ := h.2 i r hr
  exact ⟨t, row, a1, a2, seqT s a3⟩⟩
theorem tupsOf {J : It} {σ : L2.St} {H1 : Hp} {D : Addr} {M : List (List Int)} {rs : List V} {i : Nat} {G : Hp → Prop} {Qd : Hp → Prop} (wk : Walk J rs.length G (YAt rs)) (hG : ∀ H, Same H1 H → G H) (h2 : MatQ K H1 rs M) (hl : M.length ≤ 100) (hD : H1 D = none) (hw : ∀ u, wipe ((wipe σ [i]).set i (some u)) [i] = wipe σ [i]) (h3 : ∀ u, ((wipe σ [i]).set i (some u))[i]? = some (some u))
    (hd : ∀ H ys, Same H1 H → H D = some (.lst ys) → TupQ K H ys M → Qd H) : LcGoal J (gName i) (tCB (rTup1 K) (tCons (tVar i) tNil)) [i] σ H1 D Qd := by
  refine lcsD wk (fun n y H => ∃ u row, y = V.ref u ∧ M[n]? = some row ∧ SqT K H u (row.map V.int)) (fun n y Ha Hb s ⟨u, row, a1, a2, a3⟩ => ⟨u, row, a1, a2, seqT s a3⟩)
    (fun n y Ha zs zs' hz' ⟨u, row, a1, a2, a3⟩ => ⟨u, row, a1, a2, seqT_lst hz' a3⟩) (by rw [h2.1]; omega) hD (fun H s => hG H s) ?_ fun ys H2 hyl hys s2 hD2 => hd H2 ys s2 hD2 ⟨hyl.trans h2.1, hys⟩
  rintro n x Ha Hb hn sa hzs ⟨rfl, hx⟩ k hk
  obtain ⟨t, row, rfl, e2, e3⟩ := h2.2 n x hx
  exact ⟨hw _, ⟨_, h3 _, t, _, rfl, .inl (sa.seq e3), fun u H' s' hu => hk _ H' s' ⟨u, row, rfl, e2, hu⟩⟩⟩
section
variable {C : Addr} {D : Addr → Prop} {H : Hp} {x : Addr} {wd : Nat} {S : List (List Int)}
theorem LatF.open (h : LatF K C D H x wd S) : ∃ dx va sa qs, H x = some (.ins C dx [("width", .int (wd : Int)), ("_vectors", .ref va), ("_stairs", .ref sa)]) ∧ SqL K H sa qs ∧ MatQ K H qs S := by
  obtain ⟨dx, va, sa, qs, h1, h2, h3⟩ := h.ex
  exact ⟨dx, va, sa, qs, h1, cut_same.seq h2, h3.same cut_same⟩
end
def spStc (K : PySem.W.Frag) (C : Addr) : Sp := fun vs H Q _ => ∃ (D : Addr → Prop) (x : Addr) (wd : Nat) (S : List (List Int)), vs = [.ref x] ∧ LatF K C D H x wd S ∧ S.length ≤ 100 ∧ ∀ t ts H', Same H H' → H t = none → H' t = some (.lst ts) → TupQ K H' ts S → Q (.ref t) H'
theorem ok_stc (T : Tx K mg) : FnOk P w K mg base CX0 1 T.f_Lattice_staircase T.d_Lattice_staircase ["self"] (spStc K T.C_Lattice) := by
  refine T.F_Lattice_staircase.ok sc_Lattice_staircase (fun vs H Q E h => ?_) (fun cdv A outer s H vs Q E hr h => ?_)
  · obtain ⟨D, x, wd, S, rfl, _⟩ := h
    rfl
  obtain ⟨D, x, wd, S, rfl, hx, hl, q⟩ := h
  have nd := sc_Lattice_staircase.nd
  obtain ⟨dx, va, sa, qs, h1, h2, h3⟩ := hx.open
  refine ⟨_, (pss_one (ps_ret (pe_lc (own := [("row", 1)]) (g := (gName 1)) rfl nd (show PI _ _ _ (iList K _) from pi_list (show PE _ _ (tFld K _ _) from pe_fld (pv 0) rfl)) (blkOk_by (own := [("row", 1)]) (N := N_Lattice_staircase) (sc := defScope s_Lattice_staircase) (by decide +kernel)) (fun _ _ _ _ _ => by exact (pg_name (i := 1) nd rfl (Or.inl rfl))) (fun _ _ _ _ _ => by exact pts_nil) (fun _ _ _ _ _ => by exact (pe_callTy (show CallR _ _ (rTup1 K) from call_tup1) (by rfl) T.z_tuple (by decide +kernel) (pa_cons (pv 1) pa_nil)))))), ?_⟩
  refine ⟨_, rfl, x, _, _, _, _, rfl, h1, T.c_Lattice, T.n_Lattice_stairs, fl_s _ _ _, sa, rfl, ⟨_, h2⟩, fun V0 hV0 => ?_⟩
  exact tupsOf (walk_list (K := K) (a := sa) (xs := qs)) (fun Ha s => s.seq h2) h3 hl hV0 (fun u => rfl) (fun u => rfl) fun Ha ys s hV ht => q V0 ys _ s hV0 hV ht
def spLen (K : PySem.W.Frag) (C : Addr) : Sp := fun vs H Q _ => ∃ (D : Addr → Prop) (x : Addr) (wd : Nat) (S : List (List Int)), vs = [.ref x] ∧ LatF K C D H x wd S ∧ Q (.int (S.length : Int)) H
theorem ok_len (T : Tx K mg) : FnOk P w K mg base CX0 1 T.f_Lattice_len T.d_Lattice_len ["self"] (spLen K T.C_Lattice) := by
  refine T.F_Lattice_len.ok sc_Lattice_len (fun vs H Q E h => ?_) (fun cdv A outer s H vs Q E hr h => ?_)
  · obtain ⟨D, x, wd, S, rfl, _⟩ := h
    rfl
  obtain ⟨D, x, wd, S, rfl, hx, q⟩ := h
  obtain ⟨dx, va, sa, qs, h1, h2, h3⟩ := hx.open
  refine ⟨_, (pss_one (ps_ret (pe_callB (show CallR _ _ (rLenSq K) from call_len_seq) (by rfl) T.z_len (by decide +kernel) (pa_cons (show PE _ _ (tFld K _ _) from pe_fld (pv 0) rfl) pa_nil)))), ?_⟩
  refine ⟨_, rfl, x, _, _, _, _, rfl, h1, T.c_Lattice, T.n_Lattice_stairs, fl_s _ _ _, sa, _, rfl, .inl h2, ?_⟩
  rw [h3.1]
  exact q
def spBool (K : PySem.W.Frag) : Sp := fun vs H Q _ => ∃ x : V, vs = [x] ∧ Q (.bl true) H
theorem ok_bool (T : Tx K mg) : FnOk P w K mg base CX0 1 T.f_Lattice_bool T.d_Lattice_bool ["self"] (spBool K) := by
  refine T.F_Lattice_bool.ok sc_Lattice_bool (fun vs H Q E h => ?_) (fun cdv A outer s H vs Q E hr h => ?_)
  · obtain ⟨x, rfl, _⟩ := h
    rfl
  obtain ⟨x, rfl, q⟩ := h
  exact ⟨_, (pss_one (ps_ret pe_bl)), q⟩
def spEqL (K : PySem.W.Frag) (C : Addr) : Sp := fun vs H Q _ => ∃ (D D' : Addr → Prop) (x y : Addr) (wd we : Nat) (S S' : List (List Int)), vs = [.ref x, .ref y] ∧ LatF K C D H x wd S ∧ LatF K C D' H y we S' ∧ Q (.bl (decide (wd = we ∧ S = S'))) H
theorem ok_eq (T : Tx K mg) : FnOk P w K mg base CX0 1 T.f_Lattice_eq T.d_Lattice_eq ["self", "other"] (spEqL K T.C_Lattice) := by
  refine T.F_Lattice_eq.ok sc_Lattice_eq (fun vs H Q E h => ?_) (fun cdv A outer s H vs Q E hr h => ?_)
  · obtain ⟨_, _, x, y, _, _, _, _, rfl, _⟩ := h
    rfl
  obtain ⟨_, _, x, y, wd, we, S, S', rfl, hx, hy, q⟩ := h
  obtain ⟨dx, va, sa, qs, h1, h2, h3⟩ := hx.open
  obtain ⟨dy, vb, sb, ps, g1, g2, g3⟩ := hy.open
  refine ⟨_, (pss_one (ps_ret (pe_and (pe_callB (show CallR _ _ (rIsi K) from call_isi) (by rfl) T.z_isinstance (by decide +kernel) (pa_cons (pv 1) (pa_cons (pe_glob (v := .ref T.C_Lattice) (by rfl) T.g_Lattice rfl) pa_nil))) (pe_and (pe_cmpR op_eq (show PE _ _ (tFld K _ _) from pe_fld (pv 0) rfl) (show PE _ _ (tFld K _ _) from pe_fld (pv 1) rfl) (nomark _)) (pe_one (pe_cmpR (show OpR _ _ (rEqD K) from op_eqD hr.units) (show PE _ _ (tFld K _ _) from pe_fld (pv 0) rfl) (show PE _ _ (tFld K _ _) from pe_fld (pv 1) rfl) (nomark _))))))), ?_⟩
  have i := T.i_Lattice
  refine ⟨_, rfl, _, _, _, .ref T.C_Lattice, true, rfl, ClsV.own _, TyX.base (TyOf.ins g1 T.c_Lattice i.ca i.cn i.ct i.cm), i.me, ?_⟩
  refine ⟨_, rfl, ?_⟩
  refine ⟨_, rfl, x, _, _, _, _, rfl, h1, T.c_Lattice, T.n_Lattice_width, fl_w _ _ _, _, rfl, y, _, _, _, _, rfl, g1, T.c_Lattice, T.n_Lattice_width, fl_w _ _ _, rfl, _, rfl, ?_⟩
  refine ite2 (fun c => ?_) (fun c => ?_)
  · have c1 : wd = we := by
      have := of_decide_eq_true c
      injection this with z
      omega
    refine ⟨_, rfl, x, _, _, _, _, rfl, h1, T.c_Lattice, T.n_Lattice_stairs, fl_s _ _ _, _, rfl, y, _, _, _, _, rfl, g1, T.c_Lattice, T.n_Lattice_stairs, fl_s _ _ _, dL S, dL S', dp_rows h2 h3, dp_rows g2 g3, dL_shaped _, dL_shaped _, ?_⟩
    rw [dL_eqv]
    have e : decide (wd = we ∧ S = S') = decide (S = S') := by simp [c1]
    rw [e] at q
    exact q
  · have c1 : wd ≠ we := fun z => c (by rw [z]; exact decide_eq_true rfl)
    have e : decide (wd = we ∧ S = S') = false := by simp [c1]
    have e2 : decide (V.int (wd : Int) = V.int (we : Int)) = false := Bool.eq_false_iff.mpr c
    rw [e] at q
    exact q
def spEqN (K : PySem.W.Frag) : Sp := fun vs H Q _ => ∃ (x y : Addr) (xs : List V), vs = [.ref x, .ref y] ∧ SqL K H y xs ∧ Q (.bl false) H
theorem ok_eqN (T : Tx K mg) : FnOk P w K mg base CX0 1 T.f_Lattice_eq T.d_Lattice_eq ["self", "other"] (spEqN K) := by
  refine T.F_Lattice_eq.ok sc_Lattice_eq (fun vs H Q E h => ?_) (fun cdv A outer s H vs Q E hr h => ?_)
  · obtain ⟨x, y, _, rfl, _⟩ := h
    rfl
  obtain ⟨x, y, xs, rfl, hy, q⟩ := h
  refine ⟨_, (pss_one (ps_ret (pe_and (pe_callB (show CallR _ _ (rIsi K) from call_isi) (by rfl) T.z_isinstance (by decide +kernel) (pa_cons (pv 1) (pa_cons (pe_glob (v := .ref T.C_Lattice) (by rfl) T.g_Lattice rfl) pa_nil))) (pe_and (pe_cmpR op_eq (show PE _ _ (tFld K _ _) from pe_fld (pv 0) rfl) (show PE _ _ (tFld K _ _) from pe_fld (pv 1) rfl) (nomark _)) (pe_one (pe_cmpR (show OpR _ _ (rEqD K) from op_eqD hr.units) (show PE _ _ (tFld K _ _) from pe_fld (pv 0) rfl) (show PE _ _ (tFld K _ _) from pe_fld (pv 1) rfl) (nomark _))))))), ?_⟩
  refine ⟨_, rfl, _, _, .type "list", .ref T.C_Lattice, false, rfl, ClsV.own _, tyx_L hy, T.kList, ?_⟩
  refine ⟨_, rfl, ?_⟩
  exact q
/-- a staircase that is small enough -/
structure SmS (wd : Nat) (S : List (List Int)) : Prop where
  wid : ∀ r ∈ S, r.length = wd
  lead : ∀ r ∈ S, ∃ l, leadOf r = some l
  len : S.length ≤ 6
  size : ∃ bs, (∀ r ∈ S, EB (2 ^ bs) r) ∧ 128 + 7 * (bs + 2) ≤ 100000000
def spIn (K : PySem.W.Frag) (C : Addr) : Sp := fun vs H Q _ => ∃ (D : Addr → Prop) (x a : Addr) (wd : Nat) (S : List (List Int)) (v : List Int), vs = [.ref x, .ref a] ∧ LatF K C D H x wd S ∧ SmS wd S ∧ Sq K H a (v.map V.int) ∧ v.length = wd ∧ wd ≤ 24 ∧ EB (2 ^ 128) v ∧ ∀ H', Same H H' → Q (.bl ((remV S v).all (· == 0))) H'
theorem ok_in (T : Tx K mg) (hP : P.given.tree = none) : FnOk P w K mg base CX0 34 T.f_Lattice_contains T.d_Lattice_contains ["self", "vector"] (spIn K T.C_Lattice) := by
  have G_are_numbers := ok_are_numbers (P := P) (w := w) (base := base) T
  have G_counts_on := ok_counts (P := P) (w := w) (base := base) T hP
  refine T.F_Lattice_contains.ok sc_Lattice_contains (fun vs H Q E h => ?_) (fun cdv A outer s H vs Q E hr h => ?_)
  · obtain ⟨_, x, a, _, _, _, rfl, _⟩ := h
    rfl
  obtain ⟨D, x, a, wd, S, v, rfl, hx, hs, ha, hv, hwd, he, q⟩ := h
  refine ⟨_, (pss_one (ps_ret (pe_and (pe_call G_are_numbers (hr.mono (by decide)) (by rfl) T.m_are_numbers T.F_are_numbers.kp T.b_are_numbers .nil pass0 (pa_cons (pv 1) (pa_cons (show PE _ _ (tFld K _ _) from pe_fld (pv 0) rfl) pa_nil))) (pe_one (pe_cmpR op_notN (pe_call G_counts_on hr (by rfl) T.m_counts_on T.F_counts_on.kp T.b_counts_on .nil pass0 (pa_cons (show PE _ _ (tFld K _ _) from pe_fld (pv 0) rfl) (pa_cons (pv 1) pa_nil))) pe_non (nomark _)))))), ?_⟩
  obtain ⟨dx, va, sa, qs, h1, h2, h3⟩ := hx.open
  refine ⟨_, rfl, _, rfl, x, _, _, _, _, rfl, h1, T.c_Lattice, T.n_Lattice_width, fl_w _ _ _, a, v, by rw [hv]; rfl, ha, by omega, fun H1 s1 => ?_⟩
  refine ⟨_, rfl, ?_⟩
  refine iteT' rfl ?_
  obtain ⟨bs, b1, b2⟩ := hs.size
  have h31 := h3.same s1
  refine ⟨_, rfl, x, _, _, _, _, rfl, s1 _ _ h1, T.c_Lattice, T.n_Lattice_stairs, fl_s _ _ _, _, rfl, sa, a, qs, S, v, 128, bs, rfl, s1.seq h2, h31.1, h31.2, ha.same s1, by omega, fun r hr => (hs.wid r hr).trans hv.symm, hs.lead, b1, he, ?_, by have := hs.len; omega, fun u H2 s2 hu => ?_⟩
  · have : (S.length + 1) * (bs + 2) ≤ 7 * (bs + 2) := Nat.mul_le_mul_right _ (by have := hs.len; omega)
    omega
  refine ⟨rfl, ?_⟩
  cases ez : (remV S v).all (· == 0) with
  | true =>
    rw [ez] at hu q
    obtain ⟨t, rfl, _⟩ := hu
    have e : (!decide (V.ref t = V.non)) = true := by
      rw [decide_eq_false (fun z => by cases z)]
      rfl
    rw [e]
    exact q _ (s1.trans s2)
  | false =>
    rw [ez] at hu q
    obtain rfl : u = .non := hu
    exact q _ (s1.trans s2)
end
end TL
namespace TL
open PySem L2

/-! ### steps of a reading -/
local macro_rules | `(tactic| walk_at "hp") => `(tactic| first | assumption | exact upd_same | (refine (upd_ne (by first | assumption | (exact Ne.symm (by assumption)))).trans ?_; walk_at "hp"))
local macro_rules | `(tactic| walk_at "ok") => `(tactic| first | (exact Or.inr ⟨by decide, by decide⟩) | (exact ⟨by decide, by decide⟩) | (exact ⟨by decide, by decide, by decide⟩) | (show _ ≠ _; omega) | (show _ ≠ _; decide) | (exact Or.inl ⟨by omega, by omega⟩) | decide)
local macro_rules | `(tactic| walk_at "sq") => `(tactic| first | assumption | exact SqL.of (by walk_at "hp") | exact SqT.of (by walk_at "hp"))
local macro_rules | `(tactic| walk_at "ty") => `(tactic| first | refine ⟨_, _, Value.type "int", Value.type "list", false, rfl, ClsV.ty _, TyX.base (TyOf.int _), kt_int_list, ?_⟩ | refine ⟨_, _, Value.type "bool", Value.type "list", false, rfl, ClsV.ty _, TyX.base (TyOf.bl _), kt_bool_list, ?_⟩ | refine ⟨_, _, Value.type "str", Value.type "list", false, rfl, ClsV.ty _, TyX.base (TyOf.str _), kt_str_list, ?_⟩ | refine ⟨_, _, Value.type "NoneType", Value.type "list", false, rfl, ClsV.ty _, TyX.base TyOf.non, kt_NoneType_list, ?_⟩ | refine ⟨_, _, Value.type "list", Value.type "list", true, rfl, ClsV.ty _, tyx_L (by walk_at "sq"), kt_list_list, ?_⟩ | refine ⟨_, _, Value.type "tuple", Value.type "list", false, rfl, ClsV.ty _, tyx_T (by walk_at "sq"), kt_tuple_list, ?_⟩ | refine ⟨_, _, Value.type "int", Value.type "tuple", false, rfl, ClsV.ty _, TyX.base (TyOf.int _), kt_int_tuple, ?_⟩ | refine ⟨_, _, Value.type "bool", Value.type "tuple", false, rfl, ClsV.ty _, TyX.base (TyOf.bl _), kt_bool_tuple, ?_⟩ | refine ⟨_, _, Value.type "str", Value.type "tuple", false, rfl, ClsV.ty _, TyX.base (TyOf.str _), kt_str_tuple, ?_⟩ | refine ⟨_, _, Value.type "NoneType", Value.type "tuple", false, rfl, ClsV.ty _, TyX.base TyOf.non, kt_NoneType_tuple, ?_⟩ | refine ⟨_, _, Value.type "list", Value.type "tuple", false, rfl, ClsV.ty _, tyx_L (by walk_at "sq"), kt_list_tuple, ?_⟩ | refine ⟨_, _, Value.type "tuple", Value.type "tuple", true, rfl, ClsV.ty _, tyx_T (by walk_at "sq"), kt_tuple_tuple, ?_⟩ | refine ⟨_, _, Value.type "int", Value.type "bool", false, rfl, ClsV.ty _, TyX.base (TyOf.int _), kt_int_bool, ?_⟩ | refine ⟨_, _, Value.type "bool", Value.type "bool", true, rfl, ClsV.ty _, TyX.base (TyOf.bl _), kt_bool_bool, ?_⟩ | refine ⟨_, _, Value.type "str", Value.type "bool", false, rfl, ClsV.ty _, TyX.base (TyOf.str _), kt_str_bool, ?_⟩ | refine ⟨_, _, Value.type "NoneType", Value.type "bool", false, rfl, ClsV.ty _, TyX.base TyOf.non, kt_NoneType_bool, ?_⟩ | refine ⟨_, _, Value.type "list", Value.type "bool", false, rfl, ClsV.ty _, tyx_L (by walk_at "sq"), kt_list_bool, ?_⟩ | refine ⟨_, _, Value.type "tuple", Value.type "bool", false, rfl, ClsV.ty _, tyx_T (by walk_at "sq"), kt_tuple_bool, ?_⟩ | refine ⟨_, _, Value.type "int", Value.type "int", true, rfl, ClsV.ty _, TyX.base (TyOf.int _), kt_int_int, ?_⟩ | refine ⟨_, _, Value.type "bool", Value.type "int", true, rfl, ClsV.ty _, TyX.base (TyOf.bl _), kt_bool_int, ?_⟩ | refine ⟨_, _, Value.type "str", Value.type "int", false, rfl, ClsV.ty _, TyX.base (TyOf.str _), kt_str_int, ?_⟩ | refine ⟨_, _, Value.type "NoneType", Value.type "int", false, rfl, ClsV.ty _, TyX.base TyOf.non, kt_NoneType_int, ?_⟩ | refine ⟨_, _, Value.type "list", Value.type "int", false, rfl, ClsV.ty _, tyx_L (by walk_at "sq"), kt_list_int, ?_⟩ | refine ⟨_, _, Value.type "tuple", Value.type "int", false, rfl, ClsV.ty _, tyx_T (by walk_at "sq"), kt_tuple_int, ?_⟩ | refine ⟨_, _, Value.type "int", Value.type "str", false, rfl, ClsV.ty _, TyX.base (TyOf.int _), kt_int_str, ?_⟩ | refine ⟨_, _, Value.type "bool", Value.type "str", false, rfl, ClsV.ty _, TyX.base (TyOf.bl _), kt_bool_str, ?_⟩ | refine ⟨_, _, Value.type "str", Value.type "str", true, rfl, ClsV.ty _, TyX.base (TyOf.str _), kt_str_str, ?_⟩ | refine ⟨_, _, Value.type "NoneType", Value.type "str", false, rfl, ClsV.ty _, TyX.base TyOf.non, kt_NoneType_str, ?_⟩ | refine ⟨_, _, Value.type "list", Value.type "str", false, rfl, ClsV.ty _, tyx_L (by walk_at "sq"), kt_list_str, ?_⟩ | refine ⟨_, _, Value.type "tuple", Value.type "str", false, rfl, ClsV.ty _, tyx_T (by walk_at "sq"), kt_tuple_str, ?_⟩)
local macro_rules | `(tactic| walk_at "go1") => `(tactic| first
  | (refine ⟨_, rfl, ?_⟩)
  | (refine ⟨_, _, rfl, rfl, ?_⟩)
  | (refine ⟨_, _, _, _, rfl, rfl, SqL.of (by walk_at "hp"), rfl, ?_⟩)
  | (refine Or.inl ⟨_, rfl, ?_⟩)
  | (refine ⟨rfl, ?_⟩)
  | (refine ⟨_, _, rfl, .inl (SqL.of (by walk_at "hp")), ?_⟩)
  | (refine ⟨_, _, rfl, Or.inl (by assumption), ?_⟩)
  | (refine ⟨_, _, rfl, Or.inr (by assumption), ?_⟩)
  | (refine ⟨(by walk_at "ok"), ?_⟩)
  | (refine ⟨_, _, _, _, rfl, rfl, (by walk_at "hp"), rfl, ?_⟩))
local macro_rules | `(tactic| walk_at "go") => `(tactic| repeat (walk_at "go1"))
local macro_rules | `(tactic| walk_at "gt") => `(tactic| repeat (first | walk_at "go1" | walk_at "ty"))

section
variable {P : Program} {w : World} {K : PySem.W.Frag} {mg : Str → Option Value} {base : Heap}
-- [0=_law_width, 1=_law_rows]
theorem dp_rowq {H : Hp} : ∀ {rs : List V} {M : List (List Int)}, RowQ K H rs M → ∃ ds, DpAll K H rs ds ∧ PyData.canLayAll0 ds = true ∧ PyData.depthAll ds ≤ 10 ∧ ds.length = rs.length
  | [], _, _ => ⟨[], .nil, rfl, Nat.zero_le _, rfl⟩
  | _ :: _, [], h => by cases h.1
  | y :: ys, row :: M, h => by
    obtain ⟨u, row', a1, a2, a3⟩ := h.2 0 y rfl
    cases a2
    subst a1
    obtain ⟨ds, b1, b2, b3, b4⟩ := dp_rowq (rs := ys) (M := M) ⟨Nat.succ.inj h.1, fun i r hr => h.2 (i + 1) r hr⟩
    obtain ⟨c1, c2⟩ := ints_lay row
    rcases a3 with a3 | a3
    · refine ⟨.list (row.map .int) :: ds, .cons (.lst a3 (dp_ints row)) b1, by rw [PyData.canLayAll0, b2, PyData.canLay0, c1]; rfl, ?_, by rw [List.length_cons, List.length_cons, b4]⟩
      rw [PyData.depthAll]
      refine Nat.max_le.mpr ⟨?_, b3⟩
      unfold PyData.depth
      omega
    · refine ⟨.tuple (row.map .int) :: ds, .cons (.tup a3 (dp_ints row)) b1, by rw [PyData.canLayAll0, b2, PyData.canLay0, c1]; rfl, ?_, by rw [List.length_cons, List.length_cons, b4]⟩
      rw [PyData.depthAll]
      refine Nat.max_le.mpr ⟨?_, b3⟩
      unfold PyData.depth
      omega
theorem list_shaped {ds : List PyData} (h1 : PyData.canLayAll0 ds = true) (h2 : PyData.depthAll ds ≤ 10) : SeqAt.shaped (.list ds) = true := by
  have hc : (PyData.list ds).canLay0 = true := by
    unfold PyData.canLay0
    exact h1
  unfold SeqAt.shaped
  rw [hc]
  have : (PyData.list ds).depth ≤ 64 := by
    unfold PyData.depth
    omega
  rw [decide_eq_true this]
  rfl
theorem LatF.mono {C : Addr} {D D' : Addr → Prop} {H : Hp} {x : Addr} {wd : Nat} {S : List (List Int)} (h : LatF K C D' H x wd S) (s : ∀ b, D b → D' b) : LatF K C D H x wd S := by
  obtain ⟨dx, va, sa, qs, h1, h2, h3⟩ := h.ex
  have z : Same (cutH D' H) (cutH D H) := fun b o e => by
    obtain ⟨n, e⟩ := cutH_some e
    rw [cutH_out fun d => n (s b d)]
    exact e
  exact ⟨dx, va, sa, qs, h1, z.seq h2, h3.same z⟩
theorem isLst_same {H H' : Hp} (s : Same H H') : ∀ b, isLst H b → isLst H' b := fun b ⟨xs, e⟩ => ⟨xs, s _ _ e⟩
theorem make_lat {H : Hp} {C : Addr} {Q : VK} {E : XK} {wd : Nat} {rs : List V} {M : List (List Int)} (hM : RowQ K H rs M) (hw : ∀ r ∈ M, r.length = wd) (hwd : 0 < wd) (hw1 : wd ≤ 24) (hl : M.length ≤ 6) (hb : ∀ r ∈ M, EB (2 ^ 128) r)
    (q : ∀ x H', Same H H' → LatF K C (isLst H) H' x wd (stairsOf M) → Q (.ref x) H') :
    ∀ x dx, H x = none → H dx = none → dx ≠ x → spStar 2 (spLat K C) (.ref x :: .int (wd : Int) :: rs) (upd (upd H dx (.own x)) x (.ins C dx [])) (fun v H2 => v = .non ∧ Q (.ref x) H2) E := by
  intro x dx nx nd ne
  have s0 : Same H (upd (upd H dx (.own x)) x (.ins C dx [])) := fun c o e => by
    rw [upd_ne (ne_of_none e nx), upd_ne (ne_of_none e nd)]
    exact e
  have hrl := hM.1
  refine ⟨[.ref x, .int (wd : Int)], rs, rfl, rfl, Nat.le_of_lt (Nat.lt_of_le_of_lt (by omega : rs.length ≤ 6) (by decide)), fun t ht => ?_⟩
  have s1 := Same.new (o := .tup rs) ht
  have hxt : x ≠ t := ne_of_none upd_same ht
  have hdt : dx ≠ t := ne_of_none (by rw [upd_ne ne]; exact upd_same) ht
  refine ⟨x, dx, t, wd, rs, M, rfl, by rw [upd_ne hxt]; exact upd_same, by rw [upd_ne hdt, upd_ne ne]; exact upd_same, SqT.of upd_same, (hM.same s0).same s1, hw, hwd, hw1, hl, hb, fun H' kp hL => ⟨rfl, ?_⟩⟩
  exact q x H' (fun c o e => kp c o (s1 _ _ (s0 c o e)) (ne_of_none e nx)) (hL.mono (isLst_same (s0.trans s1)))
def spLL (K : PySem.W.Frag) (C : Addr) : Sp := fun vs H Q _ => ∃ (wd : Nat) (p : Addr) (rs : List V) (M : List (List Int)), vs = [.int (wd : Int), .ref p] ∧ SqL K H p rs ∧ RowQ K H rs M ∧ (∀ r ∈ M, r.length = wd) ∧ 0 < wd ∧ wd ≤ 24 ∧ M.length ≤ 6 ∧ (∀ r ∈ M, EB (2 ^ 128) r) ∧ ∀ x H', Same H H' → LatF K C (isLst H) H' x wd (stairsOf M) → Q (.ref x) H'
theorem ok_ll (T : Tx K mg) (hP : P.given.tree = none) : FnOk P w K mg base CX0 38 T.f_l_lattice T.d_l_lattice ["_law_width", "_law_rows"] (spLL K T.C_Lattice) := by
  have G_Lattice_init := ok_lat (P := P) (w := w) (base := base) T hP
  refine T.F_l_lattice.ok sc_l_lattice (fun vs H Q E h => ?_) (fun cdv A outer s H vs Q E hr h => ?_)
  · obtain ⟨wd, p, rs, M, rfl, _⟩ := h
    rfl
  obtain ⟨wd, p, rs, M, rfl, hp, hM, hw, hwd, hw1, hl, hb, q⟩ := h
  refine ⟨_, (pss_cons (ps_if (pt_cmpR op_lt (pe_callB (show CallR _ _ (rLenSq K) from call_len_seq) (by rfl) T.z_len (by decide +kernel) (pa_cons (pv 1) pa_nil)) pe_int (nomark _)) (pss_one (ps_ret (pe_ifExp (pt_cmpR (show OpR _ _ (rEqD K) from op_eqD hr.units) (pv 1) (pe_lst pa_nil) (nomark _)) (StX.pe_makeR T.k_Lattice G_Lattice_init hr (by rfl) T.g_Lattice pass0 (pa_cons (pv 0) pa_nil)) (pe_ifExp (pt_cmpR op_eq (pe_callB (show CallR _ _ (rLenSq K) from call_len_seq) (by rfl) T.z_len (by decide +kernel) (pa_cons (pv 1) pa_nil)) pe_int (nomark _)) (StX.pe_makeR T.k_Lattice G_Lattice_init hr (by rfl) T.g_Lattice pass0 (pa_cons (pv 0) (pa_cons (pe_ix (show IxR _ (rIxL K) from ix_list) (pv 1) pe_int (fun _ _ => rfl)) pa_nil))) (StX.pe_makeR T.k_Lattice G_Lattice_init hr (by rfl) T.g_Lattice pass0 (pa_cons (pv 0) (pa_cons (pe_ix (show IxR _ (rIxL K) from ix_list) (pv 1) pe_int (fun _ _ => rfl)) (pa_cons (pe_ix (show IxR _ (rIxL K) from ix_list) (pv 1) pe_int (fun _ _ => rfl)) pa_nil)))))))) pss_nil)
    (pss_cons (ps_if (pt_cmpR op_lt (pe_callB (show CallR _ _ (rLenSq K) from call_len_seq) (by rfl) T.z_len (by decide +kernel) (pa_cons (pv 1) pa_nil)) pe_int (nomark _)) (pss_one (ps_ret (pe_ifExp (pt_cmpR op_eq (pe_callB (show CallR _ _ (rLenSq K) from call_len_seq) (by rfl) T.z_len (by decide +kernel) (pa_cons (pv 1) pa_nil)) pe_int (nomark _)) (StX.pe_makeR T.k_Lattice G_Lattice_init hr (by rfl) T.g_Lattice pass0 (pa_cons (pv 0) (pa_cons (pe_ix (show IxR _ (rIxL K) from ix_list) (pv 1) pe_int (fun _ _ => rfl)) (pa_cons (pe_ix (show IxR _ (rIxL K) from ix_list) (pv 1) pe_int (fun _ _ => rfl)) (pa_cons (pe_ix (show IxR _ (rIxL K) from ix_list) (pv 1) pe_int (fun _ _ => rfl)) pa_nil))))) (StX.pe_makeR T.k_Lattice G_Lattice_init hr (by rfl) T.g_Lattice pass0 (pa_cons (pv 0) (pa_cons (pe_ix (show IxR _ (rIxL K) from ix_list) (pv 1) pe_int (fun _ _ => rfl)) (pa_cons (pe_ix (show IxR _ (rIxL K) from ix_list) (pv 1) pe_int (fun _ _ => rfl)) (pa_cons (pe_ix (show IxR _ (rIxL K) from ix_list) (pv 1) pe_int (fun _ _ => rfl)) (pa_cons (pe_ix (show IxR _ (rIxL K) from ix_list) (pv 1) pe_int (fun _ _ => rfl)) pa_nil))))))))) pss_nil)
    (pss_cons (ps_if (pt_cmpR op_eq (pe_callB (show CallR _ _ (rLenSq K) from call_len_seq) (by rfl) T.z_len (by decide +kernel) (pa_cons (pv 1) pa_nil)) pe_int (nomark _)) (pss_one (ps_ret (StX.pe_makeR T.k_Lattice G_Lattice_init hr (by rfl) T.g_Lattice pass0 (pa_cons (pv 0) (pa_cons (pe_ix (show IxR _ (rIxL K) from ix_list) (pv 1) pe_int (fun _ _ => rfl)) (pa_cons (pe_ix (show IxR _ (rIxL K) from ix_list) (pv 1) pe_int (fun _ _ => rfl)) (pa_cons (pe_ix (show IxR _ (rIxL K) from ix_list) (pv 1) pe_int (fun _ _ => rfl)) (pa_cons (pe_ix (show IxR _ (rIxL K) from ix_list) (pv 1) pe_int (fun _ _ => rfl)) (pa_cons (pe_ix (show IxR _ (rIxL K) from ix_list) (pv 1) pe_int (fun _ _ => rfl)) pa_nil))))))))) pss_nil)
    (pss_one (ps_ret (StX.pe_makeR T.k_Lattice G_Lattice_init hr (by rfl) T.g_Lattice pass0 (pa_cons (pv 0) (pa_cons (pe_ix (show IxR _ (rIxL K) from ix_list) (pv 1) pe_int (fun _ _ => rfl)) (pa_cons (pe_ix (show IxR _ (rIxL K) from ix_list) (pv 1) pe_int (fun _ _ => rfl)) (pa_cons (pe_ix (show IxR _ (rIxL K) from ix_list) (pv 1) pe_int (fun _ _ => rfl)) (pa_cons (pe_ix (show IxR _ (rIxL K) from ix_list) (pv 1) pe_int (fun _ _ => rfl)) (pa_cons (pe_ix (show IxR _ (rIxL K) from ix_list) (pv 1) pe_int (fun _ _ => rfl)) (pa_cons (pe_ix (show IxR _ (rIxL K) from ix_list) (pv 1) pe_int (fun _ _ => rfl)) pa_nil))))))))))))), ?_⟩
  have hrl := hM.1
  have hst : L2.start N_l_lattice [.int (wd : Int), .ref p] = [some (.int (wd : Int)), some (.ref p)] := rfl
  rw [hst]
  refine ⟨_, rfl, p, rs, rfl, .inl hp, _, _, rfl, rfl, _, rfl, ?_⟩
  cases rs with
  | nil =>
    refine iteT' rfl ?_
    obtain ⟨ds, d1, d2, d3, d4⟩ := dp_rowq hM
    refine ⟨_, rfl, by show 0 ≤ sizeLine; decide, fun E1 hE1 => ?_⟩
    have s1 := Same.new (o := .lst []) hE1
    obtain ⟨ds, d1, d2, d3, d4⟩ := dp_rowq (hM.same s1)
    refine ⟨.list ds, dL [], .lst (s1.seq hp) d1, dp_rows (SqL.of upd_same) ⟨rfl, fun i r h => by cases h⟩, list_shaped d2 d3, dL_shaped _, _, rfl, ?_⟩
    cases ds with
    | cons d ds => cases d4
    | nil =>
    refine iteT' rfl ?_
    exact ⟨_, rfl, make_lat (hM.same s1) hw hwd hw1 hl hb fun x H' s L => q x H' (s1.trans s) (L.mono (isLst_same s1))⟩
  | cons r0 rs =>
    cases rs with
    | nil =>
      refine iteT' rfl ?_
      obtain ⟨ds, d1, d2, d3, d4⟩ := dp_rowq hM
      refine ⟨_, rfl, by show 0 ≤ sizeLine; decide, fun E1 hE1 => ?_⟩
      have s1 := Same.new (o := .lst []) hE1
      obtain ⟨ds, d1, d2, d3, d4⟩ := dp_rowq (hM.same s1)
      refine ⟨.list ds, dL [], .lst (s1.seq hp) d1, dp_rows (SqL.of upd_same) ⟨rfl, fun i r h => by cases h⟩, list_shaped d2 d3, dL_shaped _, _, rfl, ?_⟩
      cases ds with
      | nil => cases d4
      | cons d ds =>
      refine iteF' rfl ?_
      refine ⟨_, rfl, p, _, rfl, .inl (s1.seq hp), rfl, _, rfl, ?_⟩
      refine iteT' rfl ?_
      exact ⟨_, rfl, _, rfl, p, _, _, _, rfl, rfl, s1.seq hp, at_of (j := 0) rfl rfl, make_lat (hM.same s1) hw hwd hw1 hl hb fun x H' s L => q x H' (s1.trans s) (L.mono (isLst_same s1))⟩
    | cons r1 rs =>
      cases rs with
      | nil =>
        refine iteT' rfl ?_
        obtain ⟨ds, d1, d2, d3, d4⟩ := dp_rowq hM
        refine ⟨_, rfl, by show 0 ≤ sizeLine; decide, fun E1 hE1 => ?_⟩
        have s1 := Same.new (o := .lst []) hE1
        obtain ⟨ds, d1, d2, d3, d4⟩ := dp_rowq (hM.same s1)
        refine ⟨.list ds, dL [], .lst (s1.seq hp) d1, dp_rows (SqL.of upd_same) ⟨rfl, fun i r h => by cases h⟩, list_shaped d2 d3, dL_shaped _, _, rfl, ?_⟩
        cases ds with
        | nil => cases d4
        | cons d ds =>
        refine iteF' rfl ?_
        refine ⟨_, rfl, p, _, rfl, .inl (s1.seq hp), rfl, _, rfl, ?_⟩
        refine iteF' rfl ?_
        exact ⟨_, rfl, _, rfl, p, _, _, _, rfl, rfl, s1.seq hp, at_of (j := 0) rfl rfl, _, rfl, p, _, _, _, rfl, rfl, s1.seq hp, at_of (j := 1) rfl rfl, make_lat (hM.same s1) hw hwd hw1 hl hb fun x H' s L => q x H' (s1.trans s) (L.mono (isLst_same s1))⟩
      | cons r2 rs =>
        cases rs with
        | nil =>
          refine iteF' rfl ?_
          refine ⟨_, rfl, p, _, rfl, .inl hp, _, _, rfl, rfl, _, rfl, ?_⟩
          refine iteT' rfl ?_
          refine ⟨_, rfl, p, _, rfl, .inl hp, rfl, _, rfl, ?_⟩
          refine iteT' rfl ?_
          exact ⟨_, rfl, _, rfl, p, _, _, _, rfl, rfl, hp, at_of (j := 0) rfl rfl, _, rfl, p, _, _, _, rfl, rfl, hp, at_of (j := 1) rfl rfl, _, rfl, p, _, _, _, rfl, rfl, hp, at_of (j := 2) rfl rfl, make_lat hM hw hwd hw1 hl hb q⟩
        | cons r3 rs =>
          cases rs with
          | nil =>
            refine iteF' rfl ?_
            refine ⟨_, rfl, p, _, rfl, .inl hp, _, _, rfl, rfl, _, rfl, ?_⟩
            refine iteT' rfl ?_
            refine ⟨_, rfl, p, _, rfl, .inl hp, rfl, _, rfl, ?_⟩
            refine iteF' rfl ?_
            exact ⟨_, rfl, _, rfl, p, _, _, _, rfl, rfl, hp, at_of (j := 0) rfl rfl, _, rfl, p, _, _, _, rfl, rfl, hp, at_of (j := 1) rfl rfl, _, rfl, p, _, _, _, rfl, rfl, hp, at_of (j := 2) rfl rfl, _, rfl, p, _, _, _, rfl, rfl, hp, at_of (j := 3) rfl rfl, make_lat hM hw hwd hw1 hl hb q⟩
          | cons r4 rs =>
            cases rs with
            | nil =>
              refine iteF' rfl ?_
              refine ⟨_, rfl, p, _, rfl, .inl hp, _, _, rfl, rfl, _, rfl, ?_⟩
              refine iteF' rfl ?_
              refine ⟨_, rfl, p, _, rfl, .inl hp, rfl, _, rfl, ?_⟩
              refine iteT' rfl ?_
              exact ⟨_, rfl, _, rfl, p, _, _, _, rfl, rfl, hp, at_of (j := 0) rfl rfl, _, rfl, p, _, _, _, rfl, rfl, hp, at_of (j := 1) rfl rfl, _, rfl, p, _, _, _, rfl, rfl, hp, at_of (j := 2) rfl rfl, _, rfl, p, _, _, _, rfl, rfl, hp, at_of (j := 3) rfl rfl, _, rfl, p, _, _, _, rfl, rfl, hp, at_of (j := 4) rfl rfl, make_lat hM hw hwd hw1 hl hb q⟩
            | cons r5 rs =>
              cases rs with
              | nil =>
                refine iteF' rfl ?_
                refine ⟨_, rfl, p, _, rfl, .inl hp, _, _, rfl, rfl, _, rfl, ?_⟩
                refine iteF' rfl ?_
                refine ⟨_, rfl, p, _, rfl, .inl hp, rfl, _, rfl, ?_⟩
                refine iteF' rfl ?_
                exact ⟨_, rfl, _, rfl, p, _, _, _, rfl, rfl, hp, at_of (j := 0) rfl rfl, _, rfl, p, _, _, _, rfl, rfl, hp, at_of (j := 1) rfl rfl, _, rfl, p, _, _, _, rfl, rfl, hp, at_of (j := 2) rfl rfl, _, rfl, p, _, _, _, rfl, rfl, hp, at_of (j := 3) rfl rfl, _, rfl, p, _, _, _, rfl, rfl, hp, at_of (j := 4) rfl rfl, _, rfl, p, _, _, _, rfl, rfl, hp, at_of (j := 5) rfl rfl, make_lat hM hw hwd hw1 hl hb q⟩
              | cons r6 rs =>
                exfalso
                simp only [List.length_cons] at hrl
                omega
end
end TL
namespace TL
open PySem PySem.Spec PyProof.Rows L2
/-! ### kinds of values -/
inductive Kn | int | bool | str | non | list | tup | ins
deriving DecidableEq
def Kn.ty (C : Addr) : Kn → Value
  | .int => .type "int"
  | .bool => .type "bool"
  | .str => .type "str"
  | .non => .type "NoneType"
  | .list => .type "list"
  | .tup => .type "tuple"
  | .ins => .ref C
def Kn.isInt : Kn → Bool
  | .int => true
  | .bool => true
  | _ => false
def Kn.isBool : Kn → Bool
  | .bool => true
  | _ => false
def Kn.isStr : Kn → Bool
  | .str => true
  | _ => false
def Kn.isList : Kn → Bool
  | .list => true
  | _ => false
def Kn.isTup : Kn → Bool
  | .tup => true
  | _ => false
def Kn.isNum (k : Kn) : Bool := k.isInt && !k.isBool
/-- an own class that is none of these -/
structure NoCls (K : PySem.W.Frag) (C : Addr) : Prop where
  int : PySem.W.mroIn K C (.type "int") = some false
  bool : PySem.W.mroIn K C (.type "bool") = some false
  str : PySem.W.mroIn K C (.type "str") = some false
  list : PySem.W.mroIn K C (.type "list") = some false
  tup : PySem.W.mroIn K C (.type "tuple") = some false
section
variable {K : PySem.W.Frag} {C : Addr}
theorem kit_ref {T : String} {b : Bool} (h : PySem.W.mroIn K C (.type T) = some b) (hm : PySem.W.kitMeta T = true) : PySem.W.kitOne K (.ref C) (.type T) = some b := by
  unfold PySem.W.kitOne
  have hn : ¬ (Value.ref C == Value.type T) = true := fun e => by cases (beq_iff_eq.mp e)
  rw [if_neg hn]
  show (if PySem.W.kitMeta T = true then PySem.W.subIn K (.ref C) (.type T) else none) = some b
  rw [if_pos hm]
  exact h
theorem kn_int (J : NoCls K C) : ∀ k : Kn, PySem.W.kitOne K (k.ty C) (.type "int") = some k.isInt
  | .int => kt_int_int
  | .bool => kt_bool_int
  | .str => kt_str_int
  | .non => kt_NoneType_int
  | .list => kt_list_int
  | .tup => kt_tuple_int
  | .ins => kit_ref J.int (by decide +kernel)
theorem kn_bool (J : NoCls K C) : ∀ k : Kn, PySem.W.kitOne K (k.ty C) (.type "bool") = some k.isBool
  | .int => kt_int_bool
  | .bool => kt_bool_bool
  | .str => kt_str_bool
  | .non => kt_NoneType_bool
  | .list => kt_list_bool
  | .tup => kt_tuple_bool
  | .ins => kit_ref J.bool (by decide +kernel)
theorem kn_str (J : NoCls K C) : ∀ k : Kn, PySem.W.kitOne K (k.ty C) (.type "str") = some k.isStr
  | .int => kt_int_str
  | .bool => kt_bool_str
  | .str => kt_str_str
  | .non => kt_NoneType_str
  | .list => kt_list_str
  | .tup => kt_tuple_str
  | .ins => kit_ref J.str (by decide +kernel)
theorem kn_list (J : NoCls K C) : ∀ k : Kn, PySem.W.kitOne K (k.ty C) (.type "list") = some k.isList
  | .int => kt_int_list
  | .bool => kt_bool_list
  | .str => kt_str_list
  | .non => kt_NoneType_list
  | .list => kt_list_list
  | .tup => kt_tuple_list
  | .ins => kit_ref J.list (by decide +kernel)
theorem kn_tup (J : NoCls K C) : ∀ k : Kn, PySem.W.kitOne K (k.ty C) (.type "tuple") = some k.isTup
  | .int => kt_int_tuple
  | .bool => kt_bool_tuple
  | .str => kt_str_tuple
  | .non => kt_NoneType_tuple
  | .list => kt_list_tuple
  | .tup => kt_tuple_tuple
  | .ins => kit_ref J.tup (by decide +kernel)
/-- isinstance(x, (a, b)) -/
theorem kit_two {t a b : Value} {x y : Bool} (h1 : PySem.W.kitOne K t a = some x) (h2 : PySem.W.kitOne K t b = some y) : PySem.W.kitAny K t [a, b] = some (x || y) := by
  refine kitAny_cons h1 (fun e => ?_) (fun e => by rw [e]; rfl)
  subst e
  refine kitAny_cons h2 (fun e => ?_) (fun e => by rw [e]; rfl)
  subst e
  rfl
theorem kn_lt (J : NoCls K C) (k : Kn) : PySem.W.kitAny K (k.ty C) [.type "list", .type "tuple"] = some (k.isList || k.isTup) := kit_two (kn_list J k) (kn_tup J k)
end
section
variable {K : PySem.W.Frag} {C : Addr} {H H' : Hp} {v : V}
def KnV (K : PySem.W.Frag) (C : Addr) (H : Hp) (v : V) (k : Kn) : Prop := TyX K H v (k.ty C)
theorem KnV.i {n : Int} : KnV K C H (.int n) .int := .base (.int n)
theorem KnV.b {x : Bool} : KnV K C H (.bl x) .bool := .base (.bl x)
theorem KnV.s {x : Str} : KnV K C H (.str x) .str := .base (.str x)
theorem KnV.n : KnV K C H .non .non := .base .non
theorem KnV.l {a : Addr} {xs : List V} (h : SqL K H a xs) : KnV K C H (.ref a) .list := tyx_L h
theorem KnV.t {a : Addr} {xs : List V} (h : SqT K H a xs) : KnV K C H (.ref a) .tup := tyx_T h
theorem KnV.o {a dx : Addr} {fs : List (Str × V)} (e : H a = some (.ins C dx fs)) (cl : Cls K C) (ha : PySem.W.findIn K (.ref C) "__class__" = some (some (.builtin "object.__class__")))
    (hn : PySem.W.specialIn K (.builtin "object.__class__") "__get__" = some (some (.builtin "getset_descriptor.__get__"))) (htk : PySem.W.takesIn K (.builtin "object.__class__") = some true) (hm : PySem.W.mroIn K C (.type "object") = some true) : KnV K C H (.ref a) .ins := .base (.ins e cl ha hn htk hm)
end
end TL
namespace TL
open PySem L2

/-! ### steps of a reading -/
local macro_rules | `(tactic| walk_at "hp") => `(tactic| first | assumption | exact upd_same | (refine (upd_ne (by first | assumption | (exact Ne.symm (by assumption)))).trans ?_; walk_at "hp"))
local macro_rules | `(tactic| walk_at "ok") => `(tactic| first | (exact Or.inr ⟨by decide, by decide⟩) | (exact ⟨by decide, by decide⟩) | (exact ⟨by decide, by decide, by decide⟩) | (show _ ≠ _; omega) | (show _ ≠ _; decide) | (exact Or.inl ⟨by omega, by omega⟩) | decide)
local macro_rules | `(tactic| walk_at "sq") => `(tactic| first | assumption | exact SqL.of (by walk_at "hp") | exact SqT.of (by walk_at "hp"))
local macro_rules | `(tactic| walk_at "ty") => `(tactic| first | refine ⟨_, _, Value.type "int", Value.type "list", false, rfl, ClsV.ty _, TyX.base (TyOf.int _), kt_int_list, ?_⟩ | refine ⟨_, _, Value.type "bool", Value.type "list", false, rfl, ClsV.ty _, TyX.base (TyOf.bl _), kt_bool_list, ?_⟩ | refine ⟨_, _, Value.type "str", Value.type "list", false, rfl, ClsV.ty _, TyX.base (TyOf.str _), kt_str_list, ?_⟩ | refine ⟨_, _, Value.type "NoneType", Value.type "list", false, rfl, ClsV.ty _, TyX.base TyOf.non, kt_NoneType_list, ?_⟩ | refine ⟨_, _, Value.type "list", Value.type "list", true, rfl, ClsV.ty _, tyx_L (by walk_at "sq"), kt_list_list, ?_⟩ | refine ⟨_, _, Value.type "tuple", Value.type "list", false, rfl, ClsV.ty _, tyx_T (by walk_at "sq"), kt_tuple_list, ?_⟩ | refine ⟨_, _, Value.type "int", Value.type "tuple", false, rfl, ClsV.ty _, TyX.base (TyOf.int _), kt_int_tuple, ?_⟩ | refine ⟨_, _, Value.type "bool", Value.type "tuple", false, rfl, ClsV.ty _, TyX.base (TyOf.bl _), kt_bool_tuple, ?_⟩ | refine ⟨_, _, Value.type "str", Value.type "tuple", false, rfl, ClsV.ty _, TyX.base (TyOf.str _), kt_str_tuple, ?_⟩ | refine ⟨_, _, Value.type "NoneType", Value.type "tuple", false, rfl, ClsV.ty _, TyX.base TyOf.non, kt_NoneType_tuple, ?_⟩ | refine ⟨_, _, Value.type "list", Value.type "tuple", false, rfl, ClsV.ty _, tyx_L (by walk_at "sq"), kt_list_tuple, ?_⟩ | refine ⟨_, _, Value.type "tuple", Value.type "tuple", true, rfl, ClsV.ty _, tyx_T (by walk_at "sq"), kt_tuple_tuple, ?_⟩ | refine ⟨_, _, Value.type "int", Value.type "bool", false, rfl, ClsV.ty _, TyX.base (TyOf.int _), kt_int_bool, ?_⟩ | refine ⟨_, _, Value.type "bool", Value.type "bool", true, rfl, ClsV.ty _, TyX.base (TyOf.bl _), kt_bool_bool, ?_⟩ | refine ⟨_, _, Value.type "str", Value.type "bool", false, rfl, ClsV.ty _, TyX.base (TyOf.str _), kt_str_bool, ?_⟩ | refine ⟨_, _, Value.type "NoneType", Value.type "bool", false, rfl, ClsV.ty _, TyX.base TyOf.non, kt_NoneType_bool, ?_⟩ | refine ⟨_, _, Value.type "list", Value.type "bool", false, rfl, ClsV.ty _, tyx_L (by walk_at "sq"), kt_list_bool, ?_⟩ | refine ⟨_, _, Value.type "tuple", Value.type "bool", false, rfl, ClsV.ty _, tyx_T (by walk_at "sq"), kt_tuple_bool, ?_⟩ | refine ⟨_, _, Value.type "int", Value.type "int", true, rfl, ClsV.ty _, TyX.base (TyOf.int _), kt_int_int, ?_⟩ | refine ⟨_, _, Value.type "bool", Value.type "int", true, rfl, ClsV.ty _, TyX.base (TyOf.bl _), kt_bool_int, ?_⟩ | refine ⟨_, _, Value.type "str", Value.type "int", false, rfl, ClsV.ty _, TyX.base (TyOf.str _), kt_str_int, ?_⟩ | refine ⟨_, _, Value.type "NoneType", Value.type "int", false, rfl, ClsV.ty _, TyX.base TyOf.non, kt_NoneType_int, ?_⟩ | refine ⟨_, _, Value.type "list", Value.type "int", false, rfl, ClsV.ty _, tyx_L (by walk_at "sq"), kt_list_int, ?_⟩ | refine ⟨_, _, Value.type "tuple", Value.type "int", false, rfl, ClsV.ty _, tyx_T (by walk_at "sq"), kt_tuple_int, ?_⟩ | refine ⟨_, _, Value.type "int", Value.type "str", false, rfl, ClsV.ty _, TyX.base (TyOf.int _), kt_int_str, ?_⟩ | refine ⟨_, _, Value.type "bool", Value.type "str", false, rfl, ClsV.ty _, TyX.base (TyOf.bl _), kt_bool_str, ?_⟩ | refine ⟨_, _, Value.type "str", Value.type "str", true, rfl, ClsV.ty _, TyX.base (TyOf.str _), kt_str_str, ?_⟩ | refine ⟨_, _, Value.type "NoneType", Value.type "str", false, rfl, ClsV.ty _, TyX.base TyOf.non, kt_NoneType_str, ?_⟩ | refine ⟨_, _, Value.type "list", Value.type "str", false, rfl, ClsV.ty _, tyx_L (by walk_at "sq"), kt_list_str, ?_⟩ | refine ⟨_, _, Value.type "tuple", Value.type "str", false, rfl, ClsV.ty _, tyx_T (by walk_at "sq"), kt_tuple_str, ?_⟩)
local macro_rules | `(tactic| walk_at "go1") => `(tactic| first
  | (refine ⟨_, rfl, ?_⟩)
  | (refine ⟨_, _, rfl, rfl, ?_⟩)
  | (refine ⟨_, _, _, _, rfl, rfl, SqL.of (by walk_at "hp"), rfl, ?_⟩)
  | (refine Or.inl ⟨_, rfl, ?_⟩)
  | (refine ⟨rfl, ?_⟩)
  | (refine ⟨_, _, rfl, .inl (SqL.of (by walk_at "hp")), ?_⟩)
  | (refine ⟨_, _, rfl, Or.inl (by assumption), ?_⟩)
  | (refine ⟨_, _, rfl, Or.inr (by assumption), ?_⟩)
  | (refine ⟨(by walk_at "ok"), ?_⟩)
  | (refine ⟨_, _, _, _, rfl, rfl, (by walk_at "hp"), rfl, ?_⟩))
local macro_rules | `(tactic| walk_at "go") => `(tactic| repeat (walk_at "go1"))
local macro_rules | `(tactic| walk_at "gt") => `(tactic| repeat (first | walk_at "go1" | walk_at "ty"))

section
variable {P : Program} {w : World} {K : PySem.W.Frag} {mg : Str → Option Value} {base : Heap}
/-! ### _law_same of equal data -/
theorem Tx.nc (T : Tx K mg) : NoCls K T.C_Lattice := ⟨T.jInt, T.jBool, T.jStr, T.jList, T.jTuple⟩
def spSame (K : PySem.W.Frag) (m : Nat) : Sp := fun vs H Q _ => ∃ (n : Nat) (x y : V), vs = [x, y] ∧ n < m ∧ DEq K H n x y ∧ ∀ H', Same H H' → Q (.bl true) H'
theorem ok_same_step (T : Tx K mg) {m : Nat} (G_l_same : FnOk P w K mg base CX0 m T.f_l_same T.d_l_same ["_law_found", "_law_due"] (spSame K m)) : FnOk P w K mg base CX0 (m + 1) T.f_l_same T.d_l_same ["_law_found", "_law_due"] (spSame K (m + 1)) := by
  refine T.F_l_same.ok sc_l_same (fun vs H Q E h => ?_) (fun cdv A outer s H vs Q E hr h => ?_)
  · obtain ⟨n, x, y, rfl, _⟩ := h
    rfl
  obtain ⟨n, x, y, rfl, hm, hd, q⟩ := h
  have nd := sc_l_same.nd
  have J := T.nc
  have flat : ∀ (x : V) (k : Kn), (∀ H', KnV K T.C_Lattice H' x k) → k.isList = false → k.isTup = false → x ≠ .non → scal x x = true → (∀ H', Same H H' → Q (.bl (decide (x = x))) H') → ∃ t, PSs (cxOf CX0 P w K mg base N_l_same (Str.ofString "_law_same") (defScope s_l_same) T.f_l_same cdv A outer s H E).nox (defBody s_l_same) t ∧ t { nx := fun _ H' => Q .non H', rt := Q } (L2.start N_l_same [x, x]) H := fun x k hk h1 h2 h3 h4 q => by
    have h12 : (k.isList || k.isTup) = false := by rw [h1, h2]; rfl
    refine ⟨_, (pss_cons (ps_if (PW.pt (pw_or (pt_cmpR op_isN (pv 1) pe_non (nomark _)) (pw_or1 (pt_cmpR op_isN (pv 0) pe_non (nomark _))))) (pss_one (ps_ret (pe_and (pe_cmpR op_isN (pv 1) pe_non (nomark _)) (pe_one (pe_cmpR op_isN (pv 0) pe_non (nomark _)))))) pss_nil)
    (pss_cons (ps_if (pt_val (pe_callB (show CallR _ _ (rIsiT K) from call_isiT) (by rfl) T.z_isinstance (by decide +kernel) (pa_cons (pv 1) (pa_cons (pe_tup (pa_cons (pe_bltn (v := .ty "list") (u := .type "list") (by rfl) T.z_list (by decide +kernel) rfl) (pa_cons (pe_bltn (v := .ty "tuple") (u := .type "tuple") (by rfl) T.z_tuple (by decide +kernel) rfl) pa_nil))) pa_nil)))) (pss_cons (ps_if (PW.pt (pw_or (pt_cmpR op_ne (pe_callB (show CallR _ _ (rIsi K) from call_isi) (by rfl) T.z_isinstance (by decide +kernel) (pa_cons (pv 0) (pa_cons (pe_bltn (v := .ty "list") (u := .type "list") (by rfl) T.z_list (by decide +kernel) rfl) pa_nil))) (pe_callB (show CallR _ _ (rIsi K) from call_isi) (by rfl) T.z_isinstance (by decide +kernel) (pa_cons (pv 1) (pa_cons (pe_bltn (v := .ty "list") (u := .type "list") (by rfl) T.z_list (by decide +kernel) rfl) pa_nil))) (nomark _)) (pw_or1 (pt_cmpR op_ne (pe_callB (show CallR _ _ (rIsi K) from call_isi) (by rfl) T.z_isinstance (by decide +kernel) (pa_cons (pv 0) (pa_cons (pe_bltn (v := .ty "tuple") (u := .type "tuple") (by rfl) T.z_tuple (by decide +kernel) rfl) pa_nil))) (pe_callB (show CallR _ _ (rIsi K) from call_isi) (by rfl) T.z_isinstance (by decide +kernel) (pa_cons (pv 1) (pa_cons (pe_bltn (v := .ty "tuple") (u := .type "tuple") (by rfl) T.z_tuple (by decide +kernel) rfl) pa_nil))) (nomark _))))) (pss_one (ps_ret pe_bl)) pss_nil)
    (pss_one (ps_ret (pe_and (pe_cmpR op_eq (pe_callB (show CallR _ _ (rLenSq K) from call_len_seq) (by rfl) T.z_len (by decide +kernel) (pa_cons (pv 0) pa_nil)) (pe_callB (show CallR _ _ (rLenSq K) from call_len_seq) (by rfl) T.z_len (by decide +kernel) (pa_cons (pv 1) pa_nil)) (nomark _)) (pe_one (pe_callB (show CallR _ _ (rAll K) from cr_all rfl) (by rfl) T.z_all (by decide +kernel) (pa_cons (pe_lc (own := [("_law_x", 2), ("_law_y", 3)]) (g := (gTup K 2 (gCons (gName 2) (gCons (gName 3) gNil)))) rfl nd (show PI _ _ _ (RZ.iZipA K _) from RZ.pi_zipA (by rfl) T.z_zip (pa_cons (pv 0) (pa_cons (pv 1) pa_nil))) (blkOk_by (own := [("_law_x", 2), ("_law_y", 3)]) (N := N_l_same) (sc := defScope s_l_same) (by decide +kernel)) (fun _ _ _ _ _ => by exact (pg_tup rfl (pgs_cons (pg_name (i := 2) nd rfl (Or.inl rfl)) (pgs_cons (pg_name (i := 3) nd rfl (Or.inl rfl)) pgs_nil)))) (fun _ _ _ _ _ => by exact pts_nil) (fun _ _ _ _ _ => by exact (pe_call G_l_same hr (by rfl) T.m_l_same T.F_l_same.kp T.b_l_same .nil pass0 (pa_cons (pv 2) (pa_cons (pv 3) pa_nil))))) pa_nil))))))) pss_nil)
    (pss_cons (ps_if (PW.pt (pw_or (pt_val (pe_callB (show CallR _ _ (rIsiT K) from call_isiT) (by rfl) T.z_isinstance (by decide +kernel) (pa_cons (pv 0) (pa_cons (pe_tup (pa_cons (pe_bltn (v := .ty "list") (u := .type "list") (by rfl) T.z_list (by decide +kernel) rfl) (pa_cons (pe_bltn (v := .ty "tuple") (u := .type "tuple") (by rfl) T.z_tuple (by decide +kernel) rfl) pa_nil))) pa_nil)))) (pw_or1 (pt_cmpR op_ne (pe_callB (show CallR _ _ (rIsi K) from call_isi) (by rfl) T.z_isinstance (by decide +kernel) (pa_cons (pv 0) (pa_cons (pe_bltn (v := .ty "bool") (u := .type "bool") (by rfl) T.z_bool (by decide +kernel) rfl) pa_nil))) (pe_callB (show CallR _ _ (rIsi K) from call_isi) (by rfl) T.z_isinstance (by decide +kernel) (pa_cons (pv 1) (pa_cons (pe_bltn (v := .ty "bool") (u := .type "bool") (by rfl) T.z_bool (by decide +kernel) rfl) pa_nil))) (nomark _))))) (pss_one (ps_ret pe_bl)) pss_nil)
    (pss_cons (ps_if (PW.pt (pw_or (pt_cmpR op_ne (pe_callB (show CallR _ _ (rIsi K) from call_isi) (by rfl) T.z_isinstance (by decide +kernel) (pa_cons (pv 0) (pa_cons (pe_bltn (v := .ty "int") (u := .type "int") (by rfl) T.z_int (by decide +kernel) rfl) pa_nil))) (pe_callB (show CallR _ _ (rIsi K) from call_isi) (by rfl) T.z_isinstance (by decide +kernel) (pa_cons (pv 1) (pa_cons (pe_bltn (v := .ty "int") (u := .type "int") (by rfl) T.z_int (by decide +kernel) rfl) pa_nil))) (nomark _)) (pw_or1 (pt_cmpR op_ne (pe_callB (show CallR _ _ (rIsi K) from call_isi) (by rfl) T.z_isinstance (by decide +kernel) (pa_cons (pv 0) (pa_cons (pe_bltn (v := .ty "str") (u := .type "str") (by rfl) T.z_str (by decide +kernel) rfl) pa_nil))) (pe_callB (show CallR _ _ (rIsi K) from call_isi) (by rfl) T.z_isinstance (by decide +kernel) (pa_cons (pv 1) (pa_cons (pe_bltn (v := .ty "str") (u := .type "str") (by rfl) T.z_str (by decide +kernel) rfl) pa_nil))) (nomark _))))) (pss_one (ps_ret pe_bl)) pss_nil)
    (pss_one (ps_ret (pe_cmpR op_eq (pv 0) (pv 1) (nomark _)))))))), ?_⟩
    have d3 : decide (x = V.non) = false := decide_eq_false h3
    refine ⟨_, rfl, rfl, _, rfl, ?_⟩
    rw [d3]
    refine iteF' rfl ?_
    refine ⟨_, rfl, rfl, _, rfl, ?_⟩
    rw [d3]
    refine iteF' rfl ?_
    refine ⟨_, rfl, (by show 2 ≤ sizeLine; decide), fun p hp => ⟨x, p, _, _, [.type "list", .type "tuple"], _, rfl, upd_same, .cons (.ty _) (.cons (.ty _) .nil), hk _, kn_lt J k, _, rfl, ?_⟩⟩
    refine iteF' h12 ?_
    refine ⟨_, rfl, (by show 2 ≤ sizeLine; decide), fun p2 hp2 => ⟨x, p2, _, _, [.type "list", .type "tuple"], _, rfl, upd_same, .cons (.ty _) (.cons (.ty _) .nil), hk _, kn_lt J k, _, rfl, ?_⟩⟩
    refine iteF' h12 ?_
    refine ⟨_, rfl, _, _, _, _, _, rfl, ClsV.ty _, hk _, kn_bool J k, _, rfl, _, _, _, _, _, rfl, ClsV.ty _, hk _, kn_bool J k, rfl, _, rfl, ?_⟩
    refine iteF' (by rw [decide_eq_true rfl]; rfl) ?_
    refine ⟨_, rfl, _, _, _, _, _, rfl, ClsV.ty _, hk _, kn_int J k, _, rfl, _, _, _, _, _, rfl, ClsV.ty _, hk _, kn_int J k, rfl, _, rfl, ?_⟩
    refine iteF' (by rw [decide_eq_true rfl]; rfl) ?_
    refine ⟨_, rfl, _, _, _, _, _, rfl, ClsV.ty _, hk _, kn_str J k, _, rfl, _, _, _, _, _, rfl, ClsV.ty _, hk _, kn_str J k, rfl, _, rfl, ?_⟩
    refine iteF' (by rw [decide_eq_true rfl]; rfl) ?_
    refine ⟨_, rfl, _, rfl, h4, ?_⟩
    exact q _ ((Same.new hp).trans (Same.new hp2))
  cases hd with
  | int i =>
    refine flat (.int i) .int (fun _ => .i) rfl rfl (fun z => by cases z) rfl fun H' s => ?_
    rw [decide_eq_true rfl]
    exact q H' s
  | bl b =>
    refine flat (.bl b) .bool (fun _ => .b) rfl rfl (fun z => by cases z) rfl fun H' s => ?_
    rw [decide_eq_true rfl]
    exact q H' s
  | str x =>
    refine flat (.str x) .str (fun _ => .s) rfl rfl (fun z => by cases z) rfl fun H' s => ?_
    rw [decide_eq_true rfl]
    exact q H' s
  | non =>
    refine ⟨_, (pss_cons (ps_if (PW.pt (pw_or (pt_cmpR op_isN (pv 1) pe_non (nomark _)) (pw_or1 (pt_cmpR op_isN (pv 0) pe_non (nomark _))))) (pss_one (ps_ret (pe_and (pe_cmpR op_isN (pv 1) pe_non (nomark _)) (pe_one (pe_cmpR op_isN (pv 0) pe_non (nomark _)))))) pss_nil)
    (pss_cons (ps_if (pt_val (pe_callB (show CallR _ _ (rIsiT K) from call_isiT) (by rfl) T.z_isinstance (by decide +kernel) (pa_cons (pv 1) (pa_cons (pe_tup (pa_cons (pe_bltn (v := .ty "list") (u := .type "list") (by rfl) T.z_list (by decide +kernel) rfl) (pa_cons (pe_bltn (v := .ty "tuple") (u := .type "tuple") (by rfl) T.z_tuple (by decide +kernel) rfl) pa_nil))) pa_nil)))) (pss_cons (ps_if (PW.pt (pw_or (pt_cmpR op_ne (pe_callB (show CallR _ _ (rIsi K) from call_isi) (by rfl) T.z_isinstance (by decide +kernel) (pa_cons (pv 0) (pa_cons (pe_bltn (v := .ty "list") (u := .type "list") (by rfl) T.z_list (by decide +kernel) rfl) pa_nil))) (pe_callB (show CallR _ _ (rIsi K) from call_isi) (by rfl) T.z_isinstance (by decide +kernel) (pa_cons (pv 1) (pa_cons (pe_bltn (v := .ty "list") (u := .type "list") (by rfl) T.z_list (by decide +kernel) rfl) pa_nil))) (nomark _)) (pw_or1 (pt_cmpR op_ne (pe_callB (show CallR _ _ (rIsi K) from call_isi) (by rfl) T.z_isinstance (by decide +kernel) (pa_cons (pv 0) (pa_cons (pe_bltn (v := .ty "tuple") (u := .type "tuple") (by rfl) T.z_tuple (by decide +kernel) rfl) pa_nil))) (pe_callB (show CallR _ _ (rIsi K) from call_isi) (by rfl) T.z_isinstance (by decide +kernel) (pa_cons (pv 1) (pa_cons (pe_bltn (v := .ty "tuple") (u := .type "tuple") (by rfl) T.z_tuple (by decide +kernel) rfl) pa_nil))) (nomark _))))) (pss_one (ps_ret pe_bl)) pss_nil)
    (pss_one (ps_ret (pe_and (pe_cmpR op_eq (pe_callB (show CallR _ _ (rLenSq K) from call_len_seq) (by rfl) T.z_len (by decide +kernel) (pa_cons (pv 0) pa_nil)) (pe_callB (show CallR _ _ (rLenSq K) from call_len_seq) (by rfl) T.z_len (by decide +kernel) (pa_cons (pv 1) pa_nil)) (nomark _)) (pe_one (pe_callB (show CallR _ _ (rAll K) from cr_all rfl) (by rfl) T.z_all (by decide +kernel) (pa_cons (pe_lc (own := [("_law_x", 2), ("_law_y", 3)]) (g := (gTup K 2 (gCons (gName 2) (gCons (gName 3) gNil)))) rfl nd (show PI _ _ _ (RZ.iZipA K _) from RZ.pi_zipA (by rfl) T.z_zip (pa_cons (pv 0) (pa_cons (pv 1) pa_nil))) (blkOk_by (own := [("_law_x", 2), ("_law_y", 3)]) (N := N_l_same) (sc := defScope s_l_same) (by decide +kernel)) (fun _ _ _ _ _ => by exact (pg_tup rfl (pgs_cons (pg_name (i := 2) nd rfl (Or.inl rfl)) (pgs_cons (pg_name (i := 3) nd rfl (Or.inl rfl)) pgs_nil)))) (fun _ _ _ _ _ => by exact pts_nil) (fun _ _ _ _ _ => by exact (pe_call G_l_same hr (by rfl) T.m_l_same T.F_l_same.kp T.b_l_same .nil pass0 (pa_cons (pv 2) (pa_cons (pv 3) pa_nil))))) pa_nil))))))) pss_nil)
    (pss_cons (ps_if (PW.pt (pw_or (pt_val (pe_callB (show CallR _ _ (rIsiT K) from call_isiT) (by rfl) T.z_isinstance (by decide +kernel) (pa_cons (pv 0) (pa_cons (pe_tup (pa_cons (pe_bltn (v := .ty "list") (u := .type "list") (by rfl) T.z_list (by decide +kernel) rfl) (pa_cons (pe_bltn (v := .ty "tuple") (u := .type "tuple") (by rfl) T.z_tuple (by decide +kernel) rfl) pa_nil))) pa_nil)))) (pw_or1 (pt_cmpR op_ne (pe_callB (show CallR _ _ (rIsi K) from call_isi) (by rfl) T.z_isinstance (by decide +kernel) (pa_cons (pv 0) (pa_cons (pe_bltn (v := .ty "bool") (u := .type "bool") (by rfl) T.z_bool (by decide +kernel) rfl) pa_nil))) (pe_callB (show CallR _ _ (rIsi K) from call_isi) (by rfl) T.z_isinstance (by decide +kernel) (pa_cons (pv 1) (pa_cons (pe_bltn (v := .ty "bool") (u := .type "bool") (by rfl) T.z_bool (by decide +kernel) rfl) pa_nil))) (nomark _))))) (pss_one (ps_ret pe_bl)) pss_nil)
    (pss_cons (ps_if (PW.pt (pw_or (pt_cmpR op_ne (pe_callB (show CallR _ _ (rIsi K) from call_isi) (by rfl) T.z_isinstance (by decide +kernel) (pa_cons (pv 0) (pa_cons (pe_bltn (v := .ty "int") (u := .type "int") (by rfl) T.z_int (by decide +kernel) rfl) pa_nil))) (pe_callB (show CallR _ _ (rIsi K) from call_isi) (by rfl) T.z_isinstance (by decide +kernel) (pa_cons (pv 1) (pa_cons (pe_bltn (v := .ty "int") (u := .type "int") (by rfl) T.z_int (by decide +kernel) rfl) pa_nil))) (nomark _)) (pw_or1 (pt_cmpR op_ne (pe_callB (show CallR _ _ (rIsi K) from call_isi) (by rfl) T.z_isinstance (by decide +kernel) (pa_cons (pv 0) (pa_cons (pe_bltn (v := .ty "str") (u := .type "str") (by rfl) T.z_str (by decide +kernel) rfl) pa_nil))) (pe_callB (show CallR _ _ (rIsi K) from call_isi) (by rfl) T.z_isinstance (by decide +kernel) (pa_cons (pv 1) (pa_cons (pe_bltn (v := .ty "str") (u := .type "str") (by rfl) T.z_str (by decide +kernel) rfl) pa_nil))) (nomark _))))) (pss_one (ps_ret pe_bl)) pss_nil)
    (pss_one (ps_ret (pe_cmpR op_eq (pv 0) (pv 1) (nomark _)))))))), ?_⟩
    refine ⟨_, rfl, rfl, _, rfl, ?_⟩
    refine iteT' rfl ?_
    refine ⟨_, rfl, rfl, true, rfl, _, rfl, rfl, ?_⟩
    exact q _ (Same.refl _)
  | @lst n a b xs ys h1 h2 hlen hl he =>
    refine ⟨_, (pss_cons (ps_if (PW.pt (pw_or (pt_cmpR op_isN (pv 1) pe_non (nomark _)) (pw_or1 (pt_cmpR op_isN (pv 0) pe_non (nomark _))))) (pss_one (ps_ret (pe_and (pe_cmpR op_isN (pv 1) pe_non (nomark _)) (pe_one (pe_cmpR op_isN (pv 0) pe_non (nomark _)))))) pss_nil)
    (pss_cons (ps_if (pt_val (pe_callB (show CallR _ _ (rIsiT K) from call_isiT) (by rfl) T.z_isinstance (by decide +kernel) (pa_cons (pv 1) (pa_cons (pe_tup (pa_cons (pe_bltn (v := .ty "list") (u := .type "list") (by rfl) T.z_list (by decide +kernel) rfl) (pa_cons (pe_bltn (v := .ty "tuple") (u := .type "tuple") (by rfl) T.z_tuple (by decide +kernel) rfl) pa_nil))) pa_nil)))) (pss_cons (ps_if (PW.pt (pw_or (pt_cmpR op_ne (pe_callB (show CallR _ _ (rIsi K) from call_isi) (by rfl) T.z_isinstance (by decide +kernel) (pa_cons (pv 0) (pa_cons (pe_bltn (v := .ty "list") (u := .type "list") (by rfl) T.z_list (by decide +kernel) rfl) pa_nil))) (pe_callB (show CallR _ _ (rIsi K) from call_isi) (by rfl) T.z_isinstance (by decide +kernel) (pa_cons (pv 1) (pa_cons (pe_bltn (v := .ty "list") (u := .type "list") (by rfl) T.z_list (by decide +kernel) rfl) pa_nil))) (nomark _)) (pw_or1 (pt_cmpR op_ne (pe_callB (show CallR _ _ (rIsi K) from call_isi) (by rfl) T.z_isinstance (by decide +kernel) (pa_cons (pv 0) (pa_cons (pe_bltn (v := .ty "tuple") (u := .type "tuple") (by rfl) T.z_tuple (by decide +kernel) rfl) pa_nil))) (pe_callB (show CallR _ _ (rIsi K) from call_isi) (by rfl) T.z_isinstance (by decide +kernel) (pa_cons (pv 1) (pa_cons (pe_bltn (v := .ty "tuple") (u := .type "tuple") (by rfl) T.z_tuple (by decide +kernel) rfl) pa_nil))) (nomark _))))) (pss_one (ps_ret pe_bl)) pss_nil)
    (pss_one (ps_ret (pe_and (pe_cmpR op_eq (pe_callB (show CallR _ _ (rLenSq K) from call_len_seq) (by rfl) T.z_len (by decide +kernel) (pa_cons (pv 0) pa_nil)) (pe_callB (show CallR _ _ (rLenSq K) from call_len_seq) (by rfl) T.z_len (by decide +kernel) (pa_cons (pv 1) pa_nil)) (nomark _)) (pe_one (pe_callB (show CallR _ _ (rAll K) from cr_all rfl) (by rfl) T.z_all (by decide +kernel) (pa_cons (pe_lc (own := [("_law_x", 2), ("_law_y", 3)]) (g := (gTup K 2 (gCons (gName 2) (gCons (gName 3) gNil)))) rfl nd (show PI _ _ _ (RZ.iZipA K _) from RZ.pi_zipA (by rfl) T.z_zip (pa_cons (pv 0) (pa_cons (pv 1) pa_nil))) (blkOk_by (own := [("_law_x", 2), ("_law_y", 3)]) (N := N_l_same) (sc := defScope s_l_same) (by decide +kernel)) (fun _ _ _ _ _ => by exact (pg_tup rfl (pgs_cons (pg_name (i := 2) nd rfl (Or.inl rfl)) (pgs_cons (pg_name (i := 3) nd rfl (Or.inl rfl)) pgs_nil)))) (fun _ _ _ _ _ => by exact pts_nil) (fun _ _ _ _ _ => by exact (pe_call G_l_same hr (by rfl) T.m_l_same T.F_l_same.kp T.b_l_same .nil pass0 (pa_cons (pv 2) (pa_cons (pv 3) pa_nil))))) pa_nil))))))) pss_nil)
    (pss_cons (ps_if (PW.pt (pw_or (pt_val (pe_callB (show CallR _ _ (rIsiT K) from call_isiT) (by rfl) T.z_isinstance (by decide +kernel) (pa_cons (pv 0) (pa_cons (pe_tup (pa_cons (pe_bltn (v := .ty "list") (u := .type "list") (by rfl) T.z_list (by decide +kernel) rfl) (pa_cons (pe_bltn (v := .ty "tuple") (u := .type "tuple") (by rfl) T.z_tuple (by decide +kernel) rfl) pa_nil))) pa_nil)))) (pw_or1 (pt_cmpR op_ne (pe_callB (show CallR _ _ (rIsi K) from call_isi) (by rfl) T.z_isinstance (by decide +kernel) (pa_cons (pv 0) (pa_cons (pe_bltn (v := .ty "bool") (u := .type "bool") (by rfl) T.z_bool (by decide +kernel) rfl) pa_nil))) (pe_callB (show CallR _ _ (rIsi K) from call_isi) (by rfl) T.z_isinstance (by decide +kernel) (pa_cons (pv 1) (pa_cons (pe_bltn (v := .ty "bool") (u := .type "bool") (by rfl) T.z_bool (by decide +kernel) rfl) pa_nil))) (nomark _))))) (pss_one (ps_ret pe_bl)) pss_nil)
    (pss_cons (ps_if (PW.pt (pw_or (pt_cmpR op_ne (pe_callB (show CallR _ _ (rIsi K) from call_isi) (by rfl) T.z_isinstance (by decide +kernel) (pa_cons (pv 0) (pa_cons (pe_bltn (v := .ty "int") (u := .type "int") (by rfl) T.z_int (by decide +kernel) rfl) pa_nil))) (pe_callB (show CallR _ _ (rIsi K) from call_isi) (by rfl) T.z_isinstance (by decide +kernel) (pa_cons (pv 1) (pa_cons (pe_bltn (v := .ty "int") (u := .type "int") (by rfl) T.z_int (by decide +kernel) rfl) pa_nil))) (nomark _)) (pw_or1 (pt_cmpR op_ne (pe_callB (show CallR _ _ (rIsi K) from call_isi) (by rfl) T.z_isinstance (by decide +kernel) (pa_cons (pv 0) (pa_cons (pe_bltn (v := .ty "str") (u := .type "str") (by rfl) T.z_str (by decide +kernel) rfl) pa_nil))) (pe_callB (show CallR _ _ (rIsi K) from call_isi) (by rfl) T.z_isinstance (by decide +kernel) (pa_cons (pv 1) (pa_cons (pe_bltn (v := .ty "str") (u := .type "str") (by rfl) T.z_str (by decide +kernel) rfl) pa_nil))) (nomark _))))) (pss_one (ps_ret pe_bl)) pss_nil)
    (pss_one (ps_ret (pe_cmpR op_eq (pv 0) (pv 1) (nomark _)))))))), ?_⟩
    refine ⟨_, rfl, rfl, _, rfl, ?_⟩
    refine iteF' (decide_eq_false fun z => by cases z) ?_
    refine ⟨_, rfl, rfl, _, rfl, ?_⟩
    refine iteF' (decide_eq_false fun z => by cases z) ?_
    refine ⟨_, rfl, (by show 2 ≤ sizeLine; decide), fun p hp => ?_⟩
    have s1 := Same.new (o := .tup [.ty "list", .ty "tuple"]) hp
    have g1 := s1.seq h1
    have g2 := s1.seq h2
    refine ⟨_, p, _, _, [.type "list", .type "tuple"], _, rfl, upd_same, .cons (.ty _) (.cons (.ty _) .nil), KnV.l (C := T.C_Lattice) g2, kn_lt J .list, _, rfl, ?_⟩
    refine iteT' rfl ?_
    refine ⟨_, rfl, _, _, _, _, _, rfl, ClsV.ty _, KnV.l (C := T.C_Lattice) g1, kn_list J .list, _, rfl, _, _, _, _, _, rfl, ClsV.ty _, KnV.l (C := T.C_Lattice) g2, kn_list J .list, rfl, _, rfl, ?_⟩
    refine iteF' (by rw [decide_eq_true rfl]; rfl) ?_
    refine ⟨_, rfl, _, _, _, _, _, rfl, ClsV.ty _, KnV.l (C := T.C_Lattice) g1, kn_tup J .list, _, rfl, _, _, _, _, _, rfl, ClsV.ty _, KnV.l (C := T.C_Lattice) g2, kn_tup J .list, rfl, _, rfl, ?_⟩
    refine iteF' (by rw [decide_eq_true rfl]; rfl) ?_
    refine ⟨_, rfl, a, xs, rfl, .inl g1, _, rfl, b, ys, rfl, .inl g2, rfl, true, congrArg V.bl (decide_eq_true (by rw [hl])), ?_⟩
    refine ⟨_, rfl, _, rfl, a, b, xs, ys, rfl, .inl ⟨g1, g2, fun D hD => ?_⟩⟩
    refine lcm (walk_zip (n := xs.length) (by omega)) (List.replicate xs.length (V.bl true)) (by simp) hlen hD (fun H' s => ⟨s.seq g1, s.seq g2⟩) ?_ ?_
    · rintro i y x H1 H2 hi hy s3 ⟨Tp, u, z, rfl, hT, rfl, hu, hz⟩ k hk
      obtain rfl := rep_get hy
      have s2 : Same H1 (upd H1 Tp (.tup [u, z])) := Same.new hT
      refine ⟨Tp, [u, z], rfl, SqT.of upd_same, rfl, u, [z], rfl, z, [], rfl, rfl, rfl, ?_⟩
      exact ⟨_, rfl, _, rfl, n, u, z, rfl, by omega, (he i u z hu hz).same ((s1.trans s3).trans s2), fun H4 s4 => hk H4 (s2.trans s4)⟩
    · intro H' s3 hD'
      refine ⟨D, List.replicate xs.length true, rfl, SqL.of (by rw [hD', List.map_replicate]), ?_⟩
      rw [all_rep]
      exact q H' (s1.trans s3)
  | @tup n a b xs ys h1 h2 hlen hl he =>
    refine ⟨_, (pss_cons (ps_if (PW.pt (pw_or (pt_cmpR op_isN (pv 1) pe_non (nomark _)) (pw_or1 (pt_cmpR op_isN (pv 0) pe_non (nomark _))))) (pss_one (ps_ret (pe_and (pe_cmpR op_isN (pv 1) pe_non (nomark _)) (pe_one (pe_cmpR op_isN (pv 0) pe_non (nomark _)))))) pss_nil)
    (pss_cons (ps_if (pt_val (pe_callB (show CallR _ _ (rIsiT K) from call_isiT) (by rfl) T.z_isinstance (by decide +kernel) (pa_cons (pv 1) (pa_cons (pe_tup (pa_cons (pe_bltn (v := .ty "list") (u := .type "list") (by rfl) T.z_list (by decide +kernel) rfl) (pa_cons (pe_bltn (v := .ty "tuple") (u := .type "tuple") (by rfl) T.z_tuple (by decide +kernel) rfl) pa_nil))) pa_nil)))) (pss_cons (ps_if (PW.pt (pw_or (pt_cmpR op_ne (pe_callB (show CallR _ _ (rIsi K) from call_isi) (by rfl) T.z_isinstance (by decide +kernel) (pa_cons (pv 0) (pa_cons (pe_bltn (v := .ty "list") (u := .type "list") (by rfl) T.z_list (by decide +kernel) rfl) pa_nil))) (pe_callB (show CallR _ _ (rIsi K) from call_isi) (by rfl) T.z_isinstance (by decide +kernel) (pa_cons (pv 1) (pa_cons (pe_bltn (v := .ty "list") (u := .type "list") (by rfl) T.z_list (by decide +kernel) rfl) pa_nil))) (nomark _)) (pw_or1 (pt_cmpR op_ne (pe_callB (show CallR _ _ (rIsi K) from call_isi) (by rfl) T.z_isinstance (by decide +kernel) (pa_cons (pv 0) (pa_cons (pe_bltn (v := .ty "tuple") (u := .type "tuple") (by rfl) T.z_tuple (by decide +kernel) rfl) pa_nil))) (pe_callB (show CallR _ _ (rIsi K) from call_isi) (by rfl) T.z_isinstance (by decide +kernel) (pa_cons (pv 1) (pa_cons (pe_bltn (v := .ty "tuple") (u := .type "tuple") (by rfl) T.z_tuple (by decide +kernel) rfl) pa_nil))) (nomark _))))) (pss_one (ps_ret pe_bl)) pss_nil)
    (pss_one (ps_ret (pe_and (pe_cmpR op_eq (pe_callB (show CallR _ _ (rLenSq K) from call_len_seq) (by rfl) T.z_len (by decide +kernel) (pa_cons (pv 0) pa_nil)) (pe_callB (show CallR _ _ (rLenSq K) from call_len_seq) (by rfl) T.z_len (by decide +kernel) (pa_cons (pv 1) pa_nil)) (nomark _)) (pe_one (pe_callB (show CallR _ _ (rAll K) from cr_all rfl) (by rfl) T.z_all (by decide +kernel) (pa_cons (pe_lc (own := [("_law_x", 2), ("_law_y", 3)]) (g := (gTup K 2 (gCons (gName 2) (gCons (gName 3) gNil)))) rfl nd (show PI _ _ _ (RZ.iZipA K _) from RZ.pi_zipA (by rfl) T.z_zip (pa_cons (pv 0) (pa_cons (pv 1) pa_nil))) (blkOk_by (own := [("_law_x", 2), ("_law_y", 3)]) (N := N_l_same) (sc := defScope s_l_same) (by decide +kernel)) (fun _ _ _ _ _ => by exact (pg_tup rfl (pgs_cons (pg_name (i := 2) nd rfl (Or.inl rfl)) (pgs_cons (pg_name (i := 3) nd rfl (Or.inl rfl)) pgs_nil)))) (fun _ _ _ _ _ => by exact pts_nil) (fun _ _ _ _ _ => by exact (pe_call G_l_same hr (by rfl) T.m_l_same T.F_l_same.kp T.b_l_same .nil pass0 (pa_cons (pv 2) (pa_cons (pv 3) pa_nil))))) pa_nil))))))) pss_nil)
    (pss_cons (ps_if (PW.pt (pw_or (pt_val (pe_callB (show CallR _ _ (rIsiT K) from call_isiT) (by rfl) T.z_isinstance (by decide +kernel) (pa_cons (pv 0) (pa_cons (pe_tup (pa_cons (pe_bltn (v := .ty "list") (u := .type "list") (by rfl) T.z_list (by decide +kernel) rfl) (pa_cons (pe_bltn (v := .ty "tuple") (u := .type "tuple") (by rfl) T.z_tuple (by decide +kernel) rfl) pa_nil))) pa_nil)))) (pw_or1 (pt_cmpR op_ne (pe_callB (show CallR _ _ (rIsi K) from call_isi) (by rfl) T.z_isinstance (by decide +kernel) (pa_cons (pv 0) (pa_cons (pe_bltn (v := .ty "bool") (u := .type "bool") (by rfl) T.z_bool (by decide +kernel) rfl) pa_nil))) (pe_callB (show CallR _ _ (rIsi K) from call_isi) (by rfl) T.z_isinstance (by decide +kernel) (pa_cons (pv 1) (pa_cons (pe_bltn (v := .ty "bool") (u := .type "bool") (by rfl) T.z_bool (by decide +kernel) rfl) pa_nil))) (nomark _))))) (pss_one (ps_ret pe_bl)) pss_nil)
    (pss_cons (ps_if (PW.pt (pw_or (pt_cmpR op_ne (pe_callB (show CallR _ _ (rIsi K) from call_isi) (by rfl) T.z_isinstance (by decide +kernel) (pa_cons (pv 0) (pa_cons (pe_bltn (v := .ty "int") (u := .type "int") (by rfl) T.z_int (by decide +kernel) rfl) pa_nil))) (pe_callB (show CallR _ _ (rIsi K) from call_isi) (by rfl) T.z_isinstance (by decide +kernel) (pa_cons (pv 1) (pa_cons (pe_bltn (v := .ty "int") (u := .type "int") (by rfl) T.z_int (by decide +kernel) rfl) pa_nil))) (nomark _)) (pw_or1 (pt_cmpR op_ne (pe_callB (show CallR _ _ (rIsi K) from call_isi) (by rfl) T.z_isinstance (by decide +kernel) (pa_cons (pv 0) (pa_cons (pe_bltn (v := .ty "str") (u := .type "str") (by rfl) T.z_str (by decide +kernel) rfl) pa_nil))) (pe_callB (show CallR _ _ (rIsi K) from call_isi) (by rfl) T.z_isinstance (by decide +kernel) (pa_cons (pv 1) (pa_cons (pe_bltn (v := .ty "str") (u := .type "str") (by rfl) T.z_str (by decide +kernel) rfl) pa_nil))) (nomark _))))) (pss_one (ps_ret pe_bl)) pss_nil)
    (pss_one (ps_ret (pe_cmpR op_eq (pv 0) (pv 1) (nomark _)))))))), ?_⟩
    refine ⟨_, rfl, rfl, _, rfl, ?_⟩
    refine iteF' (decide_eq_false fun z => by cases z) ?_
    refine ⟨_, rfl, rfl, _, rfl, ?_⟩
    refine iteF' (decide_eq_false fun z => by cases z) ?_
    refine ⟨_, rfl, (by show 2 ≤ sizeLine; decide), fun p hp => ?_⟩
    have s1 := Same.new (o := .tup [.ty "list", .ty "tuple"]) hp
    have g1 := seqT s1 h1
    have g2 := seqT s1 h2
    refine ⟨_, p, _, _, [.type "list", .type "tuple"], _, rfl, upd_same, .cons (.ty _) (.cons (.ty _) .nil), KnV.t (C := T.C_Lattice) g2, kn_lt J .tup, _, rfl, ?_⟩
    refine iteT' rfl ?_
    refine ⟨_, rfl, _, _, _, _, _, rfl, ClsV.ty _, KnV.t (C := T.C_Lattice) g1, kn_list J .tup, _, rfl, _, _, _, _, _, rfl, ClsV.ty _, KnV.t (C := T.C_Lattice) g2, kn_list J .tup, rfl, _, rfl, ?_⟩
    refine iteF' (by rw [decide_eq_true rfl]; rfl) ?_
    refine ⟨_, rfl, _, _, _, _, _, rfl, ClsV.ty _, KnV.t (C := T.C_Lattice) g1, kn_tup J .tup, _, rfl, _, _, _, _, _, rfl, ClsV.ty _, KnV.t (C := T.C_Lattice) g2, kn_tup J .tup, rfl, _, rfl, ?_⟩
    refine iteF' (by rw [decide_eq_true rfl]; rfl) ?_
    refine ⟨_, rfl, a, xs, rfl, .inr g1, _, rfl, b, ys, rfl, .inr g2, rfl, true, congrArg V.bl (decide_eq_true (by rw [hl])), ?_⟩
    refine ⟨_, rfl, _, rfl, a, b, xs, ys, rfl, .inr ⟨g1, g2, fun D hD => ?_⟩⟩
    refine lcm (walk_zipT (n := xs.length) (by omega)) (List.replicate xs.length (V.bl true)) (by simp) hlen hD (fun H' s => ⟨seqT s g1, seqT s g2⟩) ?_ ?_
    · rintro i y x H1 H2 hi hy s3 ⟨Tp, u, z, rfl, hT, rfl, hu, hz⟩ k hk
      obtain rfl := rep_get hy
      have s2 : Same H1 (upd H1 Tp (.tup [u, z])) := Same.new hT
      refine ⟨Tp, [u, z], rfl, SqT.of upd_same, rfl, u, [z], rfl, z, [], rfl, rfl, rfl, ?_⟩
      exact ⟨_, rfl, _, rfl, n, u, z, rfl, by omega, (he i u z hu hz).same ((s1.trans s3).trans s2), fun H4 s4 => hk H4 (s2.trans s4)⟩
    · intro H' s3 hD'
      refine ⟨D, List.replicate xs.length true, rfl, SqL.of (by rw [hD', List.map_replicate]), ?_⟩
      rw [all_rep]
      exact q H' (s1.trans s3)
theorem ok_same (T : Tx K mg) : ∀ m : Nat, FnOk P w K mg base CX0 m T.f_l_same T.d_l_same ["_law_found", "_law_due"] (spSame K m)
  | 0 => by
    have no : ∀ vs H Q E, ¬ spSame K 0 vs H Q E := fun vs H Q E h => by
      obtain ⟨n, x, y, _, h1, _⟩ := h
      omega
    exact ⟨fun vs H Q E h => absurd h (no vs H Q E), fun A outer s H args us vs Q E _ _ _ _ h => absurd h (no vs H Q E)⟩
  | m + 1 => ok_same_step T (ok_same T m)
end
end TL
namespace TL
open PySem L2

/-! ### steps of a reading -/
local macro_rules | `(tactic| walk_at "hp") => `(tactic| first | assumption | exact upd_same | (refine (upd_ne (by first | assumption | (exact Ne.symm (by assumption)))).trans ?_; walk_at "hp"))
local macro_rules | `(tactic| walk_at "ok") => `(tactic| first | (exact Or.inr ⟨by decide, by decide⟩) | (exact ⟨by decide, by decide⟩) | (exact ⟨by decide, by decide, by decide⟩) | (show _ ≠ _; omega) | (show _ ≠ _; decide) | (exact Or.inl ⟨by omega, by omega⟩) | decide)
local macro_rules | `(tactic| walk_at "sq") => `(tactic| first | assumption | exact SqL.of (by walk_at "hp") | exact SqT.of (by walk_at "hp"))
local macro_rules | `(tactic| walk_at "ty") => `(tactic| first | refine ⟨_, _, Value.type "int", Value.type "list", false, rfl, ClsV.ty _, TyX.base (TyOf.int _), kt_int_list, ?_⟩ | refine ⟨_, _, Value.type "bool", Value.type "list", false, rfl, ClsV.ty _, TyX.base (TyOf.bl _), kt_bool_list, ?_⟩ | refine ⟨_, _, Value.type "str", Value.type "list", false, rfl, ClsV.ty _, TyX.base (TyOf.str _), kt_str_list, ?_⟩ | refine ⟨_, _, Value.type "NoneType", Value.type "list", false, rfl, ClsV.ty _, TyX.base TyOf.non, kt_NoneType_list, ?_⟩ | refine ⟨_, _, Value.type "list", Value.type "list", true, rfl, ClsV.ty _, tyx_L (by walk_at "sq"), kt_list_list, ?_⟩ | refine ⟨_, _, Value.type "tuple", Value.type "list", false, rfl, ClsV.ty _, tyx_T (by walk_at "sq"), kt_tuple_list, ?_⟩ | refine ⟨_, _, Value.type "int", Value.type "tuple", false, rfl, ClsV.ty _, TyX.base (TyOf.int _), kt_int_tuple, ?_⟩ | refine ⟨_, _, Value.type "bool", Value.type "tuple", false, rfl, ClsV.ty _, TyX.base (TyOf.bl _), kt_bool_tuple, ?_⟩ | refine ⟨_, _, Value.type "str", Value.type "tuple", false, rfl, ClsV.ty _, TyX.base (TyOf.str _), kt_str_tuple, ?_⟩ | refine ⟨_, _, Value.type "NoneType", Value.type "tuple", false, rfl, ClsV.ty _, TyX.base TyOf.non, kt_NoneType_tuple, ?_⟩ | refine ⟨_, _, Value.type "list", Value.type "tuple", false, rfl, ClsV.ty _, tyx_L (by walk_at "sq"), kt_list_tuple, ?_⟩ | refine ⟨_, _, Value.type "tuple", Value.type "tuple", true, rfl, ClsV.ty _, tyx_T (by walk_at "sq"), kt_tuple_tuple, ?_⟩ | refine ⟨_, _, Value.type "int", Value.type "bool", false, rfl, ClsV.ty _, TyX.base (TyOf.int _), kt_int_bool, ?_⟩ | refine ⟨_, _, Value.type "bool", Value.type "bool", true, rfl, ClsV.ty _, TyX.base (TyOf.bl _), kt_bool_bool, ?_⟩ | refine ⟨_, _, Value.type "str", Value.type "bool", false, rfl, ClsV.ty _, TyX.base (TyOf.str _), kt_str_bool, ?_⟩ | refine ⟨_, _, Value.type "NoneType", Value.type "bool", false, rfl, ClsV.ty _, TyX.base TyOf.non, kt_NoneType_bool, ?_⟩ | refine ⟨_, _, Value.type "list", Value.type "bool", false, rfl, ClsV.ty _, tyx_L (by walk_at "sq"), kt_list_bool, ?_⟩ | refine ⟨_, _, Value.type "tuple", Value.type "bool", false, rfl, ClsV.ty _, tyx_T (by walk_at "sq"), kt_tuple_bool, ?_⟩ | refine ⟨_, _, Value.type "int", Value.type "int", true, rfl, ClsV.ty _, TyX.base (TyOf.int _), kt_int_int, ?_⟩ | refine ⟨_, _, Value.type "bool", Value.type "int", true, rfl, ClsV.ty _, TyX.base (TyOf.bl _), kt_bool_int, ?_⟩ | refine ⟨_, _, Value.type "str", Value.type "int", false, rfl, ClsV.ty _, TyX.base (TyOf.str _), kt_str_int, ?_⟩ | refine ⟨_, _, Value.type "NoneType", Value.type "int", false, rfl, ClsV.ty _, TyX.base TyOf.non, kt_NoneType_int, ?_⟩ | refine ⟨_, _, Value.type "list", Value.type "int", false, rfl, ClsV.ty _, tyx_L (by walk_at "sq"), kt_list_int, ?_⟩ | refine ⟨_, _, Value.type "tuple", Value.type "int", false, rfl, ClsV.ty _, tyx_T (by walk_at "sq"), kt_tuple_int, ?_⟩ | refine ⟨_, _, Value.type "int", Value.type "str", false, rfl, ClsV.ty _, TyX.base (TyOf.int _), kt_int_str, ?_⟩ | refine ⟨_, _, Value.type "bool", Value.type "str", false, rfl, ClsV.ty _, TyX.base (TyOf.bl _), kt_bool_str, ?_⟩ | refine ⟨_, _, Value.type "str", Value.type "str", true, rfl, ClsV.ty _, TyX.base (TyOf.str _), kt_str_str, ?_⟩ | refine ⟨_, _, Value.type "NoneType", Value.type "str", false, rfl, ClsV.ty _, TyX.base TyOf.non, kt_NoneType_str, ?_⟩ | refine ⟨_, _, Value.type "list", Value.type "str", false, rfl, ClsV.ty _, tyx_L (by walk_at "sq"), kt_list_str, ?_⟩ | refine ⟨_, _, Value.type "tuple", Value.type "str", false, rfl, ClsV.ty _, tyx_T (by walk_at "sq"), kt_tuple_str, ?_⟩)
local macro_rules | `(tactic| walk_at "go1") => `(tactic| first
  | (refine ⟨_, rfl, ?_⟩)
  | (refine ⟨_, _, rfl, rfl, ?_⟩)
  | (refine ⟨_, _, _, _, rfl, rfl, SqL.of (by walk_at "hp"), rfl, ?_⟩)
  | (refine Or.inl ⟨_, rfl, ?_⟩)
  | (refine ⟨rfl, ?_⟩)
  | (refine ⟨_, _, rfl, .inl (SqL.of (by walk_at "hp")), ?_⟩)
  | (refine ⟨_, _, rfl, Or.inl (by assumption), ?_⟩)
  | (refine ⟨_, _, rfl, Or.inr (by assumption), ?_⟩)
  | (refine ⟨(by walk_at "ok"), ?_⟩)
  | (refine ⟨_, _, _, _, rfl, rfl, (by walk_at "hp"), rfl, ?_⟩))
local macro_rules | `(tactic| walk_at "go") => `(tactic| repeat (walk_at "go1"))
local macro_rules | `(tactic| walk_at "gt") => `(tactic| repeat (first | walk_at "go1" | walk_at "ty"))

section
variable {J : It} {n : Nat} {G : Hp → Prop} {Y : Nat → Hp → V → Hp → Prop} {D : Addr} {g : TG} {te : TE} {vs : List Nat} {σ : L2.St} {H0 : Hp} {Qd : Hp → Prop}
/-- a comprehension whose turns change the bag, and give things that stand when the bag is changed -/
theorem lcbH {B : Bg} (w : Walk J n G Y) (P : Nat → V → Hp → Prop) (hP : ∀ i y H H', Bag B H → Kb B.b H H' → P i y H → P i y H') (hPD : ∀ i y H zs zs', H D = some (.lst zs) → P i y H → P i y (upd H D (.lst zs'))) (hz : n ≤ 100000) (hB : Bag B H0) (hD : H0 D = none) (hG : ∀ H, Bag B H → Kb B.b H0 H → G H)
    (hs : ∀ i x H H', i < n → Kb B.b H0 H → Bag B H → (∃ zs, H D = some (.lst zs)) → Y i H x H' → ∀ k : VK, (∀ y H4, P i y H4 → Kb B.b H H4 → Bag B H4 → k y H4) → g x (wipe σ vs) H' fun σ2 H2 => wipe σ2 vs = wipe σ vs ∧ te σ2 H2 k)
    (hd : ∀ (ys : List V) H, ys.length = n → (∀ (i : Nat) y, ys[i]? = some y → P i y H) → Kb B.b H0 H → Bag B H → H D = some (.lst ys) → Qd H) : LcGoal J g te vs σ H0 D Qd := by
  have nb := hB.nb hD
  have nL := hB.nL hD
  refine lc_it w (fun i H => Kb B.b H0 H ∧ Bag B H ∧ ∃ ys : List V, H D = some (.lst ys) ∧ ys.length = i ∧ ∀ (t : Nat) y, ys[t]? = some y → P t y H) ⟨Kb.same (Same.new hD), hB.new hD, [], upd_same, rfl, fun t y h => by cases h⟩ (fun i H _ h => hG H h.2.1 h.1) (fun i x H H' hi h hy => ?_) (fun H h => ?_)
  · obtain ⟨h1, h2, ys, h3, h4, h5⟩ := h
    refine hs i x H H' hi h1 h2 ⟨ys, h3⟩ hy _ fun y H4 p kb b4 => ⟨ys, kb _ _ h3 nb, ?_, fun c u q ne => ?_, b4.upd nb nL, ys ++ [y], upd_same, ?_, ?_⟩
    · exact Nat.lt_of_le_of_lt (by omega : ys.length ≤ 100000) (by decide)
    · rw [upd_ne (ne_of_none q hD)]
      exact kb _ _ (h1 _ _ q ne) ne
    · rw [List.length_append, h4]
      rfl
    · intro t z hz
      refine hPD t z H4 ys _ (kb _ _ h3 nb) ?_
      rcases Nat.lt_or_ge t ys.length with q | q
      · rw [List.getElem?_append_left q] at hz
        exact hP _ _ _ _ h2 kb (h5 t z hz)
      · rw [List.getElem?_append_right q] at hz
        have e : t - ys.length = 0 := by
          have := (List.getElem?_eq_some_iff.mp hz).1
          simp at this
          omega
        rw [e] at hz
        obtain rfl : y = z := Option.some.inj hz
        have : t = i := by omega
        rw [this]
        exact p
  · obtain ⟨h1, h2, ys, h3, h4, h5⟩ := h
    exact hd ys H h4 h5 h1 h2 h3
end
section
variable {P : Program} {w : World} {K : PySem.W.Frag} {mg : Str → Option Value} {base : Heap}
-- [0=_law_bag*, 1=_law_width, 2=_law_count, 3=_law_great, 4=_law_found, 5=_law_turn, 6=_law_way, 7=_law_one, 8=_law_at]
def spPickT (K : PySem.W.Frag) : Sp := fun vs H Q _ => ∃ (B : Bg) (a : Addr) (xs : List V), vs = [.ref B.b, .ref a] ∧ H a = some (.tup xs) ∧ 0 < xs.length ∧ xs.length ≤ 1000 ∧ Bag B H ∧ ∀ (i : Nat) (v : V) (H' : Hp), xs[i]? = some v → Bag B H' → Kb B.b H H' → Q v H'
theorem ok_pickT (T : Tx K mg) : FnOk P w K mg base CX0 2 T.f_l_pick T.d_l_pick ["_law_bag", "_law_some"] (spPickT K) := by
  have G_l_pull := ok_pull (P := P) (w := w) (base := base) T
  refine T.F_l_pick.ok sc_l_pick (fun vs H Q E h => ?_) (fun cdv A outer s H vs Q E hr h => ?_)
  · obtain ⟨B, a, xs, rfl, _⟩ := h
    rfl
  obtain ⟨B, a, xs, rfl, hS, h0, h1, hB, q⟩ := h
  have nd := sc_l_pick.nd
  refine ⟨_, (pss_one (ps_ret (pe_ix (show IxR _ (rIxT K) from ix_tup) (pv 1) (pe_call G_l_pull hr (by rfl) T.m_l_pull T.F_l_pull.kp T.b_l_pull .nil pass0 (pa_cons (pv 0) (pa_cons (pe_callB (show CallR _ _ (rLenSq K) from call_len_seq) (by rfl) T.z_len (by decide +kernel) (pa_cons (pv 1) pa_nil)) pa_nil))) (fun _ _ => rfl)))), ?_⟩
  have hne : a ≠ B.b := by
    obtain ⟨i, r, z, c, h1, h2⟩ := hB.ex
    exact ne_of hS h1 (by intro z; cases z)
  refine ⟨_, rfl, _, rfl, _, rfl, _, _, rfl, .inr (SqT.of hS), B, _, rfl, by omega, Nat.lt_of_le_of_lt (by omega : ((xs.length : Int)).natAbs ≤ 1000) (by decide), hB, fun d H' d0 d1 hB' kb => ?_⟩
  have hk : d.toNat < xs.length := by omega
  refine ⟨_, _, _, xs[d.toNat], rfl, rfl, SqT.of (kb _ _ hS hne), at_of (j := d.toNat) (by omega) (List.getElem?_eq_getElem hk), ?_⟩
  exact q d.toNat _ H' (List.getElem?_eq_getElem hk) hB' kb
theorem zip_eb {wd c : Nat} {n : Int} : ∀ {acc row : List Int} {b : Nat}, EB b acc → EB c row → EB (b + n.natAbs * c) (List.zipWith (fun x y => x + n * y) acc row) := fun {acc row b} h1 h2 x hx => by
  obtain ⟨i, hi⟩ := List.mem_iff_getElem?.mp hx
  rw [List.getElem?_zipWith] at hi
  cases e1 : acc[i]? with
  | none => rw [e1] at hi; cases hi
  | some u =>
    cases e2 : row[i]? with
    | none => rw [e1, e2] at hi; cases hi
    | some v =>
      rw [e1, e2] at hi
      obtain rfl := Option.some.inj hi
      have a1 := h1 u (List.mem_of_getElem? e1)
      have a2 := h2 v (List.mem_of_getElem? e2)
      have a3 : (n * v).natAbs ≤ n.natAbs * c := by
        rw [Int.natAbs_mul]
        exact Nat.mul_le_mul_left _ a2
      omega
theorem sum_fold_eb {c k : Nat} : ∀ (zs : List (List Int × Int)) (acc : List Int) (b : Nat), EB b acc → (∀ z ∈ zs, EB c z.1 ∧ z.2.natAbs ≤ k) → EB (b + zs.length * (k * c)) (zs.foldl (fun acc p => List.zipWith (fun x y => x + p.2 * y) acc p.1) acc)
  | [], acc, b, h, _ => by
    rw [List.length_nil, Nat.zero_mul]
    exact h
  | z :: zs, acc, b, h, hz => by
    obtain ⟨h1, h2⟩ := hz z List.mem_cons_self
    have h3 := zip_eb (wd := 0) (n := z.2) h h1
    have h4 : z.2.natAbs * c ≤ k * c := Nat.mul_le_mul_right _ h2
    have := sum_fold_eb zs _ (b + k * c) (h3.le (by omega)) (fun y hy => hz y (List.mem_cons_of_mem _ hy))
    rw [List.foldl_cons, List.length_cons, Nat.succ_mul]
    exact this.le (by omega)
theorem sum_fold_len {wd : Nat} : ∀ (zs : List (List Int × Int)) (acc : List Int), acc.length = wd → (∀ z ∈ zs, z.1.length = wd) → (zs.foldl (fun acc p => List.zipWith (fun x y => x + p.2 * y) acc p.1) acc).length = wd
  | [], acc, h, _ => h
  | z :: zs, acc, h, hz => by
    rw [List.foldl_cons]
    refine sum_fold_len zs _ ?_ fun y hy => hz y (List.mem_cons_of_mem _ hy)
    rw [List.length_zipWith, h, hz z List.mem_cons_self]
    omega
theorem sum_eb {wd c k : Nat} {M : List (List Int)} {ns : List Int} (h : ∀ r ∈ M, EB c r) (hk : ∀ n ∈ ns, n.natAbs ≤ k) (hw : ∀ r ∈ M, r.length = wd) : EB (M.length * (k * c)) (sumV wd M ns) ∧ (sumV wd M ns).length = wd := by
  have hz : ∀ z ∈ M.zip ns, z.1 ∈ M ∧ z.2 ∈ ns := fun z hz => List.of_mem_zip (a := z.1) (b := z.2) hz
  refine ⟨?_, sum_fold_len _ _ List.length_replicate fun z h' => hw _ (hz z h').1⟩
  have := sum_fold_eb (c := c) (k := k) (M.zip ns) (List.replicate wd 0) 0 (fun x hx => by rw [(List.mem_replicate.mp hx).2]; exact Nat.zero_le _) fun z h' => ⟨h _ (hz z h').1, hk _ (hz z h').2⟩
  have hl : (M.zip ns).length * (k * c) ≤ M.length * (k * c) := Nat.mul_le_mul_right _ (by rw [List.length_zip]; omega)
  exact EB.le this (by omega)
theorem Bag.ne_row {B : Bg} {H : Hp} (hB : Bag B H) {row : List Int} {a : Addr} (h : H a = some (.lst (row.map V.int))) : a ≠ B.b := by
  obtain ⟨i, r, z, c, h1, h2⟩ := hB.ex
  refine ne_of h h1 fun e => ?_
  cases row with
  | nil => cases e
  | cons x xs => cases e
/-- rows that are lists, all of them tracked, apart from the bag -/
def LstM (H : Hp) (rs : List V) (M : List (List Int)) : Prop := rs.length = M.length ∧ ∀ (i : Nat) r, rs[i]? = some r → ∃ t row, r = V.ref t ∧ M[i]? = some row ∧ H t = some (.lst (row.map V.int))
theorem LstM.matQ {H : Hp} {rs : List V} {M : List (List Int)} (h : LstM H rs M) : MatQ K H rs M := ⟨h.1, fun i r hr => by
  obtain ⟨t, row, a1, a2, a3⟩ := h.2 i r hr
  exact ⟨t, row, a1, a2, SqL.of a3⟩⟩
theorem LstM.kb {B : Bg} {H H' : Hp} {rs : List V} {M : List (List Int)} (h : LstM H rs M) (hB : Bag B H) (k : Kb B.b H H') : LstM H' rs M := ⟨h.1, fun i r hr => by
  obtain ⟨t, row, a1, a2, a3⟩ := h.2 i r hr
  exact ⟨t, row, a1, a2, k _ _ a3 (hB.ne_row a3)⟩⟩
theorem LstM.same {H H' : Hp} {rs : List V} {M : List (List Int)} (h : LstM H rs M) (s : Same H H') : LstM H' rs M := ⟨h.1, fun i r hr => by
  obtain ⟨t, row, a1, a2, a3⟩ := h.2 i r hr
  exact ⟨t, row, a1, a2, s _ _ a3⟩⟩
theorem LstM.snoc {H : Hp} {rs : List V} {M : List (List Int)} {t : Addr} {row : List Int} (h : LstM H rs M) (ht : H t = some (.lst (row.map V.int))) : LstM H (rs ++ [.ref t]) (M ++ [row]) := ⟨by rw [List.length_append, List.length_append, h.1]; rfl, fun i r hr => by
  rcases Nat.lt_or_ge i rs.length with z | z
  · rw [List.getElem?_append_left z] at hr
    rw [List.getElem?_append_left (by rw [← h.1]; exact z)]
    exact h.2 i r hr
  · have hlt := (List.getElem?_eq_some_iff.mp hr).1
    rw [List.length_append, List.length_singleton] at hlt
    have ei : i = rs.length := by omega
    subst ei
    rw [List.getElem?_append_right z, Nat.sub_self] at hr
    cases hr
    refine ⟨t, row, rfl, ?_, ht⟩
    rw [h.1, List.getElem?_append_right (Nat.le_refl _), Nat.sub_self]
    rfl⟩
/-- a list of rows is changed: the rows stand -/
theorem LstM.upd {H : Hp} {rs ys : List V} {M N : List (List Int)} {r : Addr} {o : HO} (h : LstM H rs M) (hp : ∀ row ∈ M, 0 < row.length) (hr : H r = some (.lst ys)) (hy : LstM H ys N) : LstM (L2.upd H r o) rs M := ⟨h.1, fun i q hq => by
  obtain ⟨t, row, a1, a2, a3⟩ := h.2 i q hq
  refine ⟨t, row, a1, a2, ?_⟩
  have hrow := hp row (List.mem_of_getElem? a2)
  rw [upd_ne (ne_of a3 hr fun e => ?_)]
  · exact a3
  · cases row with
    | nil => cases hrow
    | cons x xs =>
      injection e with e
      obtain ⟨t', r', b1, _⟩ := hy.2 0 (.int x) (by rw [← e]; rfl)
      cases b1⟩
end
end TL
namespace TL
open PySem L2

/-! ### steps of a reading -/
local macro_rules | `(tactic| walk_at "hp") => `(tactic| first | assumption | exact upd_same | (refine (upd_ne (by first | assumption | (exact Ne.symm (by assumption)))).trans ?_; walk_at "hp"))
local macro_rules | `(tactic| walk_at "ok") => `(tactic| first | (exact Or.inr ⟨by decide, by decide⟩) | (exact ⟨by decide, by decide⟩) | (exact ⟨by decide, by decide, by decide⟩) | (show _ ≠ _; omega) | (show _ ≠ _; decide) | (exact Or.inl ⟨by omega, by omega⟩) | decide)
local macro_rules | `(tactic| walk_at "sq") => `(tactic| first | assumption | exact SqL.of (by walk_at "hp") | exact SqT.of (by walk_at "hp"))
local macro_rules | `(tactic| walk_at "ty") => `(tactic| first | refine ⟨_, _, Value.type "int", Value.type "list", false, rfl, ClsV.ty _, TyX.base (TyOf.int _), kt_int_list, ?_⟩ | refine ⟨_, _, Value.type "bool", Value.type "list", false, rfl, ClsV.ty _, TyX.base (TyOf.bl _), kt_bool_list, ?_⟩ | refine ⟨_, _, Value.type "str", Value.type "list", false, rfl, ClsV.ty _, TyX.base (TyOf.str _), kt_str_list, ?_⟩ | refine ⟨_, _, Value.type "NoneType", Value.type "list", false, rfl, ClsV.ty _, TyX.base TyOf.non, kt_NoneType_list, ?_⟩ | refine ⟨_, _, Value.type "list", Value.type "list", true, rfl, ClsV.ty _, tyx_L (by walk_at "sq"), kt_list_list, ?_⟩ | refine ⟨_, _, Value.type "tuple", Value.type "list", false, rfl, ClsV.ty _, tyx_T (by walk_at "sq"), kt_tuple_list, ?_⟩ | refine ⟨_, _, Value.type "int", Value.type "tuple", false, rfl, ClsV.ty _, TyX.base (TyOf.int _), kt_int_tuple, ?_⟩ | refine ⟨_, _, Value.type "bool", Value.type "tuple", false, rfl, ClsV.ty _, TyX.base (TyOf.bl _), kt_bool_tuple, ?_⟩ | refine ⟨_, _, Value.type "str", Value.type "tuple", false, rfl, ClsV.ty _, TyX.base (TyOf.str _), kt_str_tuple, ?_⟩ | refine ⟨_, _, Value.type "NoneType", Value.type "tuple", false, rfl, ClsV.ty _, TyX.base TyOf.non, kt_NoneType_tuple, ?_⟩ | refine ⟨_, _, Value.type "list", Value.type "tuple", false, rfl, ClsV.ty _, tyx_L (by walk_at "sq"), kt_list_tuple, ?_⟩ | refine ⟨_, _, Value.type "tuple", Value.type "tuple", true, rfl, ClsV.ty _, tyx_T (by walk_at "sq"), kt_tuple_tuple, ?_⟩ | refine ⟨_, _, Value.type "int", Value.type "bool", false, rfl, ClsV.ty _, TyX.base (TyOf.int _), kt_int_bool, ?_⟩ | refine ⟨_, _, Value.type "bool", Value.type "bool", true, rfl, ClsV.ty _, TyX.base (TyOf.bl _), kt_bool_bool, ?_⟩ | refine ⟨_, _, Value.type "str", Value.type "bool", false, rfl, ClsV.ty _, TyX.base (TyOf.str _), kt_str_bool, ?_⟩ | refine ⟨_, _, Value.type "NoneType", Value.type "bool", false, rfl, ClsV.ty _, TyX.base TyOf.non, kt_NoneType_bool, ?_⟩ | refine ⟨_, _, Value.type "list", Value.type "bool", false, rfl, ClsV.ty _, tyx_L (by walk_at "sq"), kt_list_bool, ?_⟩ | refine ⟨_, _, Value.type "tuple", Value.type "bool", false, rfl, ClsV.ty _, tyx_T (by walk_at "sq"), kt_tuple_bool, ?_⟩ | refine ⟨_, _, Value.type "int", Value.type "int", true, rfl, ClsV.ty _, TyX.base (TyOf.int _), kt_int_int, ?_⟩ | refine ⟨_, _, Value.type "bool", Value.type "int", true, rfl, ClsV.ty _, TyX.base (TyOf.bl _), kt_bool_int, ?_⟩ | refine ⟨_, _, Value.type "str", Value.type "int", false, rfl, ClsV.ty _, TyX.base (TyOf.str _), kt_str_int, ?_⟩ | refine ⟨_, _, Value.type "NoneType", Value.type "int", false, rfl, ClsV.ty _, TyX.base TyOf.non, kt_NoneType_int, ?_⟩ | refine ⟨_, _, Value.type "list", Value.type "int", false, rfl, ClsV.ty _, tyx_L (by walk_at "sq"), kt_list_int, ?_⟩ | refine ⟨_, _, Value.type "tuple", Value.type "int", false, rfl, ClsV.ty _, tyx_T (by walk_at "sq"), kt_tuple_int, ?_⟩ | refine ⟨_, _, Value.type "int", Value.type "str", false, rfl, ClsV.ty _, TyX.base (TyOf.int _), kt_int_str, ?_⟩ | refine ⟨_, _, Value.type "bool", Value.type "str", false, rfl, ClsV.ty _, TyX.base (TyOf.bl _), kt_bool_str, ?_⟩ | refine ⟨_, _, Value.type "str", Value.type "str", true, rfl, ClsV.ty _, TyX.base (TyOf.str _), kt_str_str, ?_⟩ | refine ⟨_, _, Value.type "NoneType", Value.type "str", false, rfl, ClsV.ty _, TyX.base TyOf.non, kt_NoneType_str, ?_⟩ | refine ⟨_, _, Value.type "list", Value.type "str", false, rfl, ClsV.ty _, tyx_L (by walk_at "sq"), kt_list_str, ?_⟩ | refine ⟨_, _, Value.type "tuple", Value.type "str", false, rfl, ClsV.ty _, tyx_T (by walk_at "sq"), kt_tuple_str, ?_⟩)
local macro_rules | `(tactic| walk_at "go1") => `(tactic| first
  | (refine ⟨_, rfl, ?_⟩)
  | (refine ⟨_, _, rfl, rfl, ?_⟩)
  | (refine ⟨_, _, _, _, rfl, rfl, SqL.of (by walk_at "hp"), rfl, ?_⟩)
  | (refine Or.inl ⟨_, rfl, ?_⟩)
  | (refine ⟨rfl, ?_⟩)
  | (refine ⟨_, _, rfl, .inl (SqL.of (by walk_at "hp")), ?_⟩)
  | (refine ⟨_, _, rfl, Or.inl (by assumption), ?_⟩)
  | (refine ⟨_, _, rfl, Or.inr (by assumption), ?_⟩)
  | (refine ⟨(by walk_at "ok"), ?_⟩)
  | (refine ⟨_, _, _, _, rfl, rfl, (by walk_at "hp"), rfl, ?_⟩))
local macro_rules | `(tactic| walk_at "go") => `(tactic| repeat (walk_at "go1"))
local macro_rules | `(tactic| walk_at "gt") => `(tactic| repeat (first | walk_at "go1" | walk_at "ty"))

section
variable {P : Program} {w : World} {K : PySem.W.Frag} {mg : Str → Option Value} {base : Heap}
-- [0=_law_bag*, 1=_law_width, 2=_law_count, 3=_law_great, 4=_law_found, 5=_law_turn, 6=_law_way, 7=_law_one, 8=_law_at]
theorem ints_of {p : Int → Prop} : ∀ {ys : List V}, (∀ y ∈ ys, ∃ n, y = V.int n ∧ p n) → ∃ ns : List Int, ys = ns.map V.int ∧ ∀ n ∈ ns, p n
  | [], _ => ⟨[], rfl, fun n h => (by cases h)⟩
  | y :: ys, h => by
    obtain ⟨n, rfl, hn⟩ := h y List.mem_cons_self
    obtain ⟨ns, rfl, hns⟩ := ints_of (ys := ys) fun z hz => h z (List.mem_cons_of_mem _ hz)
    exact ⟨n :: ns, rfl, fun m hm => by
      rcases List.mem_cons.mp hm with rfl | hm
      · exact hn
      · exact hns m hm⟩
theorem and_if {ta tb : TT} {t u : TS} {D : Ends} {σ : L2.St} {H : Hp} {c b0 : Bool} (ha : ∀ k : Bool → Hp → Prop, k c H → ta σ H k) (hb : ∀ k : Bool → Hp → Prop, (∀ H1, Same H H1 → k b0 H1) → tb σ H k) (h1 : c = true → b0 = true → ∀ H1, Same H H1 → t D σ H1) (h2 : ∀ H1, Same H H1 → u D σ H1) : tIfS (tAnd ta tb) t u D σ H := by
  refine ha _ ?_
  cases c with
  | false => exact h2 H (Same.refl H)
  | true =>
    refine hb _ fun H1 s1 => ?_
    cases b0 with
    | true => exact h1 rfl rfl H1 s1
    | false => exact h2 H1 s1
theorem LstM.nil {H : Hp} : LstM H [] [] := ⟨rfl, fun i r h => by cases h⟩
/-- rows drawn -/
structure Rws (wd : Nat) (M : List (List Int)) (b : Nat) : Prop where
  wid : ∀ r ∈ M, r.length = wd
  eb : ∀ r ∈ M, EB (2 ^ b) r
def spDrawV (K : PySem.W.Frag) : Sp := fun vs H Q _ => ∃ (B : Bg) (wd n : Nat), vs = [.ref B.b, .int (wd : Int), .int (n : Int)] ∧ 0 < wd ∧ wd ≤ 24 ∧ n ≤ 5 ∧ Bag B H ∧ ∀ t rs M H', Bag B H' → Kb B.b H H' → H t = none → H' t = some (.lst rs) → LstM H' rs M → Rws wd M 100 → M.length = n → Q (.ref t) H'
theorem ok_drawV (T : Tx K mg) : FnOk P w K mg base CX0 3 T.f_l_draw_vectors T.d_l_draw_vectors ["_law_bag", "_law_width", "_law_count"] (spDrawV K) := by
  have G_l_pull := ok_pull (P := P) (w := w) (base := base) T
  have G_l_pick := ok_pick (P := P) (w := w) (base := base) T
  have G_l_summed := ok_summed (P := P) (w := w) (base := base) T
  have G_l_draw_number := ok_num (P := P) (w := w) (base := base) T
  refine T.F_l_draw_vectors.ok sc_l_draw_vectors (fun vs H Q E h => ?_) (fun cdv A outer s H vs Q E hr h => ?_)
  · obtain ⟨B, wd, n, rfl, _⟩ := h
    rfl
  obtain ⟨B, wd, n, rfl, hwd, hw1, hn, hB, q⟩ := h
  have nd := sc_l_draw_vectors.nd
  refine ⟨_, (pss_cons (ps_par (i := 3) (j := 4) rfl nd rfl rfl (by decide) rfl rfl (pa_cons (pe_call G_l_pull (hr.mono (by decide)) (by rfl) T.m_l_pull T.F_l_pull.kp T.b_l_pull .nil pass0 (pa_cons (pv 0) (pa_cons pe_int pa_nil))) (pa_cons (pe_lst pa_nil) pa_nil)) rfl)
    (pss_cons (ps_for PassesOwn.never rfl (pi_range1 (by rfl) T.z_range (pa_cons (pv 2) pa_nil)) (pg_name (i := 5) nd rfl (Or.inl rfl)) (pss_cons (ps_set (i := 6) nd rfl (Or.inl rfl) (pe_call G_l_pull (hr.mono (by decide)) (by rfl) T.m_l_pull T.F_l_pull.kp T.b_l_pull .nil pass0 (pa_cons (pv 0) (pa_cons pe_int pa_nil))))
    (pss_one (ps_if (PW.pt (pw_and (pt_cmpR op_eq (pv 6) pe_int (nomark _)) (pw_and1 (pt_cmpR (show OpR _ _ (rNeD K) from op_neD hr.units) (pv 4) (pe_lst pa_nil) (nomark _))))) (pss_one (ps_expr (pe_bm PySem.F.plainAttrs_list PySem.F.slot_list_append PySem.F.type_list_append mt_append (pv 4) (pa_cons (pe_call G_l_summed (hr.mono (by decide)) (by rfl) T.m_l_summed T.F_l_summed.kp T.b_l_summed .nil pass0 (pa_cons (pv 1) (pa_cons (pv 4) (pa_cons (pe_lc (own := [("_law_one", 7)]) (g := (gName 7)) rfl nd (show PI _ _ _ (iList K _) from pi_list (pv 4)) (blkOk_by (own := [("_law_one", 7)]) (N := N_l_draw_vectors) (sc := defScope s_l_draw_vectors) (by decide +kernel)) (fun _ _ _ _ _ => by exact (pg_name (i := 7) nd rfl (Or.inl rfl))) (fun _ _ _ _ _ => by exact pts_nil) (fun _ _ _ _ _ => by exact (pe_op op_sub (pe_call G_l_pull (hr.mono (by decide)) (by rfl) T.m_l_pull T.F_l_pull.kp T.b_l_pull .nil pass0 (pa_cons (pv 0) (pa_cons pe_int pa_nil))) pe_int))) pa_nil)))) pa_nil)))) (pss_one (ps_if (PW.pt (pw_and (pt_cmpR op_eq (pv 6) pe_int (nomark _)) (pw_and1 (pt_cmpR (show OpR _ _ (rNeD K) from op_neD hr.units) (pv 4) (pe_lst pa_nil) (nomark _))))) (pss_one (ps_expr (pe_bm PySem.F.plainAttrs_list PySem.F.slot_list_append PySem.F.type_list_append mt_append (pv 4) (pa_cons (pe_callTy (show CallR _ _ (rListOf K) from call_list_of) (by rfl) T.z_list (by decide +kernel) (pa_cons (pe_call G_l_pick hr (by rfl) T.m_l_pick T.F_l_pick.kp T.b_l_pick .nil pass0 (pa_cons (pv 0) (pa_cons (pv 4) pa_nil))) pa_nil)) pa_nil)))) (pss_one (ps_if (pt_cmpR op_eq (pv 3) pe_int (nomark _)) (pss_one (ps_expr (pe_bm PySem.F.plainAttrs_list PySem.F.slot_list_append PySem.F.type_list_append mt_append (pv 4) (pa_cons (pe_lc (own := [("_law_at", 8)]) (g := (gName 8)) rfl nd (pi_range1 (by rfl) T.z_range (pa_cons (pv 1) pa_nil)) (blkOk_by (own := [("_law_at", 8)]) (N := N_l_draw_vectors) (sc := defScope s_l_draw_vectors) (by decide +kernel)) (fun _ _ _ _ _ => by exact (pg_name (i := 8) nd rfl (Or.inl rfl))) (fun _ _ _ _ _ => by exact pts_nil) (fun _ _ _ _ _ => by exact (pe_call G_l_draw_number hr (by rfl) T.m_l_draw_number T.F_l_draw_number.kp T.b_l_draw_number .nil pass0 (pa_cons (pv 0) pa_nil)))) pa_nil)))) (pss_one (ps_expr (pe_bm PySem.F.plainAttrs_list PySem.F.slot_list_append PySem.F.type_list_append mt_append (pv 4) (pa_cons (pe_lc (own := [("_law_at", 8)]) (g := (gName 8)) rfl nd (pi_range1 (by rfl) T.z_range (pa_cons (pv 1) pa_nil)) (blkOk_by (own := [("_law_at", 8)]) (N := N_l_draw_vectors) (sc := defScope s_l_draw_vectors) (by decide +kernel)) (fun _ _ _ _ _ => by exact (pg_name (i := 8) nd rfl (Or.inl rfl))) (fun _ _ _ _ _ => by exact pts_nil) (fun _ _ _ _ _ => by exact (pe_op op_mul (pe_op op_sub (pe_call G_l_pull (hr.mono (by decide)) (by rfl) T.m_l_pull T.F_l_pull.kp T.b_l_pull .nil pass0 (pa_cons (pv 0) (pa_cons pe_int pa_nil))) pe_int) (pe_call G_l_pull (hr.mono (by decide)) (by rfl) T.m_l_pull T.F_l_pull.kp T.b_l_pull .nil pass0 (pa_cons (pv 0) (pa_cons pe_int pa_nil)))))) pa_nil))))))))))))
    (pss_one (ps_ret (pv 4))))), ?_⟩
  have hst : L2.start N_l_draw_vectors [.ref B.b, .int (wd : Int), .int (n : Int)] = [some (.ref B.b), some (.int (wd : Int)), some (.int (n : Int)), none, none, none, none, none, none] := rfl
  rw [hst]
  refine ⟨_, rfl, B, 6, rfl, by decide, by decide, hB, fun gr H1 g0 g1 hB1 kb1 => ⟨by show 0 ≤ sizeLine; decide, fun F hF => ⟨_, _, rfl, ?_⟩⟩⟩
  have hFn : H F = none := kb_free kb1 hF (hB1.nb hF)
  have hB2 := hB1.new (o := .lst []) hF
  have kb2 := kb1.new (o := .lst []) hF
  have hF2 : (upd H1 F (.lst [])) F = some (.lst []) := upd_same
  have nF := hB1.nb hF
  have nFL := hB1.nL hF
  generalize upd H1 F (.lst []) = H2 at *
  dsimp only [List.set_cons_succ, List.set_cons_zero]
  refine ⟨_, rfl, (n : Int), rfl, by omega, by omega, for_range (lo := 0) (n := ((n : Nat) : Int).toNat) (fun i σ H' => ∃ rs M, (∃ b5 b6 b7 b8, σ = [some (.ref B.b), some (.int (wd : Int)), some (.int (n : Int)), some (.int gr), some (.ref F), b5, b6, b7, b8]) ∧ Bag B H' ∧ Kb B.b H H' ∧ H' F = some (.lst rs) ∧ LstM H' rs M ∧ Rws wd M (80 + 4 * i) ∧ M.length = i) ⟨[], [], ⟨_, _, _, _, rfl⟩, hB2, kb2, hF2, ⟨rfl, fun i r h => by cases h⟩, ⟨fun r h => (by cases h), fun r h => (by cases h)⟩, rfl⟩ ?_ ?_⟩
  · rintro i σ H3 hi ⟨rs, M, ⟨b5, b6, b7, b8, rfl⟩, hB3, kb3, hF3, hM3, hR3, hl3⟩
    have hi5 : i < 5 := by omega
    have p80 : (2 : Nat) ^ 80 ≤ 2 ^ (80 + 4 * (i + 1)) := Nat.pow_le_pow_right (by decide) (by omega)
    have pmul : (2 : Nat) ^ (80 + 4 * (i + 1)) = 2 ^ (80 + 4 * i) * 16 := by
      rw [show 80 + 4 * (i + 1) = 80 + 4 * i + 4 by omega, Nat.pow_add]
    have p1 : 0 < (2 : Nat) ^ (80 + 4 * i) := Nat.pow_pos (by decide)
    have hposM : ∀ r ∈ M, 0 < r.length := fun r hr => by rw [hR3.wid r hr]; exact hwd
    have app : ∀ (H5 : Hp) (t : Addr) (row : List Int), Bag B H5 → Kb B.b H H5 → H5 F = some (.lst rs) → LstM H5 rs M → H5 t = some (.lst (row.map V.int)) → row.length = wd → EB (2 ^ (80 + 4 * (i + 1))) row →
        Bag B (upd H5 F (.lst (rs ++ [V.ref t]))) ∧ Kb B.b H (upd H5 F (.lst (rs ++ [V.ref t]))) ∧ (upd H5 F (.lst (rs ++ [V.ref t]))) F = some (.lst (rs ++ [V.ref t])) ∧ LstM (upd H5 F (.lst (rs ++ [V.ref t]))) (rs ++ [V.ref t]) (M ++ [row]) ∧ Rws wd (M ++ [row]) (80 + 4 * (i + 1)) ∧ (M ++ [row]).length = i + 1 := fun H5 t row b5 k5 f5 m5 t5 hl he => by
      refine ⟨b5.upd nF nFL, fun c u h ne => ?_, upd_same, (m5.upd hposM f5 m5).snoc ?_, ⟨fun r hr => ?_, fun r hr => ?_⟩, by rw [List.length_append, hl3]; rfl⟩
      · rw [upd_ne (ne_of_none h hFn)]
        exact k5 _ _ h ne
      · rw [upd_ne (ne_of t5 f5 fun e => ?_)]
        · exact t5
        · cases row with
          | nil =>
            rw [List.length_nil] at hl
            omega
          | cons x xs =>
            injection e with e
            obtain ⟨t', r', b1, _⟩ := m5.2 0 (.int x) (by rw [← e]; rfl)
            cases b1
      · rcases List.mem_append.mp hr with z | z
        · exact hR3.wid r z
        · rw [List.mem_singleton.mp z]
          exact hl
      · rcases List.mem_append.mp hr with z | z
        · exact eb_up (hR3.eb r z) (by omega)
        · rw [List.mem_singleton.mp z]
          exact he
    have hsz : rs.length < sizeLine := Nat.lt_of_le_of_lt (by have := hM3.1; omega : rs.length ≤ 1000) (by decide)
    dsimp only [List.set_cons_succ, List.set_cons_zero, gName]
    refine ⟨_, rfl, B, 5, rfl, by decide, by decide, hB3, fun way H4 w0 w1 hB4 kb4 => ?_⟩
    have kb34 := kb3.trans kb4
    have hF4 := kb4 _ _ hF3 nF
    have hM4 := hM3.kb hB3 kb4
    dsimp only [List.set_cons_succ, List.set_cons_zero, gName]
    have hrl := hM3.1
    have neq : ∀ H5, Same H4 H5 → ∀ k : Bool → Hp → Prop, (∀ H6, Same H5 H6 → k (!decide (M = [])) H6) → tTest (tOp (rNeD K) (tVar 4) (tLst tNil)) [some (.ref B.b), some (.int (wd : Int)), some (.int (n : Int)), some (.int gr), some (.ref F), some (.int (0 + (i : Int))), some (.int way), b7, b8] H5 k := fun H5 s5 k hk => by
      refine ⟨_, rfl, by show 0 ≤ sizeLine; decide, fun E1 hE1 => ?_⟩
      have s6 := Same.new (o := .lst []) hE1
      refine ⟨dL M, dL [], dp_rows (SqL.of (s6 _ _ (s5 _ _ hF4))) ((hM4.same s5).same s6).matQ, dp_rows (SqL.of upd_same) ⟨rfl, fun i r h => by cases h⟩, dL_shaped _, dL_shaped _, _, rfl, ?_⟩
      rw [dL_eqv]
      exact hk _ s6
    refine and_if (fun k hk => ⟨_, rfl, rfl, _, rfl, hk⟩) (neq H4 (Same.refl _)) (fun _ hne H5 s5 => ?_) fun H5 s5 => ?_
    · -- a sum of rows
      have hB5 := hB4.same s5
      have hF5 := s5 _ _ hF4
      have hM5 := hM4.same s5
      refine ⟨_, rfl, .inl ⟨rfl, _, SqL.of hF5⟩, _, rfl, _, rfl, _, rfl, F, rfl, ⟨_, SqL.of hF5⟩, fun D hD => ?_⟩
      refine lcb (B := B) (walk_list (K := K) (a := F) (xs := rs)) (fun v => ∃ z, v = V.int z ∧ z.natAbs ≤ 2) (by omega) hB5 hD (fun H' k => SqL.of (k _ _ hF5 nF)) ?_ fun ys H6 hyl hys kb6 hB6 hD6 => ?_
      · rintro j x Ha Hb hj kba hBa ⟨rfl, hx⟩ k hk
        exact ⟨rfl, _, rfl, B, 5, rfl, by decide, by decide, hBa, fun d H7 d0 d1 hB7 kb7 => ⟨_, _, rfl, rfl, hk _ H7 ⟨_, rfl, by omega⟩ kb7 hB7⟩⟩
      · obtain ⟨ns, rfl, hns⟩ := ints_of hys
        rw [List.length_map] at hyl
        have hM6 := hM5.kb hB5 kb6
        have e100 : ∀ r ∈ M, EB (2 ^ 200) r := fun r hr => eb_up (hR3.eb r hr) (by omega)
        refine ⟨wd, F, D, M, rs, ns, rfl, SqL.of (kb6 _ _ hF5 nF), hM6.matQ, SqL.of hD6, by omega, by omega, by omega, hR3.wid, e100, fun z hz => by have := hns z hz; omega, fun t H7 s7 ht0 ht7 => ?_⟩
        obtain ⟨se1, se2⟩ := sum_eb (wd := wd) hR3.eb hns hR3.wid
        refine ⟨F, rs, _, rfl, rfl, s7 _ _ (kb6 _ _ hF5 nF), hsz, ?_⟩
        refine ⟨_, _, ⟨_, _, _, _, rfl⟩, app H7 t _ (hB6.same s7) ((kb34.trans (Kb.same s5)).trans (kb6.trans (Kb.same s7))) (s7 _ _ (kb6 _ _ hF5 nF)) (hM6.same s7) ht7 se2 (se1.le ?_)⟩
        rw [pmul]
        have : M.length * (2 * 2 ^ (80 + 4 * i)) ≤ 8 * (2 * 2 ^ (80 + 4 * i)) := Nat.mul_le_mul_right _ (by omega)
        omega
    have kb35 := kb34.trans (Kb.same s5)
    have hB5 := hB4.same s5
    have hF5 := s5 _ _ hF4
    have hM5 := hM4.same s5
    refine and_if (fun k hk => ⟨_, rfl, rfl, _, rfl, hk⟩) (neq H5 s5) (fun _ hne H6 s6 => ?_) fun H6 s6 => ?_
    · -- a row once more
      have hne' : 0 < rs.length := by
        have : M ≠ [] := by simpa using hne
        have := List.length_pos_iff.mpr this
        omega
      have hF6 := s6 _ _ hF5
      refine ⟨_, rfl, .inl ⟨rfl, _, SqL.of hF6⟩, _, rfl, _, rfl, B, F, rs, rfl, SqL.of hF6, nF, hne', by omega, hB5.same s6, fun j v H7 hv hB7 kb7 => ?_⟩
      obtain ⟨t, row, rfl, hrow, hrT⟩ := ((hM5.same s6).kb (hB5.same s6) kb7).2 j v hv
      have hmem := List.mem_of_getElem? hrow
      refine ⟨t, _, rfl, .inl (SqL.of hrT), fun R hR => ?_⟩
      have s8 := Same.new (o := .lst (row.map V.int)) hR
      refine ⟨F, rs, _, rfl, rfl, s8 _ _ (kb7 _ _ hF6 nF), hsz, ?_⟩
      exact ⟨_, _, ⟨_, _, _, _, rfl⟩, app _ R row (hB7.same s8) ((kb35.trans (Kb.same s6)).trans (kb7.trans (Kb.same s8))) (s8 _ _ (kb7 _ _ hF6 nF)) ((((hM5.same s6).kb (hB5.same s6) kb7)).same s8) upd_same (hR3.wid row hmem) (eb_up (hR3.eb row hmem) (by omega))⟩
    have kb36 := kb35.trans (Kb.same s6)
    have hB6 := hB5.same s6
    have hF6 := s6 _ _ hF5
    have hM6 := hM5.same s6
    have e80 : (2 : Nat) ^ 80 = 1208925819614629174706176 := by decide
    refine ⟨_, rfl, rfl, _, rfl, ?_⟩
    refine ite2 (fun _ => ?_) (fun _ => ?_)
    · refine ⟨_, rfl, .inl ⟨rfl, _, SqL.of hF6⟩, _, rfl, (wd : Int), rfl, by omega, by omega, fun D hD => ?_⟩
      refine lcb (B := B) walk_range (fun v => ∃ z, v = V.int z ∧ z.natAbs ≤ 2 ^ 80) (by omega) hB6 hD (fun _ _ => trivial) ?_ fun ys H7 hyl hys kb7 hB7 hD7 => ?_
      · rintro j x Ha Hb hj kba hBa ⟨rfl, rfl⟩ k hk
        exact ⟨rfl, _, rfl, B, rfl, hBa, fun d H8 hd hB8 kb8 => hk _ H8 ⟨d, rfl, hd⟩ kb8 hB8⟩
      · obtain ⟨ns, rfl, hns⟩ := ints_of hys
        rw [List.length_map] at hyl
        refine ⟨F, rs, _, rfl, rfl, kb7 _ _ hF6 nF, hsz, ?_⟩
        exact ⟨_, _, ⟨_, _, _, _, rfl⟩, app H7 D ns hB7 (kb36.trans kb7) (kb7 _ _ hF6 nF) (hM6.kb hB6 kb7) hD7 (by omega) fun x hx => Nat.le_trans (hns x hx) p80⟩
    · refine ⟨_, rfl, .inl ⟨rfl, _, SqL.of hF6⟩, _, rfl, (wd : Int), rfl, by omega, by omega, fun D hD => ?_⟩
      refine lcb (B := B) walk_range (fun v => ∃ z, v = V.int z ∧ z.natAbs ≤ 2 ^ 80) (by omega) hB6 hD (fun _ _ => trivial) ?_ fun ys H7 hyl hys kb7 hB7 hD7 => ?_
      · rintro j x Ha Hb hj kba hBa ⟨rfl, rfl⟩ k hk
        refine ⟨rfl, _, rfl, B, 13, rfl, by decide, by decide, hBa, fun d H8 d0 d1 hB8 kb8 => ⟨_, _, rfl, rfl, _, rfl, B, 2, rfl, by decide, by decide, hB8, fun e H9 e0 e1 hB9 kb9 => ⟨_, _, rfl, rfl, .inr ⟨by omega, by omega⟩, hk _ H9 ⟨_, rfl, ?_⟩ (kb8.trans kb9) hB9⟩⟩⟩
        rcases (show e = 0 ∨ e = 1 by omega) with rfl | rfl
        · rw [Int.mul_zero]
          exact Nat.zero_le _
        · rw [Int.mul_one]
          omega
      · obtain ⟨ns, rfl, hns⟩ := ints_of hys
        rw [List.length_map] at hyl
        refine ⟨F, rs, _, rfl, rfl, kb7 _ _ hF6 nF, hsz, ?_⟩
        exact ⟨_, _, ⟨_, _, _, _, rfl⟩, app H7 D ns hB7 (kb36.trans kb7) (kb7 _ _ hF6 nF) (hM6.kb hB6 kb7) hD7 (by omega) fun x hx => Nat.le_trans (hns x hx) p80⟩
  · rintro σ H3 ⟨rs, M, ⟨b5, b6, b7, b8, rfl⟩, hB3, kb3, hF3, hM3, hR3, hl3⟩
    refine ⟨_, rfl, q F rs M H3 hB3 kb3 hFn hF3 hM3 ⟨hR3.wid, fun r hr => eb_up (hR3.eb r hr) (by omega)⟩ (by omega)⟩
end
end TL
namespace TL
open PySem PySem.Spec PyProof.Rows L2
theorem slicePick_rev (xs : Array Value) : slicePick xs none none (some (-1)) = xs.toList.reverse.toArray := by
  rw [← pick_rev]
  unfold slicePick
  have e : sliceBounds none none (some (-1)) xs.size = ((xs.size : Int) - 1, -1, -1) := rfl
  rw [e]
  unfold sliceRange
  have ec : (if (-1 : Int) > 0 then (if (xs.size : Int) - 1 < -1 then (-1 - ((xs.size : Int) - 1) + -1 - 1) / -1 else 0) else (if (xs.size : Int) - 1 > -1 then ((xs.size : Int) - 1 - -1 - -1 - 1) / (- -1) else 0)).toNat = xs.size := by
    rw [if_neg (by decide)]
    by_cases h : (xs.size : Int) - 1 > -1
    · rw [if_pos h, show (- -1 : Int) = 1 by decide, Int.ediv_one]
      omega
    · rw [if_neg h]
      omega
  dsimp only
  rw [ec, List.filterMap_map]
  congr 1
  refine fm_congr _ fun m hm => ?_
  have := List.mem_range.mp hm
  show xs[(((xs.size : Int) - 1) + (-1) * (m : Int)).toNat]? = _
  rw [Int.mul_comm]
section
variable {X : Cx}
/-! ### t[::-1] of a list -/
def tRevL (K : PySem.W.Frag) (te : TE) : TE := fun σ H Q => te σ H fun x H1 => ∃ a xs, x = .ref a ∧ SqL K H1 a xs ∧ ∀ p, H1 p = none → Q (.ref p) (upd H1 p (.lst xs.reverse))
theorem pe_revL {e : Expr} {te : TE} {k : Nat} {p1 p2 p3 pos : Pos} (he : PE X e te) : PE X (.Subscript e (.Slice none none (some (.UnaryOp .USub (.Constant (.int 1) k p1) p2)) p3) pos) (tRevL X.K te) := by
  refine ⟨fun pins s σ H Q I h => ?_⟩
  refine Subscript_ (thn (he.run pins s σ H _ I h) fun v s1 ⟨x, H1, I1, r1, q1⟩ => ?_)
  obtain ⟨a, xs, ex, hx, q⟩ := q1
  subst ex
  cases r1
  have hst : PO X (some (.UnaryOp .USub (.Constant (.int 1) k p1) p2)) (tPart (tUn (rU fun i => .int (-i)) (tC (.int 1)))) := po_some (pe_un un_neg pe_int)
  refine wpAny_Slice (thn (po_none.run pins s1 σ H1 (fun o H2 => o = none ∧ H2 = H1) I1 ⟨rfl, rfl⟩) fun vl s2 ⟨l, H2, I2, pl, el, e2⟩ => ?_)
  subst el e2
  refine thn (po_none.run pins s2 σ H2 (fun o H3 => o = none ∧ H3 = H2) I2 ⟨rfl, rfl⟩) fun vu s3 ⟨u, H3, I3, pu, eu, e3⟩ => ?_
  subst eu e3
  refine thn (hst.run pins s3 σ H3 (fun o H4 => o = some (-1) ∧ H4 = H3) I3 ⟨1, rfl, -1, rfl, rfl, rfl⟩) fun vs s4 ⟨o, H4, I4, ps, eo, e4⟩ => ?_
  subst eo e4
  have I5 : Inv X pins σ H4 { s4 with heap := s4.heap.push { cls := .type "slice", data := .fields #[vl, vu, vs] } } := I4.kept (t' := s4.toks) fun b ob q => Heap.get?_push_of_some _ q
  obtain ⟨its, r, ht, hz⟩ := I5.list hx
  have hlen := r.length
  cases pl
  cases pu
  show wpAny (model X.prog X.w) X.A (subscriptTail e (.Slice none none (some (.UnaryOp .USub (.Constant (.int 1) k p1) p2)) p3) (.ref a) (.ref s4.heap.objs.size)) (EP X pins σ Q) X.xe { s4 with heap := s4.heap.push { cls := .type "slice", data := .fields #[.none, .none, vs] } }
  refine tail_any (ops := [.ref a, .ref s4.heap.objs.size]) ht.isList.typeIs (slot_list_getitem.lookup) ?_ (by with_unfolding_all rfl)
  refine wpAny_getItem_list_slice ht.isList (Heap.IsSliceOf.new _ .none .none vs) .none .none ps (by decide) ?_ (by rw [List.size_toArray]; omega)
  rw [slicePick_rev]
  refine ⟨.ref _, _, I5.laid (t' := s4.toks) (o := .lst xs.reverse) (fun b ob q => Heap.get?_push_of_some _ q) (Nat.le_refl _) ?_, rfl, q _ (I5.hok.fresh (Nat.le_refl _))⟩
  exact ⟨by rw [List.length_reverse]; exact hz, its.reverse, 0, r.reverse, Heap.get?_push_size _ rfl⟩
/-! ### is not False -/
def rNotB : R2 := fun x y H Q => ∃ a b, x = .bl a ∧ y = .bl b ∧ Q (.bl (!decide (a = b))) H
theorem op_notB : OpR X (compareOp .IsNot) rNotB := by
  intro pins s σ H x y v u Q I rx ry h
  obtain ⟨a, b, rfl, rfl, q⟩ := h
  cases rx
  cases ry
  by_cases e : a = b
  · subst e
    exact wpAny_isNot_self rfl ⟨.bl false, H, I, rfl, by simpa using q⟩
  · exact wpAny_isNot_other rfl (fun z => e (Value.bool.inj z)) ⟨.bl true, H, I, rfl, by simpa [e] using q⟩
end
end TL
namespace TL
open PySem PySem.Spec PyProof.Rows L2
section
variable {X : Cx}
/-! ### is True -/
def rIsB : R2 := fun x y H Q => ∃ a b, x = .bl a ∧ y = .bl b ∧ Q (.bl (decide (a = b))) H
theorem op_isB : OpR X (compareOp .Is) rIsB := by
  intro pins s σ H x y v u Q I rx ry h
  obtain ⟨a, b, rfl, rfl, q⟩ := h
  cases rx
  cases ry
  by_cases e : a = b
  · subst e
    exact wpAny_is_self rfl ⟨.bl true, H, I, rfl, by simpa using q⟩
  · exact wpAny_is_other rfl (fun z => e (Value.bool.inj z)) ⟨.bl false, H, I, rfl, by simpa [e] using q⟩
end
end TL
namespace TL
open PySem L2

/-! ### steps of a reading -/
local macro_rules | `(tactic| walk_at "hp") => `(tactic| first | assumption | exact upd_same | (refine (upd_ne (by first | assumption | (exact Ne.symm (by assumption)))).trans ?_; walk_at "hp"))
local macro_rules | `(tactic| walk_at "ok") => `(tactic| first | (exact Or.inr ⟨by decide, by decide⟩) | (exact ⟨by decide, by decide⟩) | (exact ⟨by decide, by decide, by decide⟩) | (show _ ≠ _; omega) | (show _ ≠ _; decide) | (exact Or.inl ⟨by omega, by omega⟩) | decide)
local macro_rules | `(tactic| walk_at "sq") => `(tactic| first | assumption | exact SqL.of (by walk_at "hp") | exact SqT.of (by walk_at "hp"))
local macro_rules | `(tactic| walk_at "ty") => `(tactic| first | refine ⟨_, _, Value.type "int", Value.type "list", false, rfl, ClsV.ty _, TyX.base (TyOf.int _), kt_int_list, ?_⟩ | refine ⟨_, _, Value.type "bool", Value.type "list", false, rfl, ClsV.ty _, TyX.base (TyOf.bl _), kt_bool_list, ?_⟩ | refine ⟨_, _, Value.type "str", Value.type "list", false, rfl, ClsV.ty _, TyX.base (TyOf.str _), kt_str_list, ?_⟩ | refine ⟨_, _, Value.type "NoneType", Value.type "list", false, rfl, ClsV.ty _, TyX.base TyOf.non, kt_NoneType_list, ?_⟩ | refine ⟨_, _, Value.type "list", Value.type "list", true, rfl, ClsV.ty _, tyx_L (by walk_at "sq"), kt_list_list, ?_⟩ | refine ⟨_, _, Value.type "tuple", Value.type "list", false, rfl, ClsV.ty _, tyx_T (by walk_at "sq"), kt_tuple_list, ?_⟩ | refine ⟨_, _, Value.type "int", Value.type "tuple", false, rfl, ClsV.ty _, TyX.base (TyOf.int _), kt_int_tuple, ?_⟩ | refine ⟨_, _, Value.type "bool", Value.type "tuple", false, rfl, ClsV.ty _, TyX.base (TyOf.bl _), kt_bool_tuple, ?_⟩ | refine ⟨_, _, Value.type "str", Value.type "tuple", false, rfl, ClsV.ty _, TyX.base (TyOf.str _), kt_str_tuple, ?_⟩ | refine ⟨_, _, Value.type "NoneType", Value.type "tuple", false, rfl, ClsV.ty _, TyX.base TyOf.non, kt_NoneType_tuple, ?_⟩ | refine ⟨_, _, Value.type "list", Value.type "tuple", false, rfl, ClsV.ty _, tyx_L (by walk_at "sq"), kt_list_tuple, ?_⟩ | refine ⟨_, _, Value.type "tuple", Value.type "tuple", true, rfl, ClsV.ty _, tyx_T (by walk_at "sq"), kt_tuple_tuple, ?_⟩ | refine ⟨_, _, Value.type "int", Value.type "bool", false, rfl, ClsV.ty _, TyX.base (TyOf.int _), kt_int_bool, ?_⟩ | refine ⟨_, _, Value.type "bool", Value.type "bool", true, rfl, ClsV.ty _, TyX.base (TyOf.bl _), kt_bool_bool, ?_⟩ | refine ⟨_, _, Value.type "str", Value.type "bool", false, rfl, ClsV.ty _, TyX.base (TyOf.str _), kt_str_bool, ?_⟩ | refine ⟨_, _, Value.type "NoneType", Value.type "bool", false, rfl, ClsV.ty _, TyX.base TyOf.non, kt_NoneType_bool, ?_⟩ | refine ⟨_, _, Value.type "list", Value.type "bool", false, rfl, ClsV.ty _, tyx_L (by walk_at "sq"), kt_list_bool, ?_⟩ | refine ⟨_, _, Value.type "tuple", Value.type "bool", false, rfl, ClsV.ty _, tyx_T (by walk_at "sq"), kt_tuple_bool, ?_⟩ | refine ⟨_, _, Value.type "int", Value.type "int", true, rfl, ClsV.ty _, TyX.base (TyOf.int _), kt_int_int, ?_⟩ | refine ⟨_, _, Value.type "bool", Value.type "int", true, rfl, ClsV.ty _, TyX.base (TyOf.bl _), kt_bool_int, ?_⟩ | refine ⟨_, _, Value.type "str", Value.type "int", false, rfl, ClsV.ty _, TyX.base (TyOf.str _), kt_str_int, ?_⟩ | refine ⟨_, _, Value.type "NoneType", Value.type "int", false, rfl, ClsV.ty _, TyX.base TyOf.non, kt_NoneType_int, ?_⟩ | refine ⟨_, _, Value.type "list", Value.type "int", false, rfl, ClsV.ty _, tyx_L (by walk_at "sq"), kt_list_int, ?_⟩ | refine ⟨_, _, Value.type "tuple", Value.type "int", false, rfl, ClsV.ty _, tyx_T (by walk_at "sq"), kt_tuple_int, ?_⟩ | refine ⟨_, _, Value.type "int", Value.type "str", false, rfl, ClsV.ty _, TyX.base (TyOf.int _), kt_int_str, ?_⟩ | refine ⟨_, _, Value.type "bool", Value.type "str", false, rfl, ClsV.ty _, TyX.base (TyOf.bl _), kt_bool_str, ?_⟩ | refine ⟨_, _, Value.type "str", Value.type "str", true, rfl, ClsV.ty _, TyX.base (TyOf.str _), kt_str_str, ?_⟩ | refine ⟨_, _, Value.type "NoneType", Value.type "str", false, rfl, ClsV.ty _, TyX.base TyOf.non, kt_NoneType_str, ?_⟩ | refine ⟨_, _, Value.type "list", Value.type "str", false, rfl, ClsV.ty _, tyx_L (by walk_at "sq"), kt_list_str, ?_⟩ | refine ⟨_, _, Value.type "tuple", Value.type "str", false, rfl, ClsV.ty _, tyx_T (by walk_at "sq"), kt_tuple_str, ?_⟩)
local macro_rules | `(tactic| walk_at "go1") => `(tactic| first
  | (refine ⟨_, rfl, ?_⟩)
  | (refine ⟨_, _, rfl, rfl, ?_⟩)
  | (refine ⟨_, _, _, _, rfl, rfl, SqL.of (by walk_at "hp"), rfl, ?_⟩)
  | (refine Or.inl ⟨_, rfl, ?_⟩)
  | (refine ⟨rfl, ?_⟩)
  | (refine ⟨_, _, rfl, .inl (SqL.of (by walk_at "hp")), ?_⟩)
  | (refine ⟨_, _, rfl, Or.inl (by assumption), ?_⟩)
  | (refine ⟨_, _, rfl, Or.inr (by assumption), ?_⟩)
  | (refine ⟨(by walk_at "ok"), ?_⟩)
  | (refine ⟨_, _, _, _, rfl, rfl, (by walk_at "hp"), rfl, ?_⟩))
local macro_rules | `(tactic| walk_at "go") => `(tactic| repeat (walk_at "go1"))
local macro_rules | `(tactic| walk_at "gt") => `(tactic| repeat (first | walk_at "go1" | walk_at "ty"))

section
variable {P : Program} {w : World} {K : PySem.W.Frag} {mg : Str → Option Value} {base : Heap}
-- [0=_law_bag*, 1=_law_rows, 2=_law_row] [0=_law_lattice_here, 1=_law_width, 2=_law_stairs_here, 3=_law_due, 4=_law_shown, 5=_law_stair]
/-- copies of rows, each a new list or a tuple -/
def ShQ (K : PySem.W.Frag) (H0 H : Hp) (rs : List V) (M : List (List Int)) : Prop := rs.length = M.length ∧ ∀ (i : Nat) r, rs[i]? = some r → ∃ t row, r = V.ref t ∧ M[i]? = some row ∧ ((H0 t = none ∧ H t = some (.lst (row.map V.int))) ∨ SqT K H t (row.map V.int))
theorem ShQ.rowQ {H0 H : Hp} {rs : List V} {M : List (List Int)} (h : ShQ K H0 H rs M) : RowQ K H rs M := ⟨h.1, fun i r hr => by
  obtain ⟨t, row, a1, a2, a3⟩ := h.2 i r hr
  exact ⟨t, row, a1, a2, a3.elim (fun z => .inl (SqL.of z.2)) .inr⟩⟩
def spShapes (K : PySem.W.Frag) : Sp := fun vs H Q _ => ∃ (B : Bg) (p : Addr) (rs : List V) (M : List (List Int)), vs = [.ref B.b, .ref p] ∧ Bag B H ∧ H p = some (.lst rs) ∧ p ≠ B.b ∧ LstM H rs M ∧ M.length ≤ 100 ∧ (∀ r ∈ M, 0 < r.length) ∧ ∀ t ys H', Bag B H' → Kb B.b H H' → H t = none → H' t = some (.lst ys) → ShQ K H H' ys M → Q (.ref t) H'
theorem ok_shapes (T : Tx K mg) : FnOk P w K mg base CX0 2 T.f_l_shapes T.d_l_shapes ["_law_bag", "_law_rows"] (spShapes K) := by
  have G_l_pull := ok_pull (P := P) (w := w) (base := base) T
  refine T.F_l_shapes.ok sc_l_shapes (fun vs H Q E h => ?_) (fun cdv A outer s H vs Q E hr h => ?_)
  · obtain ⟨B, p, rs, M, rfl, _⟩ := h
    rfl
  obtain ⟨B, p, rs, M, rfl, hB, hp, hne, hM, hl, hpos, q⟩ := h
  have nd := sc_l_shapes.nd
  refine ⟨_, (pss_one (ps_ret (pe_lc (own := [("_law_row", 2)]) (g := (gName 2)) rfl nd (show PI _ _ _ (iList K _) from pi_list (pv 1)) (blkOk_by (own := [("_law_row", 2)]) (N := N_l_shapes) (sc := defScope s_l_shapes) (by decide +kernel)) (fun _ _ _ _ _ => by exact (pg_name (i := 2) nd rfl (Or.inl rfl))) (fun _ _ _ _ _ => by exact pts_nil) (fun _ _ _ _ _ => by exact (pe_ifExp (pt_cmpR op_eq (pe_call G_l_pull hr (by rfl) T.m_l_pull T.F_l_pull.kp T.b_l_pull .nil pass0 (pa_cons (pv 0) (pa_cons pe_int pa_nil))) pe_int (nomark _)) (pe_callTy (show CallR _ _ (rListOf K) from call_list_of) (by rfl) T.z_list (by decide +kernel) (pa_cons (pv 2) pa_nil)) (pe_callTy (show CallR _ _ (rTup1 K) from call_tup1) (by rfl) T.z_tuple (by decide +kernel) (pa_cons (pv 2) pa_nil))))))), ?_⟩
  refine ⟨_, rfl, p, rfl, ⟨_, SqL.of hp⟩, fun D hD => ?_⟩
  have hrl := hM.1
  refine lcbH (B := B) (walk_list (K := K) (a := p) (xs := rs)) (fun i y Ha => ∃ t row, y = V.ref t ∧ M[i]? = some row ∧ ((H t = none ∧ t ≠ D ∧ Ha t = some (.lst (row.map V.int))) ∨ SqT K Ha t (row.map V.int))) (fun i y Ha Hb hBa k ⟨t, row, a1, a3, a4⟩ => ⟨t, row, a1, a3, a4.elim (fun z => .inl ⟨z.1, z.2.1, k _ _ z.2.2 (hBa.ne_row z.2.2)⟩) (fun z => .inr (let ⟨_, _, _, _, h1, _⟩ := hBa.ex; seqT_kb h1 k z))⟩) (fun i y Ha zs zs' hz ⟨t, row, a1, a3, a4⟩ => ⟨t, row, a1, a3, a4.elim (fun z => .inl ⟨z.1, z.2.1, by rw [upd_ne z.2.1]; exact z.2.2⟩) (fun z => .inr (seqT_lst hz z))⟩) (by omega) hB hD (fun Ha hBa k => SqL.of (k _ _ hp hne)) ?_ fun ys H1 hyl hys kb1 hB1 hD1 => ?_
  · rintro i x Ha Hb hi kba hBa ⟨zs, hz⟩ ⟨rfl, hx⟩ k hk
    obtain ⟨t, row, rfl, hrow, hrT⟩ := hM.2 i x hx
    have hrTa := kba _ _ hrT (hB.ne_row hrT)
    refine ⟨rfl, ?_⟩
    refine ⟨_, rfl, B, 2, rfl, by decide, by decide, hBa, fun d Hc d0 d1 hBc kbc => ?_⟩
    have hrTc := kbc _ _ hrTa (hBa.ne_row hrTa)
    have hzc := kbc _ _ hz (hB.nb hD)
    refine ⟨rfl, _, rfl, ?_⟩
    refine ite2 (fun _ => ?_) (fun _ => ?_)
    · refine ⟨_, rfl, t, _, rfl, .inl (SqL.of hrTc), fun R hR => ?_⟩
      have hRn : H R = none := kb_free kba (kb_free kbc hR (hBc.nb hR)) (hBc.nb hR)
      exact hk _ _ ⟨R, row, rfl, hrow, .inl ⟨hRn, (ne_of_none hzc hR).symm, upd_same⟩⟩ (kbc.new hR) (hBc.new hR)
    · exact ⟨_, rfl, t, _, rfl, .inl (SqL.of hrTc), fun u Hd sd hu => hk _ _ ⟨u, row, rfl, hrow, .inr hu⟩ (kbc.trans (Kb.same sd)) (hBc.same sd)⟩
  · refine q D ys H1 hB1 kb1 hD hD1 ⟨hyl.trans hrl, fun i r hr => ?_⟩
    obtain ⟨t, row, a1, a3, a4⟩ := hys i r hr
    exact ⟨t, row, a1, a3, a4.elim (fun z => .inl ⟨z.1, z.2.2⟩) .inr⟩
end
end TL
namespace TL
open PySem L2

/-! ### steps of a reading -/
local macro_rules | `(tactic| walk_at "hp") => `(tactic| first | assumption | exact upd_same | (refine (upd_ne (by first | assumption | (exact Ne.symm (by assumption)))).trans ?_; walk_at "hp"))
local macro_rules | `(tactic| walk_at "ok") => `(tactic| first | (exact Or.inr ⟨by decide, by decide⟩) | (exact ⟨by decide, by decide⟩) | (exact ⟨by decide, by decide, by decide⟩) | (show _ ≠ _; omega) | (show _ ≠ _; decide) | (exact Or.inl ⟨by omega, by omega⟩) | decide)
local macro_rules | `(tactic| walk_at "sq") => `(tactic| first | assumption | exact SqL.of (by walk_at "hp") | exact SqT.of (by walk_at "hp"))
local macro_rules | `(tactic| walk_at "ty") => `(tactic| first | refine ⟨_, _, Value.type "int", Value.type "list", false, rfl, ClsV.ty _, TyX.base (TyOf.int _), kt_int_list, ?_⟩ | refine ⟨_, _, Value.type "bool", Value.type "list", false, rfl, ClsV.ty _, TyX.base (TyOf.bl _), kt_bool_list, ?_⟩ | refine ⟨_, _, Value.type "str", Value.type "list", false, rfl, ClsV.ty _, TyX.base (TyOf.str _), kt_str_list, ?_⟩ | refine ⟨_, _, Value.type "NoneType", Value.type "list", false, rfl, ClsV.ty _, TyX.base TyOf.non, kt_NoneType_list, ?_⟩ | refine ⟨_, _, Value.type "list", Value.type "list", true, rfl, ClsV.ty _, tyx_L (by walk_at "sq"), kt_list_list, ?_⟩ | refine ⟨_, _, Value.type "tuple", Value.type "list", false, rfl, ClsV.ty _, tyx_T (by walk_at "sq"), kt_tuple_list, ?_⟩ | refine ⟨_, _, Value.type "int", Value.type "tuple", false, rfl, ClsV.ty _, TyX.base (TyOf.int _), kt_int_tuple, ?_⟩ | refine ⟨_, _, Value.type "bool", Value.type "tuple", false, rfl, ClsV.ty _, TyX.base (TyOf.bl _), kt_bool_tuple, ?_⟩ | refine ⟨_, _, Value.type "str", Value.type "tuple", false, rfl, ClsV.ty _, TyX.base (TyOf.str _), kt_str_tuple, ?_⟩ | refine ⟨_, _, Value.type "NoneType", Value.type "tuple", false, rfl, ClsV.ty _, TyX.base TyOf.non, kt_NoneType_tuple, ?_⟩ | refine ⟨_, _, Value.type "list", Value.type "tuple", false, rfl, ClsV.ty _, tyx_L (by walk_at "sq"), kt_list_tuple, ?_⟩ | refine ⟨_, _, Value.type "tuple", Value.type "tuple", true, rfl, ClsV.ty _, tyx_T (by walk_at "sq"), kt_tuple_tuple, ?_⟩ | refine ⟨_, _, Value.type "int", Value.type "bool", false, rfl, ClsV.ty _, TyX.base (TyOf.int _), kt_int_bool, ?_⟩ | refine ⟨_, _, Value.type "bool", Value.type "bool", true, rfl, ClsV.ty _, TyX.base (TyOf.bl _), kt_bool_bool, ?_⟩ | refine ⟨_, _, Value.type "str", Value.type "bool", false, rfl, ClsV.ty _, TyX.base (TyOf.str _), kt_str_bool, ?_⟩ | refine ⟨_, _, Value.type "NoneType", Value.type "bool", false, rfl, ClsV.ty _, TyX.base TyOf.non, kt_NoneType_bool, ?_⟩ | refine ⟨_, _, Value.type "list", Value.type "bool", false, rfl, ClsV.ty _, tyx_L (by walk_at "sq"), kt_list_bool, ?_⟩ | refine ⟨_, _, Value.type "tuple", Value.type "bool", false, rfl, ClsV.ty _, tyx_T (by walk_at "sq"), kt_tuple_bool, ?_⟩ | refine ⟨_, _, Value.type "int", Value.type "int", true, rfl, ClsV.ty _, TyX.base (TyOf.int _), kt_int_int, ?_⟩ | refine ⟨_, _, Value.type "bool", Value.type "int", true, rfl, ClsV.ty _, TyX.base (TyOf.bl _), kt_bool_int, ?_⟩ | refine ⟨_, _, Value.type "str", Value.type "int", false, rfl, ClsV.ty _, TyX.base (TyOf.str _), kt_str_int, ?_⟩ | refine ⟨_, _, Value.type "NoneType", Value.type "int", false, rfl, ClsV.ty _, TyX.base TyOf.non, kt_NoneType_int, ?_⟩ | refine ⟨_, _, Value.type "list", Value.type "int", false, rfl, ClsV.ty _, tyx_L (by walk_at "sq"), kt_list_int, ?_⟩ | refine ⟨_, _, Value.type "tuple", Value.type "int", false, rfl, ClsV.ty _, tyx_T (by walk_at "sq"), kt_tuple_int, ?_⟩ | refine ⟨_, _, Value.type "int", Value.type "str", false, rfl, ClsV.ty _, TyX.base (TyOf.int _), kt_int_str, ?_⟩ | refine ⟨_, _, Value.type "bool", Value.type "str", false, rfl, ClsV.ty _, TyX.base (TyOf.bl _), kt_bool_str, ?_⟩ | refine ⟨_, _, Value.type "str", Value.type "str", true, rfl, ClsV.ty _, TyX.base (TyOf.str _), kt_str_str, ?_⟩ | refine ⟨_, _, Value.type "NoneType", Value.type "str", false, rfl, ClsV.ty _, TyX.base TyOf.non, kt_NoneType_str, ?_⟩ | refine ⟨_, _, Value.type "list", Value.type "str", false, rfl, ClsV.ty _, tyx_L (by walk_at "sq"), kt_list_str, ?_⟩ | refine ⟨_, _, Value.type "tuple", Value.type "str", false, rfl, ClsV.ty _, tyx_T (by walk_at "sq"), kt_tuple_str, ?_⟩)
local macro_rules | `(tactic| walk_at "go1") => `(tactic| first
  | (refine ⟨_, rfl, ?_⟩)
  | (refine ⟨_, _, rfl, rfl, ?_⟩)
  | (refine ⟨_, _, _, _, rfl, rfl, SqL.of (by walk_at "hp"), rfl, ?_⟩)
  | (refine Or.inl ⟨_, rfl, ?_⟩)
  | (refine ⟨rfl, ?_⟩)
  | (refine ⟨_, _, rfl, .inl (SqL.of (by walk_at "hp")), ?_⟩)
  | (refine ⟨_, _, rfl, Or.inl (by assumption), ?_⟩)
  | (refine ⟨_, _, rfl, Or.inr (by assumption), ?_⟩)
  | (refine ⟨(by walk_at "ok"), ?_⟩)
  | (refine ⟨_, _, _, _, rfl, rfl, (by walk_at "hp"), rfl, ?_⟩))
local macro_rules | `(tactic| walk_at "go") => `(tactic| repeat (walk_at "go1"))
local macro_rules | `(tactic| walk_at "gt") => `(tactic| repeat (first | walk_at "go1" | walk_at "ty"))

section
variable {P : Program} {w : World} {K : PySem.W.Frag} {mg : Str → Option Value} {base : Heap}
-- [0=_law_lattice_here, 1=_law_width, 2=_law_stairs_here, 3=_law_due, 4=_law_shown, 5=_law_stair]
theorem fl_stc (n : Int) (t1 t2 : Addr) : List.lookup ("staircase" : Str) [(("width" : Str), V.int n), ("_vectors", .ref t1), ("_stairs", .ref t2)] = none := by
  have e1 : (("staircase" : Str) == "width") = false := by decide +kernel
  have e2 : (("staircase" : Str) == "_vectors") = false := by decide +kernel
  have e3 : (("staircase" : Str) == "_stairs") = false := by decide +kernel
  simp [List.lookup, e1, e2, e3]
theorem deq_tups {H : Hp} {a b : Addr} {xs ys : List V} {S : List (List Int)} (h1 : SqL K H a xs) (h2 : SqL K H b ys) (t1 : TupQ K H xs S) (t2 : TupQ K H ys S) (hl : S.length ≤ 100) (hw : ∀ r ∈ S, r.length ≤ 100) : DEq K H 2 (.ref a) (.ref b) := by
  refine .lst h1 h2 (by have := t1.1; omega) (t1.1.trans t2.1.symm) fun i x y hx hy => ?_
  obtain ⟨t, row, rfl, e1, e2⟩ := t1.2 i x hx
  obtain ⟨u, row', rfl, f1, f2⟩ := t2.2 i y hy
  rw [e1] at f1
  obtain rfl := Option.some.inj f1
  have hr := hw row (List.mem_of_getElem? e1)
  refine .tup e2 f2 (by rw [List.length_map]; omega) rfl fun j v u hv hu => ?_
  rw [hv] at hu
  obtain rfl := Option.some.inj hu
  rw [List.getElem?_map] at hv
  obtain ⟨n, _, rfl⟩ := Option.map_eq_some_iff.mp hv
  exact .int n
def spRight (K : PySem.W.Frag) (C : Addr) : Sp := fun vs H Q _ => ∃ (D : Addr → Prop) (x p : Addr) (wd : Nat) (rs : List V) (S : List (List Int)), vs = [.ref x, .int (wd : Int), .ref p] ∧ LatF K C D H x wd S ∧ SqL K H p rs ∧ MatQ K H rs S ∧ S.length ≤ 100 ∧ (∀ r ∈ S, r.length ≤ 100) ∧ ∀ H', Same H H' → Q (.bl true) H'
theorem ok_right (T : Tx K mg) : FnOk P w K mg base CX0 4 T.f_l_right T.d_l_right ["_law_lattice_here", "_law_width", "_law_stairs_here"] (spRight K T.C_Lattice) := by
  have G_Lattice_staircase := ok_stc (P := P) (w := w) (base := base) T
  have G_Lattice_len := ok_len (P := P) (w := w) (base := base) T
  have G_Lattice_bool := ok_bool (P := P) (w := w) (base := base) T
  have G_l_same := ok_same (P := P) (w := w) (base := base) T 3
  refine T.F_l_right.ok sc_l_right (fun vs H Q E h => ?_) (fun cdv A outer s H vs Q E hr h => ?_)
  · obtain ⟨_, x, p, _, _, _, rfl, _⟩ := h
    rfl
  obtain ⟨D, x, p, wd, rs, S, rfl, hx, hp, hM, hl, hw, q⟩ := h
  have nd := sc_l_right.nd
  refine ⟨_, (pss_cons (ps_setLc (i := 3) (own := [("_law_stair", 5)]) (g := (gName 5)) rfl nd rfl rfl (sw_true rfl rfl rfl (by decide +kernel)) (show PI _ _ _ (iList K _) from pi_list (pv 2)) (blkOk_by (own := [("_law_stair", 5)]) (N := N_l_right) (sc := defScope s_l_right) (by decide +kernel)) (fun _ _ _ _ _ => by exact (pg_name (i := 5) nd rfl (Or.inl rfl))) (fun _ _ _ _ _ => by exact pts_nil) (fun _ _ _ _ _ => by exact (pe_callTy (show CallR _ _ (rTup1 K) from call_tup1) (by rfl) T.z_tuple (by decide +kernel) (pa_cons (pv 5) pa_nil))))
    (pss_cons (ps_set (i := 4) nd rfl (Or.inl rfl) (pe_meth0 (pv 0) T.c_Lattice T.a_Lattice_staircase G_Lattice_staircase (hr.mono (by decide)) T.b_Lattice_staircase .nil pass0))
    (pss_cons (ps_if (PW.pt (pw_or (pt_not (pt_val (pe_call G_l_same hr (by rfl) T.m_l_same T.F_l_same.kp T.b_l_same .nil pass0 (pa_cons (pv 4) (pa_cons (pv 3) pa_nil))))) (pw_or1 (pt_not (pt_val (pe_call G_l_same hr (by rfl) T.m_l_same T.F_l_same.kp T.b_l_same .nil pass0 (pa_cons (pe_lst (pa_cons (pe_callB (call_lenOw T.a_Lattice_len.at_ T.a_Lattice_len.fn G_Lattice_len (hr.mono (by decide)) T.b_Lattice_len pass0) (by rfl) T.z_len (by decide +kernel) (pa_cons (pv 0) pa_nil)) (pa_cons (show PE _ _ (tFld K _ _) from pe_fld (pv 0) rfl) pa_nil))) (pa_cons (pe_lst (pa_cons (pe_callB (show CallR _ _ (rLenSq K) from call_len_seq) (by rfl) T.z_len (by decide +kernel) (pa_cons (pv 3) pa_nil)) (pa_cons (pv 1) pa_nil))) pa_nil)))))))) (pss_one (ps_ret pe_bl)) pss_nil)
    (pss_cons (ps_expr (pe_bm PySem.F.plainAttrs_list PySem.F.slot_list_append PySem.F.type_list_append mt_append (pv 4) (pa_cons (pe_tup (pa_cons pe_int pa_nil)) pa_nil)))
    (pss_cons (ps_expr (pe_bm0 PySem.F.plainAttrs_list PySem.F.slot_list_reverse PySem.F.type_list_reverse mt_reverse (pv 4)))
    (pss_one (ps_ret (pe_and (pe_call G_l_same hr (by rfl) T.m_l_same T.F_l_same.kp T.b_l_same .nil pass0 (pa_cons (pe_meth0 (pv 0) T.c_Lattice T.a_Lattice_staircase G_Lattice_staircase (hr.mono (by decide)) T.b_Lattice_staircase .nil pass0) (pa_cons (pv 3) pa_nil))) (pe_one (pe_cmpR op_isB (pe_callTy (call_boolOw T.a_Lattice_bool.at_ T.a_Lattice_bool.fn G_Lattice_bool (hr.mono (by decide)) T.b_Lattice_bool pass0) (by rfl) T.z_bool (by decide +kernel) (pa_cons (pv 0) pa_nil)) pe_bl (nomark _))))))))))), ?_⟩
  have hst : L2.start N_l_right [.ref x, .int (wd : Int), .ref p] = [some (.ref x), some (.int (wd : Int)), some (.ref p), none, none, none] := rfl
  rw [hst]
  refine ⟨_, rfl, p, rfl, ⟨_, hp⟩, fun V0 hV0 => ?_⟩
  refine tupsOf (walk_list (K := K) (a := p) (xs := rs)) (fun Ha s => s.seq hp) hM hl hV0 (fun u => rfl) (fun u => rfl) fun H1 ys s1 hV1 ht1 => ?_
  dsimp only [List.set_cons_succ, List.set_cons_zero]
  obtain ⟨dx, va, sa, qs, g1, g2, g3⟩ := hx.open
  refine ⟨_, rfl, x, dx, _, rfl, s1 _ _ g1, fl_stc _ _ _, D, x, wd, S, rfl, hx.same s1, hl, fun t ts H2 s2 ht0 ht hts => ?_⟩
  dsimp only [List.set_cons_succ, List.set_cons_zero, gName]
  have s02 := s1.trans s2
  refine ⟨_, rfl, _, rfl, 2, .ref t, .ref V0, rfl, by decide, deq_tups (SqL.of ht) (SqL.of (s2 _ _ hV1)) hts (ht1.same s2) hl hw, fun H3 s3 => ⟨_, rfl, iteF' rfl ?_⟩⟩
  have s03 := s02.trans s3
  refine ⟨_, rfl, x, dx, _, rfl, s03 _ _ g1, D, x, wd, S, rfl, hx.same s03, _, rfl, by omega, by omega, _, rfl, x, _, _, _, _, rfl, s03 _ _ g1, T.c_Lattice, T.n_Lattice_width, fl_w _ _ _, by show 2 ≤ sizeLine; decide, fun La hLa => ?_⟩
  have s4 := Same.new (o := .lst [V.int (S.length : Int), V.int (wd : Int)]) hLa
  have hV4 := s4 _ _ (s3 _ _ (s2 _ _ hV1))
  refine ⟨_, rfl, V0, _, rfl, .inl (SqL.of hV4), _, rfl, by show 2 ≤ sizeLine; decide, fun Lb hLb => ?_⟩
  have hyl := ht1.1
  have s5 := Same.new (o := .lst [V.int (ys.length : Int), V.int (wd : Int)]) hLb
  have hLa5 := s5 _ _ (upd_same (H := H3) (a := La) (o := .lst [V.int (S.length : Int), V.int (wd : Int)]))
  refine ⟨1, .ref La, .ref Lb, rfl, by decide, .lst (SqL.of hLa5) (SqL.of upd_same) (by show 2 ≤ 100000; decide) rfl (fun i y z hy hz => ?_), fun H6 s6 => ⟨_, rfl, iteF' rfl ?_⟩⟩
  · rw [hyl, hy] at hz
    obtain rfl := Option.some.inj hz
    match i, hy with
    | 0, hy => cases hy; exact .int _
    | 1, hy => cases hy; exact .int _
    | i + 2, hy => cases hy
  have s36 := s4.trans (s5.trans s6)
  have s26 := s3.trans s36
  have ht6 := s26 _ _ ht
  refine ⟨_, rfl, .inl ⟨rfl, _, SqL.of ht6⟩, by show 1 ≤ sizeLine; decide, fun T1 hT1 => ?_⟩
  have s7 := Same.new (o := .tup [V.int 1]) hT1
  refine ⟨t, ts, _, rfl, rfl, s7 _ _ ht6, Nat.lt_of_le_of_lt (by have := hts.1; omega : ts.length ≤ 1000) (by decide), ?_⟩
  refine ⟨_, rfl, .inl ⟨rfl, _, SqL.of upd_same⟩, t, _, rfl, rfl, upd_same, ?_⟩
  rw [upd_upd]
  have s17 : Same H1 (upd (upd H6 T1 (.tup [V.int 1])) t (.lst (ts ++ [V.ref T1]).reverse)) := (s2.trans (s26.trans s7)).upd_new ht0
  generalize upd (upd H6 T1 (.tup [V.int 1])) t (.lst (ts ++ [V.ref T1]).reverse) = H8 at *
  have s08 := s1.trans s17
  refine ⟨_, rfl, x, dx, _, rfl, s08 _ _ g1, fl_stc _ _ _, D, x, wd, S, rfl, hx.same s08, hl, fun t2 ts2 H9 s9 ht20 ht2 hts2 => ?_⟩
  refine ⟨_, rfl, 2, .ref t2, .ref V0, rfl, by decide, deq_tups (SqL.of ht2) (SqL.of (s9 _ _ (s17 _ _ hV1))) hts2 ((ht1.same s17).same s9) hl hw, fun H10 s10 => ?_⟩
  have s11 := s08.trans (s9.trans s10)
  refine ⟨_, rfl, iteT' rfl ?_⟩
  exact ⟨_, rfl, x, dx, _, rfl, s11 _ _ g1, _, rfl, _, rfl, _, _, rfl, rfl, q _ s11⟩
end
end TL
namespace TL
open PySem L2

/-! ### steps of a reading -/
local macro_rules | `(tactic| walk_at "hp") => `(tactic| first | assumption | exact upd_same | (refine (upd_ne (by first | assumption | (exact Ne.symm (by assumption)))).trans ?_; walk_at "hp"))
local macro_rules | `(tactic| walk_at "ok") => `(tactic| first | (exact Or.inr ⟨by decide, by decide⟩) | (exact ⟨by decide, by decide⟩) | (exact ⟨by decide, by decide, by decide⟩) | (show _ ≠ _; omega) | (show _ ≠ _; decide) | (exact Or.inl ⟨by omega, by omega⟩) | decide)
local macro_rules | `(tactic| walk_at "sq") => `(tactic| first | assumption | exact SqL.of (by walk_at "hp") | exact SqT.of (by walk_at "hp"))
local macro_rules | `(tactic| walk_at "ty") => `(tactic| first | refine ⟨_, _, Value.type "int", Value.type "list", false, rfl, ClsV.ty _, TyX.base (TyOf.int _), kt_int_list, ?_⟩ | refine ⟨_, _, Value.type "bool", Value.type "list", false, rfl, ClsV.ty _, TyX.base (TyOf.bl _), kt_bool_list, ?_⟩ | refine ⟨_, _, Value.type "str", Value.type "list", false, rfl, ClsV.ty _, TyX.base (TyOf.str _), kt_str_list, ?_⟩ | refine ⟨_, _, Value.type "NoneType", Value.type "list", false, rfl, ClsV.ty _, TyX.base TyOf.non, kt_NoneType_list, ?_⟩ | refine ⟨_, _, Value.type "list", Value.type "list", true, rfl, ClsV.ty _, tyx_L (by walk_at "sq"), kt_list_list, ?_⟩ | refine ⟨_, _, Value.type "tuple", Value.type "list", false, rfl, ClsV.ty _, tyx_T (by walk_at "sq"), kt_tuple_list, ?_⟩ | refine ⟨_, _, Value.type "int", Value.type "tuple", false, rfl, ClsV.ty _, TyX.base (TyOf.int _), kt_int_tuple, ?_⟩ | refine ⟨_, _, Value.type "bool", Value.type "tuple", false, rfl, ClsV.ty _, TyX.base (TyOf.bl _), kt_bool_tuple, ?_⟩ | refine ⟨_, _, Value.type "str", Value.type "tuple", false, rfl, ClsV.ty _, TyX.base (TyOf.str _), kt_str_tuple, ?_⟩ | refine ⟨_, _, Value.type "NoneType", Value.type "tuple", false, rfl, ClsV.ty _, TyX.base TyOf.non, kt_NoneType_tuple, ?_⟩ | refine ⟨_, _, Value.type "list", Value.type "tuple", false, rfl, ClsV.ty _, tyx_L (by walk_at "sq"), kt_list_tuple, ?_⟩ | refine ⟨_, _, Value.type "tuple", Value.type "tuple", true, rfl, ClsV.ty _, tyx_T (by walk_at "sq"), kt_tuple_tuple, ?_⟩ | refine ⟨_, _, Value.type "int", Value.type "bool", false, rfl, ClsV.ty _, TyX.base (TyOf.int _), kt_int_bool, ?_⟩ | refine ⟨_, _, Value.type "bool", Value.type "bool", true, rfl, ClsV.ty _, TyX.base (TyOf.bl _), kt_bool_bool, ?_⟩ | refine ⟨_, _, Value.type "str", Value.type "bool", false, rfl, ClsV.ty _, TyX.base (TyOf.str _), kt_str_bool, ?_⟩ | refine ⟨_, _, Value.type "NoneType", Value.type "bool", false, rfl, ClsV.ty _, TyX.base TyOf.non, kt_NoneType_bool, ?_⟩ | refine ⟨_, _, Value.type "list", Value.type "bool", false, rfl, ClsV.ty _, tyx_L (by walk_at "sq"), kt_list_bool, ?_⟩ | refine ⟨_, _, Value.type "tuple", Value.type "bool", false, rfl, ClsV.ty _, tyx_T (by walk_at "sq"), kt_tuple_bool, ?_⟩ | refine ⟨_, _, Value.type "int", Value.type "int", true, rfl, ClsV.ty _, TyX.base (TyOf.int _), kt_int_int, ?_⟩ | refine ⟨_, _, Value.type "bool", Value.type "int", true, rfl, ClsV.ty _, TyX.base (TyOf.bl _), kt_bool_int, ?_⟩ | refine ⟨_, _, Value.type "str", Value.type "int", false, rfl, ClsV.ty _, TyX.base (TyOf.str _), kt_str_int, ?_⟩ | refine ⟨_, _, Value.type "NoneType", Value.type "int", false, rfl, ClsV.ty _, TyX.base TyOf.non, kt_NoneType_int, ?_⟩ | refine ⟨_, _, Value.type "list", Value.type "int", false, rfl, ClsV.ty _, tyx_L (by walk_at "sq"), kt_list_int, ?_⟩ | refine ⟨_, _, Value.type "tuple", Value.type "int", false, rfl, ClsV.ty _, tyx_T (by walk_at "sq"), kt_tuple_int, ?_⟩ | refine ⟨_, _, Value.type "int", Value.type "str", false, rfl, ClsV.ty _, TyX.base (TyOf.int _), kt_int_str, ?_⟩ | refine ⟨_, _, Value.type "bool", Value.type "str", false, rfl, ClsV.ty _, TyX.base (TyOf.bl _), kt_bool_str, ?_⟩ | refine ⟨_, _, Value.type "str", Value.type "str", true, rfl, ClsV.ty _, TyX.base (TyOf.str _), kt_str_str, ?_⟩ | refine ⟨_, _, Value.type "NoneType", Value.type "str", false, rfl, ClsV.ty _, TyX.base TyOf.non, kt_NoneType_str, ?_⟩ | refine ⟨_, _, Value.type "list", Value.type "str", false, rfl, ClsV.ty _, tyx_L (by walk_at "sq"), kt_list_str, ?_⟩ | refine ⟨_, _, Value.type "tuple", Value.type "str", false, rfl, ClsV.ty _, tyx_T (by walk_at "sq"), kt_tuple_str, ?_⟩)
local macro_rules | `(tactic| walk_at "go1") => `(tactic| first
  | (refine ⟨_, rfl, ?_⟩)
  | (refine ⟨_, _, rfl, rfl, ?_⟩)
  | (refine ⟨_, _, _, _, rfl, rfl, SqL.of (by walk_at "hp"), rfl, ?_⟩)
  | (refine Or.inl ⟨_, rfl, ?_⟩)
  | (refine ⟨rfl, ?_⟩)
  | (refine ⟨_, _, rfl, .inl (SqL.of (by walk_at "hp")), ?_⟩)
  | (refine ⟨_, _, rfl, Or.inl (by assumption), ?_⟩)
  | (refine ⟨_, _, rfl, Or.inr (by assumption), ?_⟩)
  | (refine ⟨(by walk_at "ok"), ?_⟩)
  | (refine ⟨_, _, _, _, rfl, rfl, (by walk_at "hp"), rfl, ?_⟩))
local macro_rules | `(tactic| walk_at "go") => `(tactic| repeat (walk_at "go1"))
local macro_rules | `(tactic| walk_at "gt") => `(tactic| repeat (first | walk_at "go1" | walk_at "ty"))

section
variable {P : Program} {w : World} {K : PySem.W.Frag} {mg : Str → Option Value} {base : Heap}
-- [0=_law_bag, 1=_law_width, 2=_law_rows, 3=_law_found, 4=_law_turn, 5=_law_at, 6=_law_also, 7=_law_many*, 8=_law_x, 9=_law_y]
theorem LstM.cons {H : Hp} {r : V} {rs : List V} {row : List Int} {M : List (List Int)} (h : LstM H (r :: rs) (row :: M)) : LstM H rs M ∧ ∃ t, r = .ref t ∧ H t = some (.lst (row.map V.int)) := ⟨⟨Nat.succ.inj h.1, fun i x hx => h.2 (i + 1) x hx⟩, by
  obtain ⟨t, row', rfl, e, h'⟩ := h.2 0 r rfl
  obtain rfl : row = row' := Option.some.inj e
  exact ⟨t, rfl, h'⟩⟩
theorem LstM.put {H : Hp} {t : Addr} {rs : List V} {row : List Int} {M : List (List Int)} (h : LstM H rs M) (ht : H t = some (.lst (row.map V.int))) : LstM H (.ref t :: rs) (row :: M) := ⟨congrArg (· + 1) h.1, fun i x hx => by
  cases i with
  | zero =>
    obtain rfl : V.ref t = x := Option.some.inj hx
    exact ⟨t, row, rfl, rfl, ht⟩
  | succ i => exact h.2 i x hx⟩
theorem LstM.perm {H : Hp} {rs ys : List V} (p : rs.Perm ys) : ∀ {M : List (List Int)}, LstM H rs M → ∃ N, LstM H ys N ∧ N.Perm M := by
  induction p with
  | nil =>
    intro M h
    exact ⟨M, h, List.Perm.refl _⟩
  | cons x p ih =>
    intro M h
    cases M with
    | nil => cases h.1
    | cons row M =>
      obtain ⟨h1, t, rfl, h2⟩ := h.cons
      obtain ⟨N, n1, n2⟩ := ih h1
      exact ⟨row :: N, n1.put h2, n2.cons row⟩
  | swap x y l =>
    intro M h
    match M, h with
    | [], h => cases h.1
    | [_], h => cases h.1
    | r1 :: r2 :: M, h =>
      obtain ⟨h1, t, rfl, h2⟩ := h.cons
      obtain ⟨h3, u, rfl, h4⟩ := h1.cons
      exact ⟨r2 :: r1 :: M, (h3.put h2).put h4, List.Perm.swap ..⟩
  | trans p1 p2 ih1 ih2 =>
    intro M h
    obtain ⟨N, n1, n2⟩ := ih1 h
    obtain ⟨L, l1, l2⟩ := ih2 n1
    exact ⟨L, l1, l2.trans n2⟩
/-- of one lattice -/
def SpE (A B : List (List Int)) : Prop := ∀ u, Spn (A.map vecL) u ↔ Spn (B.map vecL) u
theorem SpE.trans {A B C : List (List Int)} (a : SpE A B) (b : SpE B C) : SpE A C := fun u => (a u).trans (b u)
theorem SpE.perm {A B : List (List Int)} (p : A.Perm B) : SpE A B := fun u => Spn.iff (fun x hx => by
  obtain ⟨r, hr, rfl⟩ := List.mem_map.mp hx
  exact Spn.mem (List.mem_map.mpr ⟨r, p.mem_iff.mp hr, rfl⟩)) (fun x hx => by
  obtain ⟨r, hr, rfl⟩ := List.mem_map.mp hx
  exact Spn.mem (List.mem_map.mpr ⟨r, p.mem_iff.mpr hr, rfl⟩)) u
theorem spn_row {M : List (List Int)} {r : List Int} (h : r ∈ M) : Spn (M.map vecL) (vecL r) := Spn.mem (List.mem_map.mpr ⟨r, h, rfl⟩)
theorem SpE.set {M : List (List Int)} {i : Nat} {n : List Int} (hi : i < M.length) (h1 : Spn (M.map vecL) (vecL n)) (h2 : Spn ((M.set i n).map vecL) (vecL M[i])) : SpE (M.set i n) M := fun u => Spn.iff (fun x hx => by
  obtain ⟨r, hr, rfl⟩ := List.mem_map.mp hx
  rcases List.mem_or_eq_of_mem_set hr with z | rfl
  · exact spn_row z
  · exact h1) (fun x hx => by
  obtain ⟨r, hr, rfl⟩ := List.mem_map.mp hx
  obtain ⟨k, hk, rfl⟩ := List.mem_iff_getElem.mp hr
  by_cases e : k = i
  · subst e
    exact h2
  · refine spn_row (List.mem_iff_getElem.mpr ⟨k, by rw [List.length_set]; exact hk, ?_⟩)
    rw [List.getElem_set, if_neg (Ne.symm e)]) u
theorem zip_vec {a b : List Int} {m : Int} (h : a.length = b.length) : vecL (List.zipWith (fun x y => x + m * y) a b) = fun j => vecL a j + m * vecL b j := by
  funext j
  unfold vecL
  rw [List.getD_eq_getElem?_getD, List.getD_eq_getElem?_getD, List.getD_eq_getElem?_getD, List.getElem?_zipWith]
  rcases Nat.lt_or_ge j a.length with z | z
  · rw [List.getElem?_eq_getElem z, List.getElem?_eq_getElem (by omega : j < b.length)]
    rfl
  · rw [List.getElem?_eq_none z, List.getElem?_eq_none (by omega)]
    simp
theorem map_vec {a : List Int} {m : Int} : vecL (a.map (m * ·)) = fun j => m * vecL a j := by
  funext j
  unfold vecL
  rw [List.getD_eq_getElem?_getD, List.getD_eq_getElem?_getD, List.getElem?_map]
  cases a[j]? with
  | none => simp
  | some u => rfl
theorem SpE.zip {M : List (List Int)} {i k : Nat} {m : Int} {w : Nat} (hw : ∀ r ∈ M, r.length = w) (hi : i < M.length) (hk : k < M.length) (n : i ≠ k) : SpE (M.set i (List.zipWith (fun x y => x + m * y) M[i] M[k])) M := by
  have e := zip_vec (m := m) ((hw M[i] (List.getElem_mem hi)).trans (hw M[k] (List.getElem_mem hk)).symm)
  refine SpE.set hi ?_ ?_
  · rw [e]
    exact (spn_row (List.getElem_mem hi)).add ((spn_row (List.getElem_mem hk)).mul m)
  · have h1 : Spn ((M.set i (List.zipWith (fun x y => x + m * y) M[i] M[k])).map vecL) (vecL (List.zipWith (fun x y => x + m * y) M[i] M[k])) := spn_row (List.mem_iff_getElem.mpr ⟨i, by rw [List.length_set]; exact hi, List.getElem_set_self ..⟩)
    have h2 : Spn ((M.set i (List.zipWith (fun x y => x + m * y) M[i] M[k])).map vecL) (vecL M[k]) := spn_row (List.mem_iff_getElem.mpr ⟨k, by rw [List.length_set]; exact hk, by rw [List.getElem_set, if_neg n]⟩)
    rw [e] at h1
    refine (h1.add (h2.mul (-m))).congr fun j => ?_
    rw [Int.neg_mul]
    omega
theorem SpE.neg {M : List (List Int)} {i : Nat} (hi : i < M.length) : SpE (M.set i (M[i].map (- ·))) M := by
  refine SpE.set hi ?_ ?_
  · rw [vec_neg]
    refine ((spn_row (List.getElem_mem hi)).mul (-1)).congr fun j => ?_
    omega
  · have h1 : Spn ((M.set i (M[i].map (- ·))).map vecL) (vecL (M[i].map (- ·))) := spn_row (List.mem_iff_getElem.mpr ⟨i, by rw [List.length_set]; exact hi, List.getElem_set_self ..⟩)
    rw [vec_neg] at h1
    refine (h1.mul (-1)).congr fun j => ?_
    omega
theorem SpE.ins {M : List (List Int)} {i k : Nat} {m : Int} (hi : i < M.length) : SpE (M.take k ++ [M[i].map (m * ·)] ++ M.drop k) M := fun u => Spn.iff (fun x hx => by
  obtain ⟨r, hr, rfl⟩ := List.mem_map.mp hx
  rcases List.mem_append.mp hr with z | z
  · rcases List.mem_append.mp z with z | z
    · exact spn_row (List.mem_of_mem_take z)
    · rw [List.mem_singleton.mp z, map_vec]
      exact (spn_row (List.getElem_mem hi)).mul m
  · exact spn_row (List.mem_of_mem_drop z)) (fun x hx => by
  obtain ⟨r, hr, rfl⟩ := List.mem_map.mp hx
  refine spn_row ?_
  rw [← List.take_append_drop k M] at hr
  rcases List.mem_append.mp hr with z | z
  · exact List.mem_append_left _ (List.mem_append_left _ z)
  · exact List.mem_append_right _ z) u
theorem SpE.zero {wd : Nat} : SpE [List.replicate wd 0] [] := fun u => Spn.nought (fun j => by
  unfold vecL
  rw [List.getD_eq_getElem?_getD, List.getElem?_replicate]
  split <;> rfl) u
theorem LstM.set {H : Hp} {rs : List V} {M : List (List Int)} {i : Nat} {t : Addr} {row : List Int} (h : LstM H rs M) (ht : H t = some (.lst (row.map V.int))) : LstM H (rs.set i (.ref t)) (M.set i row) := ⟨by rw [List.length_set, List.length_set, h.1], fun k r hr => by
  rw [List.getElem?_set] at hr ⊢
  by_cases e : i = k
  · subst e
    rw [if_pos rfl] at hr ⊢
    split at hr
    · rename_i hl
      rw [if_pos (by rw [← h.1]; exact hl)]
      exact ⟨t, row, (Option.some.inj hr).symm, rfl, ht⟩
    · cases hr
  · rw [if_neg e] at hr ⊢
    exact h.2 k r hr⟩
theorem LstM.app {H : Hp} {rs ys : List V} {M N : List (List Int)} (h : LstM H rs M) (k : LstM H ys N) : LstM H (rs ++ ys) (M ++ N) := ⟨by rw [List.length_append, List.length_append, h.1, k.1], fun i r hr => by
  rcases Nat.lt_or_ge i rs.length with z | z
  · rw [List.getElem?_append_left z] at hr
    rw [List.getElem?_append_left (by rw [← h.1]; exact z)]
    exact h.2 i r hr
  · rw [List.getElem?_append_right z] at hr
    rw [List.getElem?_append_right (by rw [← h.1]; exact z), ← h.1]
    exact k.2 _ r hr⟩
theorem LstM.take {H : Hp} {rs : List V} {M : List (List Int)} (h : LstM H rs M) (k : Nat) : LstM H (rs.take k) (M.take k) := ⟨by rw [List.length_take, List.length_take, h.1], fun i r hr => by
  rw [List.getElem?_take] at hr ⊢
  split at hr
  · rename_i c
    rw [if_pos c]
    exact h.2 i r hr
  · cases hr⟩
theorem LstM.drop {H : Hp} {rs : List V} {M : List (List Int)} (h : LstM H rs M) (k : Nat) : LstM H (rs.drop k) (M.drop k) := ⟨by rw [List.length_drop, List.length_drop, h.1], fun i r hr => by
  rw [List.getElem?_drop] at hr ⊢
  exact h.2 _ r hr⟩
def spOther (K : PySem.W.Frag) : Sp := fun vs H Q _ => ∃ (B : Bg) (p : Addr) (wd : Nat) (rs : List V) (M : List (List Int)), vs = [.ref B.b, .int (wd : Int), .ref p] ∧ 0 < wd ∧ wd ≤ 24 ∧ Bag B H ∧ H p = some (.lst rs) ∧ p ≠ B.b ∧ LstM H rs M ∧ Rws wd M 100 ∧ M.length ≤ 5 ∧ ∀ t ys N H', Bag B H' → Kb B.b H H' → H t = none → H' t = some (.lst ys) → LstM H' ys N → Rws wd N 120 → N.length ≤ 6 → SpE N M → Q (.ref t) H'
theorem ok_other (T : Tx K mg) : FnOk P w K mg base CX0 4 T.f_l_other_vectors T.d_l_other_vectors ["_law_bag", "_law_width", "_law_rows"] (spOther K) := by
  have G_l_pull := ok_pull (P := P) (w := w) (base := base) T
  have G_l_shuffled := ok_shuf (P := P) (w := w) (base := base) T
  refine T.F_l_other_vectors.ok sc_l_other_vectors (fun vs H Q E h => ?_) (fun cdv A outer s H vs Q E hr h => ?_)
  · obtain ⟨B, p, _, _, _, rfl, _⟩ := h
    rfl
  obtain ⟨B, p, wd, rs, M, rfl, hwd, hw1, hB, hp, hne, hM, hR, hl, q⟩ := h
  have nd := sc_l_other_vectors.nd
  refine ⟨_, (pss_cons (ps_set (i := 3) nd rfl (Or.inl rfl) (pe_call G_l_shuffled hr (by rfl) T.m_l_shuffled T.F_l_shuffled.kp T.b_l_shuffled .nil pass0 (pa_cons (pv 0) (pa_cons (pv 2) pa_nil))))
    (pss_cons (ps_for PassesOwn.never rfl (pi_range1 (by rfl) T.z_range (pa_cons pe_int pa_nil)) (pg_name (i := 4) nd rfl (Or.inl rfl)) (pss_cut (ps_if (pt_cmpR (show OpR _ _ (rEqD K) from op_eqD hr.units) (pv 3) (pe_lst pa_nil) (nomark _)) (pss_one (ps_expr (pe_bm PySem.F.plainAttrs_list PySem.F.slot_list_append PySem.F.type_list_append mt_append (pv 3) (pa_cons (pe_op op_rep (pe_lst (pa_cons pe_int pa_nil)) (pv 1)) pa_nil)))) pss_nil)
    (pss_cons (ps_asg (pe_tup (pa_cons (pe_call G_l_pull (hr.mono (by decide)) (by rfl) T.m_l_pull T.F_l_pull.kp T.b_l_pull .nil pass0 (pa_cons (pv 0) (pa_cons (pe_callB (show CallR _ _ (rLenSq K) from call_len_seq) (by rfl) T.z_len (by decide +kernel) (pa_cons (pv 3) pa_nil)) pa_nil))) (pa_cons (pe_call G_l_pull (hr.mono (by decide)) (by rfl) T.m_l_pull T.F_l_pull.kp T.b_l_pull .nil pass0 (pa_cons (pv 0) (pa_cons (pe_callB (show CallR _ _ (rLenSq K) from call_len_seq) (by rfl) T.z_len (by decide +kernel) (pa_cons (pv 3) pa_nil)) pa_nil))) (pa_cons (pe_op op_sub (pe_call G_l_pull (hr.mono (by decide)) (by rfl) T.m_l_pull T.F_l_pull.kp T.b_l_pull .nil pass0 (pa_cons (pv 0) (pa_cons pe_int pa_nil))) pe_int) pa_nil)))) (pg_tup rfl (pgs_cons (pg_name (i := 5) nd rfl (Or.inl rfl)) (pgs_cons (pg_name (i := 6) nd rfl (Or.inl rfl)) (pgs_cons (pg_name (i := 7) nd rfl (Or.inr rfl)) pgs_nil)))))
    (pss_one (ps_if (pt_cmpR op_ne (pv 5) (pv 6) (nomark _)) (pss_one (ps_asg (pe_lc (own := [("_law_x", 8), ("_law_y", 9)]) (g := (gTup K 2 (gCons (gName 8) (gCons (gName 9) gNil)))) rfl nd (show PI _ _ _ (RZ.iZipA K _) from RZ.pi_zipA (by rfl) T.z_zip (pa_cons (pe_ix (show IxR _ (rIxL K) from ix_list) (pv 3) (pv 5) (fun _ _ => rfl)) (pa_cons (pe_ix (show IxR _ (rIxL K) from ix_list) (pv 3) (pv 6) (fun _ _ => rfl)) pa_nil))) (blkOk_by (own := [("_law_x", 8), ("_law_y", 9)]) (N := N_l_other_vectors) (sc := defScope s_l_other_vectors) (by decide +kernel)) (fun _ _ _ _ _ => by exact (pg_tup rfl (pgs_cons (pg_name (i := 8) nd rfl (Or.inl rfl)) (pgs_cons (pg_name (i := 9) nd rfl (Or.inl rfl)) pgs_nil)))) (fun _ _ _ _ _ => by exact pts_nil) (fun _ _ _ _ _ => by exact (pe_op op_add (pv 8) (pe_op op_mulW (pv 7) (pv 9))))) (pg_sub (pv 3) (pv 5) set_list))) (pss_one (ps_if (pt_cmpR op_gt (pv 7) pe_int (nomark _)) (pss_one (ps_asg (pe_lc (own := [("_law_x", 8)]) (g := (gName 8)) rfl nd (show PI _ _ _ (iList K _) from pi_list (pe_ix (show IxR _ (rIxL K) from ix_list) (pv 3) (pv 5) (fun _ _ => rfl))) (blkOk_by (own := [("_law_x", 8)]) (N := N_l_other_vectors) (sc := defScope s_l_other_vectors) (by decide +kernel)) (fun _ _ _ _ _ => by exact (pg_name (i := 8) nd rfl (Or.inl rfl))) (fun _ _ _ _ _ => by exact pts_nil) (fun _ _ _ _ _ => by exact (pe_un un_neg (pv 8)))) (pg_sub (pv 3) (pv 5) set_list))) (pss_one (ps_if (pt_cmpR op_lt (pe_callB (show CallR _ _ (rLenSq K) from call_len_seq) (by rfl) T.z_len (by decide +kernel) (pa_cons (pv 3) pa_nil)) pe_int (nomark _)) (pss_one (ps_expr (pe_bm PySem.F.plainAttrs_list PySem.F.slot_list_insert PySem.F.type_list_insert mt_insert (pv 3) (pa_cons (pe_call G_l_pull (hr.mono (by decide)) (by rfl) T.m_l_pull T.F_l_pull.kp T.b_l_pull .nil pass0 (pa_cons (pv 0) (pa_cons (pe_op op_add (pe_callB (show CallR _ _ (rLenSq K) from call_len_seq) (by rfl) T.z_len (by decide +kernel) (pa_cons (pv 3) pa_nil)) pe_int) pa_nil))) (pa_cons (pe_lc (own := [("_law_x", 8)]) (g := (gName 8)) rfl nd (show PI _ _ _ (iList K _) from pi_list (pe_ix (show IxR _ (rIxL K) from ix_list) (pv 3) (pv 5) (fun _ _ => rfl))) (blkOk_by (own := [("_law_x", 8)]) (N := N_l_other_vectors) (sc := defScope s_l_other_vectors) (by decide +kernel)) (fun _ _ _ _ _ => by exact (pg_name (i := 8) nd rfl (Or.inl rfl))) (fun _ _ _ _ _ => by exact pts_nil) (fun _ _ _ _ _ => by exact (pe_op op_mulW (pv 7) (pv 8)))) pa_nil))))) pss_nil)))))))))
    (pss_one (ps_ret (pv 3))))), ?_⟩
  have hst : L2.start N_l_other_vectors [.ref B.b, .int (wd : Int), .ref p] = [some (.ref B.b), some (.int (wd : Int)), some (.ref p), none, none, none, none, none, none, none] := rfl
  rw [hst]
  have hrl := hM.1
  refine ⟨_, rfl, _, rfl, B, p, rs, rfl, hp, hne, by omega, hB, fun F ys H1 hB1 kb1 hFn hF1 hperm => ?_⟩
  obtain ⟨N, hN1, hNp⟩ := (hM.kb hB kb1).perm hperm.symm
  have hRN : Rws wd N 100 := ⟨fun r hr => hR.wid r (hNp.mem_iff.mp hr), fun r hr => hR.eb r (hNp.mem_iff.mp hr)⟩
  have hNl : N.length ≤ 5 := by rw [hNp.length_eq]; exact hl
  have nF := hB.nb hFn
  have nFL := hB.nL hFn
  dsimp only [List.set_cons_succ, List.set_cons_zero, gName]
  refine ⟨4, rfl, by decide, by decide, for_range (lo := 0) (n := (4 : Int).toNat) (fun i σ H' => ∃ xs L, (∃ b4 b5 b6 b7 b8 b9, σ = [some (.ref B.b), some (.int (wd : Int)), some (.ref p), some (.ref F), b4, b5, b6, b7, b8, b9]) ∧ Bag B H' ∧ Kb B.b H H' ∧ H' F = some (.lst xs) ∧ LstM H' xs L ∧ Rws wd L (100 + 4 * i) ∧ L.length ≤ 6 ∧ SpE L M) ⟨ys, N, ⟨_, _, _, _, _, _, rfl⟩, hB1, kb1, hF1, hN1, hRN, by omega, SpE.perm hNp⟩ ?_ ?_⟩
  · rintro i σ H3 hi ⟨xs, L, ⟨b4, b5, b6, b7, b8, b9, rfl⟩, hB3, kb3, hF3, hL3, hR3, hl3, hS3⟩
    have hposL : ∀ (L : List (List Int)) (b : Nat), Rws wd L b → ∀ r ∈ L, 0 < r.length := fun L b h r hr => by rw [h.wid r hr]; exact hwd
    have hsz : ∀ (xs : List V) (L : List (List Int)) (H' : Hp), LstM H' xs L → L.length ≤ 6 → xs.length < sizeLine := fun xs L H' h h6 => Nat.lt_of_le_of_lt (by have := h.1; omega : xs.length ≤ 1000) (by decide)
    have hupF : ∀ (H' : Hp) (o : HO), Kb B.b H H' → Kb B.b H (upd H' F o) := fun H' o k c u h n => by
      rw [upd_ne (ne_of_none h hFn)]
      exact k c u h n
    dsimp only [List.set_cons_succ, List.set_cons_zero, gName]
    refine ⟨fun σ' H' => ∃ xs L, σ' = [some (.ref B.b), some (.int (wd : Int)), some (.ref p), some (.ref F), some (.int (0 + (i : Int))), b5, b6, b7, b8, b9] ∧ Bag B H' ∧ Kb B.b H H' ∧ H' F = some (.lst xs) ∧ LstM H' xs L ∧ Rws wd L (100 + 4 * i) ∧ 0 < L.length ∧ L.length ≤ 6 ∧ SpE L M, ?_, ?_⟩
    · refine ⟨_, rfl, by show 0 ≤ sizeLine; decide, fun E1 hE1 => ?_⟩
      have s6 := Same.new (o := .lst []) hE1
      refine ⟨dL L, dL [], dp_rows (SqL.of (s6 _ _ hF3)) (hL3.same s6).matQ, dp_rows (SqL.of upd_same) ⟨rfl, fun i r h => by cases h⟩, dL_shaped _, dL_shaped _, _, rfl, ?_⟩
      rw [dL_eqv]
      have hB6 := hB3.same s6
      have kb6 := kb3.trans (Kb.same s6)
      have hF6 := s6 _ _ hF3
      have hL6 := hL3.same s6
      generalize upd H3 E1 (.lst []) = H6 at *
      cases L with
      | cons r L =>
        refine iteF' (decide_eq_false (by simp)) ?_
        exact ⟨xs, r :: L, rfl, hB6, kb6, hF6, hL6, hR3, by simp, hl3, hS3⟩
      | nil =>
        refine iteT' (decide_eq_true rfl) ?_
        have hx0 : xs = [] := List.eq_nil_of_length_eq_zero hL3.1
        subst hx0
        refine ⟨_, rfl, .inl ⟨rfl, _, SqL.of hF6⟩, by show 1 ≤ sizeLine; decide, fun L1 hL1 => ?_⟩
        have s7 := Same.new (o := .lst [V.int 0]) hL1
        refine ⟨_, rfl, L1, _, [V.int 0], rfl, rfl, upd_same, by omega, by omega, ?_, fun R hR => ?_⟩
        · show 1 * ((wd : Nat) : Int).toNat ≤ sizeLine
          rw [Int.toNat_natCast]
          exact Nat.le_of_lt (Nat.lt_of_le_of_lt (by omega : 1 * wd ≤ 1000) (by decide))
        rw [Int.toNat_natCast, flat_rep] at *
        have s8 := Same.new (o := .lst ((List.replicate wd (0 : Int)).map V.int)) hR
        have s78 := s7.trans s8
        refine ⟨F, [], .ref R, rfl, rfl, s78 _ _ hF6, by decide, ?_⟩
        have hRF : R ≠ F := (ne_of_none (s7 _ _ hF6) hR).symm
        refine ⟨[.ref R], [List.replicate wd 0], rfl, (hB6.same s78).upd nF nFL, hupF _ _ (kb6.trans (Kb.same s78)), upd_same, LstM.nil.put (by rw [upd_ne hRF]; exact upd_same), ⟨fun r hr => by rw [List.mem_singleton.mp hr, List.length_replicate], fun r hr x hx => ?_⟩, by simp, by simp, SpE.zero.trans hS3⟩
        rw [List.mem_singleton.mp hr] at hx
        rw [(List.mem_replicate.mp hx).2]
        exact Nat.zero_le _
    · clear hB3 kb3 hF3 hL3 hR3 hl3 hS3
      rintro σ' H5 ⟨xs, L, rfl, hB5, kb5, hF5, hL5, hR5, hp5, hl5, hS5⟩
      have hxl := hL5.1
      refine ⟨_, rfl, _, rfl, F, xs, rfl, .inl (SqL.of hF5), B, _, rfl, by omega, Nat.lt_of_le_of_lt (by omega : ((xs.length : Int)).natAbs ≤ 1000) (by decide), hB5, fun a H6 a0 a1 hB6 kb6 => ?_⟩
      have hF6 := kb6 _ _ hF5 nF
      refine ⟨_, rfl, _, rfl, F, xs, rfl, .inl (SqL.of hF6), B, _, rfl, by omega, Nat.lt_of_le_of_lt (by omega : ((xs.length : Int)).natAbs ≤ 1000) (by decide), hB6, fun c H7 c0 c1 hB7 kb7 => ?_⟩
      have hF7 := kb7 _ _ hF6 nF
      refine ⟨_, rfl, B, 9, rfl, by decide, by decide, hB7, fun d H8 d0 d1 hB8 kb8 => ⟨_, _, rfl, rfl, by show 3 ≤ sizeLine; decide, fun T1 hT1 => ?_⟩⟩
      have s9 := Same.new (o := .tup [V.int a, V.int c, V.int (d - 4)]) hT1
      have hB9 := hB8.same s9
      have kb59 := (kb6.trans kb7).trans (kb8.trans (Kb.same s9))
      have kb9 := kb5.trans kb59
      have hF9 := kb59 _ _ hF5 nF
      have hL9 := hL5.kb hB5 kb59
      refine ⟨T1, _, rfl, SqT.of upd_same, rfl, _, _, rfl, _, _, rfl, _, _, rfl, rfl, ?_⟩
      generalize upd H8 T1 (.tup [V.int a, V.int c, V.int (d - 4)]) = H9 at *
      generalize hm : d - 4 = m at *
      have hm4 : m.natAbs ≤ 4 := by omega
      dsimp only [List.set_cons_succ, List.set_cons_zero, gName]
      have ha : a.toNat < L.length := by omega
      have hc : c.toNat < L.length := by omega
      obtain ⟨ra, row, hra, hrow, hrT⟩ := hL9.2 a.toNat xs[a.toNat] (List.getElem?_eq_getElem (by omega))
      obtain ⟨rc, rowc, hrc, hrowc, hrcT⟩ := hL9.2 c.toNat xs[c.toNat] (List.getElem?_eq_getElem (by omega))
      have hxa : xs[a.toNat]? = some (V.ref ra) := by rw [List.getElem?_eq_getElem (by omega), hra]
      have hxc : xs[c.toNat]? = some (V.ref rc) := by rw [List.getElem?_eq_getElem (by omega), hrc]
      have hrow' : L[a.toNat] = row := by
        rw [List.getElem?_eq_getElem ha] at hrow
        exact Option.some.inj hrow
      have hrowc' : L[c.toNat] = rowc := by
        rw [List.getElem?_eq_getElem hc] at hrowc
        exact Option.some.inj hrowc
      have hrw := hR5.wid row (List.mem_of_getElem? hrow)
      have hrcw := hR5.wid rowc (List.mem_of_getElem? hrowc)
      have hre := hR5.eb row (List.mem_of_getElem? hrow)
      have hrce := hR5.eb rowc (List.mem_of_getElem? hrowc)
      have hi4 : i < 4 := hi
      have pmul : (2 : Nat) ^ (100 + 4 * (i + 1)) = 2 ^ (100 + 4 * i) * 16 := by
        rw [show 100 + 4 * (i + 1) = 100 + 4 * i + 4 by omega, Nat.pow_add]
      have pup : ∀ r, EB (2 ^ (100 + 4 * i)) r → EB (2 ^ (100 + 4 * (i + 1))) r := fun r h => eb_up h (by omega)
      have hmul : m.natAbs * 2 ^ (100 + 4 * i) ≤ 4 * 2 ^ (100 + 4 * i) := Nat.mul_le_mul_right _ hm4
      -- a row put in the place of another
      have putIn : ∀ (H' : Hp) (t : Addr) (n : List Int), Bag B H' → Kb B.b H9 H' → H9 t = none → H' t = some (.lst (n.map V.int)) → n.length = wd → EB (2 ^ (100 + 4 * (i + 1))) n → SpE (L.set a.toNat n) L →
          Bag B (upd H' F (.lst (xs.set a.toNat (V.ref t)))) ∧ Kb B.b H (upd H' F (.lst (xs.set a.toNat (V.ref t)))) ∧ (upd H' F (.lst (xs.set a.toNat (V.ref t)))) F = some (.lst (xs.set a.toNat (V.ref t))) ∧ LstM (upd H' F (.lst (xs.set a.toNat (V.ref t)))) (xs.set a.toNat (V.ref t)) (L.set a.toNat n) ∧ Rws wd (L.set a.toNat n) (100 + 4 * (i + 1)) ∧ (L.set a.toNat n).length ≤ 6 ∧ SpE (L.set a.toNat n) M := fun H' t n b k t0 ht hl he hs => by
        have hF' := k _ _ hF9 nF
        have hL' := hL9.kb hB9 k
        refine ⟨b.upd nF nFL, hupF _ _ (kb9.trans k), upd_same, (hL'.upd (hposL L _ hR5) hF' hL').set ?_, ⟨fun r hr => ?_, fun r hr => ?_⟩, by rw [List.length_set]; exact hl5, hs.trans hS5⟩
        · rw [upd_ne (ne_of_none hF9 t0).symm]
          exact ht
        · rcases List.mem_or_eq_of_mem_set hr with z | rfl
          · exact hR5.wid r z
          · exact hl
        · rcases List.mem_or_eq_of_mem_set hr with z | rfl
          · exact pup r (hR5.eb r z)
          · exact he
      have hixN : ixN xs.length a = some a.toNat := by
        unfold ixN
        rw [if_pos a0, if_pos (by omega)]
      refine ⟨_, rfl, _, rfl, rfl, _, rfl, ?_⟩
      refine ite2 (fun cne => ?_) (fun ceq => ?_)
      · have hac : a.toNat ≠ c.toNat := fun z => by
          have e : a = c := by omega
          subst e
          have e2 : decide (V.int a = V.int a) = true := decide_eq_true rfl
          rw [e2] at cne
          cases cne
        refine ⟨_, rfl, _, rfl, F, _, _, _, rfl, rfl, SqL.of hF9, at_of (j := a.toNat) (by omega) hxa, _, rfl, _, rfl, F, _, _, _, rfl, rfl, SqL.of hF9, at_of (j := c.toNat) (by omega) hxc, ra, rc, _, _, rfl, .inl ⟨SqL.of hrT, SqL.of hrcT, fun D hD => ?_⟩⟩
        refine lc_zipLS (f := fun x y => x + m * y) (SqL.of hrT) (SqL.of hrcT) (by omega) (by omega) hD (fun u v => rfl) (fun u v Ha kk sa hu hv hkk => ?_) fun Hb sb hDb => ?_
        · exact ⟨_, rfl, _, rfl, _, rfl, _, _, rfl, rfl, wide_mul (a := 10) (b := 201) (by omega) (Nat.lt_of_lt_of_le (eb_lt hrce v hv) (Nat.pow_le_pow_right (by decide) (by omega))) (by decide) (by decide) (by decide), _, _, rfl, rfl, (by show kk (V.int (u + (d - 4) * v)) Ha; rw [hm]; exact hkk)⟩
        · refine ⟨_, rfl, _, rfl, F, xs, a, a.toNat, rfl, rfl, sb _ _ hF9, hixN, ?_⟩
          have hz := SpE.zip (m := m) hR5.wid ha hc hac
          rw [hrow', hrowc'] at hz
          have he := zip_eb (wd := wd) (n := m) hre hrce
          obtain ⟨p1, p2, p3, p4, p5, p6, p7⟩ := putIn Hb D _ (hB9.same sb) (Kb.same sb) hD hDb (by rw [List.length_zipWith]; omega) (he.le (by omega)) hz
          exact ⟨_, _, ⟨_, _, _, _, _, _, rfl⟩, p1, p2, p3, p4, p5, p6, p7⟩
      refine ⟨_, rfl, _, _, rfl, rfl, _, rfl, ?_⟩
      refine ite2 (fun _ => ?_) (fun _ => ?_)
      · refine ⟨_, rfl, _, rfl, F, _, _, _, rfl, rfl, SqL.of hF9, at_of (j := a.toNat) (by omega) hxa, ra, rfl, ⟨_, SqL.of hrT⟩, fun D hD => ?_⟩
        refine lc_mapL (f := fun a => -a) (SqL.of hrT) (by omega) hD (fun u => rfl) (fun u H6 kk hu hk => ⟨_, rfl, _, rfl, hk⟩) fun Hb sb hDb => ?_
        refine ⟨_, rfl, _, rfl, F, xs, a, a.toNat, rfl, rfl, sb _ _ hF9, hixN, ?_⟩
        have hz := SpE.neg ha
        rw [hrow'] at hz
        obtain ⟨p1, p2, p3, p4, p5, p6, p7⟩ := putIn Hb D _ (hB9.same sb) (Kb.same sb) hD hDb (by rw [List.length_map]; omega) (fun x hx => by
          obtain ⟨y, hy, rfl⟩ := List.mem_map.mp hx
          rw [Int.natAbs_neg]
          exact pup row hre y hy) hz
        exact ⟨_, _, ⟨_, _, _, _, _, _, rfl⟩, p1, p2, p3, p4, p5, p6, p7⟩
      refine ⟨_, rfl, F, _, rfl, .inl (SqL.of hF9), _, _, rfl, rfl, _, rfl, ?_⟩
      refine ite2 (fun c6 => ?_) (fun _ => ?_)
      · have h6 : L.length < 6 := by
          have := of_decide_eq_true c6
          omega
        refine ⟨_, rfl, .inl ⟨rfl, _, SqL.of hF9⟩, _, rfl, _, rfl, F, _, rfl, .inl (SqL.of hF9), _, _, rfl, rfl, B, _, rfl, by omega, Nat.lt_of_le_of_lt (by omega : ((xs.length : Int) + 1).natAbs ≤ 1000) (by decide), hB9, fun k H10 k0 k1 hB10 kb10 => ?_⟩
        have hF10 := kb10 _ _ hF9 nF
        have hrT10 := kb10 _ _ hrT (hB9.ne_row hrT)
        have hL10 := hL9.kb hB9 kb10
        refine ⟨_, rfl, _, rfl, F, _, _, _, rfl, rfl, SqL.of hF10, at_of (j := a.toNat) (by omega) hxa, ra, rfl, ⟨_, SqL.of hrT10⟩, fun D hD => ?_⟩
        refine lc_mapL (f := fun x => m * x) (SqL.of hrT10) (by omega) hD (fun u => rfl) (fun u Ha kk hu hk => ⟨_, rfl, _, rfl, _, _, rfl, rfl, wide_mul (a := 10) (b := 201) (by omega) (Nat.lt_of_lt_of_le (eb_lt hre u hu) (Nat.pow_le_pow_right (by decide) (by omega))) (by decide) (by decide) (by decide), (by show kk (V.int ((d - 4) * u)) Ha; rw [hm]; exact hk)⟩) fun Hb sb hDb => ?_
        have hFb := sb _ _ hF10
        have hLb := hL10.same sb
        refine ⟨F, xs, k, .ref D, rfl, rfl, hFb, hsz xs L _ hLb hl5, k0, by omega, ?_⟩
        have hDF : D ≠ F := (ne_of_none hF10 hD).symm
        have hz := SpE.ins (k := k.toNat) (m := m) ha
        rw [hrow'] at hz
        have hLu := hLb.upd (o := .lst (xs.take k.toNat ++ [V.ref D] ++ xs.drop k.toNat)) (hposL L _ hR5) hFb hLb
        refine ⟨_, L.take k.toNat ++ [row.map (m * ·)] ++ L.drop k.toNat, ⟨_, _, _, _, _, _, rfl⟩, (hB10.same sb).upd nF nFL, hupF _ _ (kb9.trans (kb10.trans (Kb.same sb))), upd_same, ((hLu.take _).app (LstM.nil.put (by rw [upd_ne hDF]; exact hDb))).app (hLu.drop _), ⟨fun r hr => ?_, fun r hr => ?_⟩, ?_, hz.trans hS5⟩
        · rcases List.mem_append.mp hr with z | z
          · rcases List.mem_append.mp z with z | z
            · exact hR5.wid r (List.mem_of_mem_take z)
            · rw [List.mem_singleton.mp z, List.length_map]
              exact hrw
          · exact hR5.wid r (List.mem_of_mem_drop z)
        · rcases List.mem_append.mp hr with z | z
          · rcases List.mem_append.mp z with z | z
            · exact pup r (hR5.eb r (List.mem_of_mem_take z))
            · rw [List.mem_singleton.mp z]
              intro x hx
              obtain ⟨y, hy, rfl⟩ := List.mem_map.mp hx
              have e1 := hre y hy
              rw [Int.natAbs_mul]
              have e2 : m.natAbs * y.natAbs ≤ 4 * 2 ^ (100 + 4 * i) := Nat.mul_le_mul hm4 e1
              omega
          · exact pup r (hR5.eb r (List.mem_of_mem_drop z))
        · rw [List.length_append, List.length_append, List.length_take, List.length_drop]
          simp only [List.length_cons, List.length_nil]
          omega
      · exact ⟨xs, L, ⟨_, _, _, _, _, _, rfl⟩, hB9, kb9, hF9, hL9, ⟨hR5.wid, fun r hr => pup r (hR5.eb r hr)⟩, hl5, hS5⟩
  · rintro σ H3 ⟨xs, L, ⟨b4, b5, b6, b7, b8, b9, rfl⟩, hB3, kb3, hF3, hL3, hR3, hl3, hS3⟩
    refine ⟨_, rfl, q F xs L H3 hB3 kb3 hFn hF3 hL3 ⟨hR3.wid, fun r hr => eb_up (hR3.eb r hr) (by decide)⟩ hl3 hS3⟩
end
end TL
namespace TL
open PySem L2

/-! ### steps of a reading -/
local macro_rules | `(tactic| walk_at "hp") => `(tactic| first | assumption | exact upd_same | (refine (upd_ne (by first | assumption | (exact Ne.symm (by assumption)))).trans ?_; walk_at "hp"))
local macro_rules | `(tactic| walk_at "ok") => `(tactic| first | (exact Or.inr ⟨by decide, by decide⟩) | (exact ⟨by decide, by decide⟩) | (exact ⟨by decide, by decide, by decide⟩) | (show _ ≠ _; omega) | (show _ ≠ _; decide) | (exact Or.inl ⟨by omega, by omega⟩) | decide)
local macro_rules | `(tactic| walk_at "sq") => `(tactic| first | assumption | exact SqL.of (by walk_at "hp") | exact SqT.of (by walk_at "hp"))
local macro_rules | `(tactic| walk_at "ty") => `(tactic| first | refine ⟨_, _, Value.type "int", Value.type "list", false, rfl, ClsV.ty _, TyX.base (TyOf.int _), kt_int_list, ?_⟩ | refine ⟨_, _, Value.type "bool", Value.type "list", false, rfl, ClsV.ty _, TyX.base (TyOf.bl _), kt_bool_list, ?_⟩ | refine ⟨_, _, Value.type "str", Value.type "list", false, rfl, ClsV.ty _, TyX.base (TyOf.str _), kt_str_list, ?_⟩ | refine ⟨_, _, Value.type "NoneType", Value.type "list", false, rfl, ClsV.ty _, TyX.base TyOf.non, kt_NoneType_list, ?_⟩ | refine ⟨_, _, Value.type "list", Value.type "list", true, rfl, ClsV.ty _, tyx_L (by walk_at "sq"), kt_list_list, ?_⟩ | refine ⟨_, _, Value.type "tuple", Value.type "list", false, rfl, ClsV.ty _, tyx_T (by walk_at "sq"), kt_tuple_list, ?_⟩ | refine ⟨_, _, Value.type "int", Value.type "tuple", false, rfl, ClsV.ty _, TyX.base (TyOf.int _), kt_int_tuple, ?_⟩ | refine ⟨_, _, Value.type "bool", Value.type "tuple", false, rfl, ClsV.ty _, TyX.base (TyOf.bl _), kt_bool_tuple, ?_⟩ | refine ⟨_, _, Value.type "str", Value.type "tuple", false, rfl, ClsV.ty _, TyX.base (TyOf.str _), kt_str_tuple, ?_⟩ | refine ⟨_, _, Value.type "NoneType", Value.type "tuple", false, rfl, ClsV.ty _, TyX.base TyOf.non, kt_NoneType_tuple, ?_⟩ | refine ⟨_, _, Value.type "list", Value.type "tuple", false, rfl, ClsV.ty _, tyx_L (by walk_at "sq"), kt_list_tuple, ?_⟩ | refine ⟨_, _, Value.type "tuple", Value.type "tuple", true, rfl, ClsV.ty _, tyx_T (by walk_at "sq"), kt_tuple_tuple, ?_⟩ | refine ⟨_, _, Value.type "int", Value.type "bool", false, rfl, ClsV.ty _, TyX.base (TyOf.int _), kt_int_bool, ?_⟩ | refine ⟨_, _, Value.type "bool", Value.type "bool", true, rfl, ClsV.ty _, TyX.base (TyOf.bl _), kt_bool_bool, ?_⟩ | refine ⟨_, _, Value.type "str", Value.type "bool", false, rfl, ClsV.ty _, TyX.base (TyOf.str _), kt_str_bool, ?_⟩ | refine ⟨_, _, Value.type "NoneType", Value.type "bool", false, rfl, ClsV.ty _, TyX.base TyOf.non, kt_NoneType_bool, ?_⟩ | refine ⟨_, _, Value.type "list", Value.type "bool", false, rfl, ClsV.ty _, tyx_L (by walk_at "sq"), kt_list_bool, ?_⟩ | refine ⟨_, _, Value.type "tuple", Value.type "bool", false, rfl, ClsV.ty _, tyx_T (by walk_at "sq"), kt_tuple_bool, ?_⟩ | refine ⟨_, _, Value.type "int", Value.type "int", true, rfl, ClsV.ty _, TyX.base (TyOf.int _), kt_int_int, ?_⟩ | refine ⟨_, _, Value.type "bool", Value.type "int", true, rfl, ClsV.ty _, TyX.base (TyOf.bl _), kt_bool_int, ?_⟩ | refine ⟨_, _, Value.type "str", Value.type "int", false, rfl, ClsV.ty _, TyX.base (TyOf.str _), kt_str_int, ?_⟩ | refine ⟨_, _, Value.type "NoneType", Value.type "int", false, rfl, ClsV.ty _, TyX.base TyOf.non, kt_NoneType_int, ?_⟩ | refine ⟨_, _, Value.type "list", Value.type "int", false, rfl, ClsV.ty _, tyx_L (by walk_at "sq"), kt_list_int, ?_⟩ | refine ⟨_, _, Value.type "tuple", Value.type "int", false, rfl, ClsV.ty _, tyx_T (by walk_at "sq"), kt_tuple_int, ?_⟩ | refine ⟨_, _, Value.type "int", Value.type "str", false, rfl, ClsV.ty _, TyX.base (TyOf.int _), kt_int_str, ?_⟩ | refine ⟨_, _, Value.type "bool", Value.type "str", false, rfl, ClsV.ty _, TyX.base (TyOf.bl _), kt_bool_str, ?_⟩ | refine ⟨_, _, Value.type "str", Value.type "str", true, rfl, ClsV.ty _, TyX.base (TyOf.str _), kt_str_str, ?_⟩ | refine ⟨_, _, Value.type "NoneType", Value.type "str", false, rfl, ClsV.ty _, TyX.base TyOf.non, kt_NoneType_str, ?_⟩ | refine ⟨_, _, Value.type "list", Value.type "str", false, rfl, ClsV.ty _, tyx_L (by walk_at "sq"), kt_list_str, ?_⟩ | refine ⟨_, _, Value.type "tuple", Value.type "str", false, rfl, ClsV.ty _, tyx_T (by walk_at "sq"), kt_tuple_str, ?_⟩)
local macro_rules | `(tactic| walk_at "go1") => `(tactic| first
  | (refine ⟨_, rfl, ?_⟩)
  | (refine ⟨_, _, rfl, rfl, ?_⟩)
  | (refine ⟨_, _, _, _, rfl, rfl, SqL.of (by walk_at "hp"), rfl, ?_⟩)
  | (refine Or.inl ⟨_, rfl, ?_⟩)
  | (refine ⟨rfl, ?_⟩)
  | (refine ⟨_, _, rfl, .inl (SqL.of (by walk_at "hp")), ?_⟩)
  | (refine ⟨_, _, rfl, Or.inl (by assumption), ?_⟩)
  | (refine ⟨_, _, rfl, Or.inr (by assumption), ?_⟩)
  | (refine ⟨(by walk_at "ok"), ?_⟩)
  | (refine ⟨_, _, _, _, rfl, rfl, (by walk_at "hp"), rfl, ?_⟩))
local macro_rules | `(tactic| walk_at "go") => `(tactic| repeat (walk_at "go1"))
local macro_rules | `(tactic| walk_at "gt") => `(tactic| repeat (first | walk_at "go1" | walk_at "ty"))

section
variable {P : Program} {w : World} {K : PySem.W.Frag} {mg : Str → Option Value} {base : Heap}
-- [0=_law_bag*, 1=_law_lattice_here, 2=_law_width, 3=_law_rows, 4=_law_stairs_here, 5=_law_turn, 6=_law_line, 7=_law_at, 8=_law_row]
theorem sqL_row {B : Bg} {H H' : Hp} {t : Addr} {row : List Int} (hB : Bag B H) (k : Kb B.b H H') (h : SqL K H t (row.map V.int)) : SqL K H' t (row.map V.int) := by
  rcases h with (h | ⟨o, h⟩) | h
  · exact .inl (.inl (k _ _ h (hB.ne_row h)))
  · obtain ⟨i, r, z, c, h1, h2⟩ := hB.ex
    exact .inl (.inr ⟨o, k _ _ h (ne_of h h1 (by intro z; cases z))⟩)
  · exact .inr h
theorem MatQ.kb {B : Bg} {H H' : Hp} {rs : List V} {M : List (List Int)} (h : MatQ K H rs M) (hB : Bag B H) (k : Kb B.b H H') : MatQ K H' rs M := ⟨h.1, fun i r hr => by
  obtain ⟨t, row, a1, a2, a3⟩ := h.2 i r hr
  exact ⟨t, row, a1, a2, sqL_row hB k a3⟩⟩
theorem sum_fold_spn {M : List (List Int)} {wd : Nat} (hw : ∀ r ∈ M, r.length = wd) : ∀ (zs : List (List Int × Int)) (acc : List Int), acc.length = wd → (∀ z ∈ zs, z.1 ∈ M) → Spn (M.map vecL) (vecL acc) → Spn (M.map vecL) (vecL (zs.foldl (fun acc p => List.zipWith (fun x y => x + p.2 * y) acc p.1) acc))
  | [], acc, _, _, h => h
  | z :: zs, acc, hl, hz, h => by
    rw [List.foldl_cons]
    have hz1 := hz z List.mem_cons_self
    refine sum_fold_spn hw zs _ ?_ (fun y hy => hz y (List.mem_cons_of_mem _ hy)) ?_
    · rw [List.length_zipWith, hl, hw _ hz1]
      omega
    · rw [zip_vec (by rw [hl, hw _ hz1])]
      exact h.add ((spn_row hz1).mul z.2)
theorem sum_spn {M : List (List Int)} {wd : Nat} {ns : List Int} (hw : ∀ r ∈ M, r.length = wd) : Spn (M.map vecL) (vecL (sumV wd M ns)) := by
  refine sum_fold_spn hw _ _ List.length_replicate (fun z hz => (List.of_mem_zip (a := z.1) (b := z.2) hz).1) ((Spn.zero _).congr fun j => ?_)
  unfold vecL
  rw [List.getD_eq_getElem?_getD, List.getElem?_replicate]
  split <;> rfl
def spNear (K : PySem.W.Frag) (C : Addr) : Sp := fun vs H Q _ => ∃ (B : Bg) (D : Addr → Prop) (x p p2 : Addr) (wd : Nat) (rs qs : List V) (M S : List (List Int)), vs = [.ref B.b, .ref x, .int (wd : Int), .ref p, .ref p2] ∧ Bag B H ∧ LatF K C D H x wd S ∧ D B.b ∧ SmS wd S ∧ Stc 0 (S.map vecL) ∧ 0 < wd ∧ wd ≤ 24 ∧ H p = some (.lst rs) ∧ p ≠ B.b ∧ LstM H rs M ∧ Rws wd M 100 ∧ M.length ≤ 6 ∧ H p2 = some (.lst qs) ∧ p2 ≠ B.b ∧ MatQ K H qs S ∧ SpE S M ∧ ∀ H', Bag B H' → Kb B.b H H' → Q (.bl true) H'
theorem ok_near (T : Tx K mg) (hP : P.given.tree = none) : FnOk P w K mg base CX0 35 T.f_l_near_right T.d_l_near_right ["_law_bag", "_law_lattice_here", "_law_width", "_law_rows", "_law_stairs_here"] (spNear K T.C_Lattice) := by
  have G_l_pull := ok_pull (P := P) (w := w) (base := base) T
  have G_l_pick := ok_pickT (P := P) (w := w) (base := base) T
  have G_l_summed := ok_summed (P := P) (w := w) (base := base) T
  have G_l_within := ok_within (P := P) (w := w) (base := base) T hP
  have G_Lattice_contains := ok_in (P := P) (w := w) (base := base) T hP
  refine T.F_l_near_right.ok sc_l_near_right (fun vs H Q E h => ?_) (fun cdv A outer s H vs Q E hr h => ?_)
  · obtain ⟨B, _, x, p, p2, _, _, _, _, _, rfl, _⟩ := h
    rfl
  obtain ⟨B, D, x, p, p2, wd, rs, qs, M, S, rfl, hB, hx, hD, hs, hst0, hwd, hw1, hp, hpn, hM, hR, hl, hp2, hpn2, hQ, hE, q⟩ := h
  have nd := sc_l_near_right.nd
  refine ⟨_, (pss_cons (ps_for PassesOwn.never rfl (pi_range1 (by rfl) T.z_range (pa_cons pe_int pa_nil)) (pg_name (i := 5) nd rfl (Or.inl rfl)) (pss_cons (ps_set (i := 6) nd rfl (Or.inl rfl) (pe_call G_l_summed (hr.mono (by decide)) (by rfl) T.m_l_summed T.F_l_summed.kp T.b_l_summed .nil pass0 (pa_cons (pv 2) (pa_cons (pv 3) (pa_cons (pe_lc (own := [("_law_row", 8)]) (g := (gName 8)) rfl nd (show PI _ _ _ (iList K _) from pi_list (pv 3)) (blkOk_by (own := [("_law_row", 8)]) (N := N_l_near_right) (sc := defScope s_l_near_right) (by decide +kernel)) (fun _ _ _ _ _ => by exact (pg_name (i := 8) nd rfl (Or.inl rfl))) (fun _ _ _ _ _ => by exact pts_nil) (fun _ _ _ _ _ => by exact (pe_op op_sub (pe_call G_l_pull (hr.mono (by decide)) (by rfl) T.m_l_pull T.F_l_pull.kp T.b_l_pull .nil pass0 (pa_cons (pv 0) (pa_cons pe_int pa_nil))) pe_int))) pa_nil)))))
    (pss_cons (ps_if (pt_not (pt_cmpR (op_inOw T.a_Lattice_contains.at_ T.a_Lattice_contains.fn G_Lattice_contains (hr.mono (by decide)) T.b_Lattice_contains pass0) (pe_callTy (show CallR _ _ (rTup1 K) from call_tup1) (by rfl) T.z_tuple (by decide +kernel) (pa_cons (pv 6) pa_nil)) (pv 1) (by rfl))) (pss_one (ps_ret pe_bl)) pss_nil)
    (pss_cons (ps_set (i := 7) nd rfl (Or.inl rfl) (pe_call G_l_pull (hr.mono (by decide)) (by rfl) T.m_l_pull T.F_l_pull.kp T.b_l_pull .nil pass0 (pa_cons (pv 0) (pa_cons (pv 2) pa_nil))))
    (pss_cons (ps_asg (pe_op op_add (pe_ix (show IxR _ (rIxL K) from ix_list) (pv 6) (pv 7) (fun _ _ => rfl)) (pe_call G_l_pick (hr.mono (by decide)) (by rfl) T.m_l_pick T.F_l_pick.kp T.b_l_pick .nil pass0 (pa_cons (pv 0) (pa_cons (pe_tup (pa_cons pe_int (pa_cons (pe_un un_neg pe_int) (pa_cons pe_int (pa_cons pe_int (pa_cons (pe_un un_neg pe_int) pa_nil)))))) pa_nil)))) (pg_sub (pv 6) (pv 7) set_list))
    (pss_one (ps_if (PW.pt (pw_or (pt_cmpR op_ne (pe_cmpR (op_inOw T.a_Lattice_contains.at_ T.a_Lattice_contains.fn G_Lattice_contains (hr.mono (by decide)) T.b_Lattice_contains pass0) (pv 6) (pv 1) (by rfl)) (pe_call G_l_within (hr.mono (by decide)) (by rfl) T.m_l_within T.F_l_within.kp T.b_l_within .nil pass0 (pa_cons (pv 4) (pa_cons (pv 6) pa_nil))) (nomark _)) (pw_or1 (pt_cmpR op_ne (pe_cmpR (op_inOw T.a_Lattice_contains.at_ T.a_Lattice_contains.fn G_Lattice_contains (hr.mono (by decide)) T.b_Lattice_contains pass0) (pe_callTy (show CallR _ _ (rTup1 K) from call_tup1) (by rfl) T.z_tuple (by decide +kernel) (pa_cons (pv 6) pa_nil)) (pv 1) (by rfl)) (pe_cmpR (op_inOw T.a_Lattice_contains.at_ T.a_Lattice_contains.fn G_Lattice_contains (hr.mono (by decide)) T.b_Lattice_contains pass0) (pv 6) (pv 1) (by rfl)) (nomark _))))) (pss_one (ps_ret pe_bl)) pss_nil)))))))
    (pss_one (ps_ret pe_bl))), ?_⟩
  have hst : L2.start N_l_near_right [.ref B.b, .ref x, .int (wd : Int), .ref p, .ref p2] = [some (.ref B.b), some (.ref x), some (.int (wd : Int)), some (.ref p), some (.ref p2), none, none, none, none] := rfl
  rw [hst]
  have hrl := hM.1
  obtain ⟨dx, va, sa, ps, g1, g2, g3⟩ := hx.open
  have hxb : x ≠ B.b := by
    obtain ⟨i, r, z, c, h1, h2⟩ := hB.ex
    exact ne_of g1 h1 (by intro z; cases z)
  refine ⟨3, rfl, by decide, by decide, for_range (lo := 0) (n := (3 : Int).toNat) (fun i σ H' => (∃ b5 b6 b7 b8, σ = [some (.ref B.b), some (.ref x), some (.int (wd : Int)), some (.ref p), some (.ref p2), b5, b6, b7, b8]) ∧ Bag B H' ∧ Kb B.b H H') ⟨⟨_, _, _, _, rfl⟩, hB, Kb.refl _ _⟩ ?_ ?_⟩
  · rintro i σ H3 hi ⟨⟨b5, b6, b7, b8, rfl⟩, hB3, kb3⟩
    dsimp only [List.set_cons_succ, List.set_cons_zero, gName]
    have hp3 := kb3 _ _ hp hpn
    have hM3 := hM.kb hB kb3
    refine ⟨_, rfl, _, rfl, _, rfl, p, rfl, ⟨_, SqL.of hp3⟩, fun V0 hV0 => ?_⟩
    refine lcb (B := B) (walk_list (K := K) (a := p) (xs := rs)) (fun v => ∃ z, v = V.int z ∧ z.natAbs ≤ 5) (by omega) hB3 hV0 (fun H' k => SqL.of (k _ _ hp3 hpn)) ?_ fun ys H4 hyl hys kb4 hB4 hV4 => ?_
    · rintro j y Ha Hb hj kba hBa ⟨rfl, hy⟩ k hk
      exact ⟨rfl, _, rfl, B, 11, rfl, by decide, by decide, hBa, fun d H7 d0 d1 hB7 kb7 => ⟨_, _, rfl, rfl, hk _ H7 ⟨_, rfl, by omega⟩ kb7 hB7⟩⟩
    obtain ⟨ns, rfl, hns⟩ := ints_of hys
    rw [List.length_map] at hyl
    have kb04 := kb3.trans kb4
    have hM4 := hM.kb hB kb04
    have hp4 := kb04 _ _ hp hpn
    obtain ⟨se1, se2⟩ := sum_eb (wd := wd) hR.eb hns hR.wid
    have hle : M.length * (5 * 2 ^ 100) ≤ 6 * (5 * 2 ^ 100) := Nat.mul_le_mul_right _ hl
    have hsm : EB (2 ^ 110) (sumV wd M ns) := se1.le (Nat.le_trans hle (by decide))
    refine ⟨wd, p, V0, M, rs, ns, rfl, SqL.of hp4, hM4.matQ, SqL.of hV4, by omega, by omega, by omega, hR.wid, fun r hr => eb_up (hR.eb r hr) (by decide), fun z hz => by have := hns z hz; omega, fun t H5 s5 ht0 ht5 => ?_⟩
    have hB5 := hB4.same s5
    have kb05 := kb04.trans (Kb.same s5)
    have hx5 := hx.kb kb05 hD hxb
    have g15 := kb05 _ _ g1 hxb
    dsimp only [List.set_cons_succ, List.set_cons_zero, gName]
    have hin : (remV S (sumV wd M ns)).all (· == 0) = true := all_zero.mpr (((remV_ok S (sumV wd M ns) 0 hs.wid se2 hst0).2).mpr ((hE _).mpr (sum_spn hR.wid)))
    refine ⟨_, rfl, t, _, rfl, .inl (SqL.of ht5), fun u H6 s6 hu => ?_⟩
    have hx6 := hx5.same s6
    refine ⟨_, rfl, x, dx, _, rfl, s6 _ _ g15, D, x, u, wd, S, sumV wd M ns, rfl, hx6, hs, .inr hu, se2, hw1, eb_up hsm (by decide), fun H7 s7 => ⟨_, rfl, ?_⟩⟩
    rw [hin]
    refine ⟨_, rfl, ?_⟩
    refine iteF' rfl ?_
    have s57 := s6.trans s7
    have hB7 := hB5.same s57
    have kb07 := kb05.trans (Kb.same s57)
    have ht7 := s57 _ _ ht5
    have htn : H t = none := kb_free kb04 ht0 (hB4.nb ht0)
    have ntb : t ≠ B.b := hB.nb htn
    have ntL : t ≠ B.L := hB.nL htn
    refine ⟨_, rfl, _, rfl, B, (wd : Int), rfl, by omega, Nat.lt_of_le_of_lt (by omega : ((wd : Int)).natAbs ≤ 1000) (by decide), hB7, fun a H8 a0 a1 hB8 kb8 => ?_⟩
    have ht8 := kb8 _ _ ht7 ntb
    dsimp only [List.set_cons_succ, List.set_cons_zero, gName]
    have ha : a.toNat < (sumV wd M ns).length := by omega
    refine ⟨_, rfl, _, rfl, t, _, _, _, rfl, rfl, SqL.of ht8, at_of (j := a.toNat) (by omega) (getD_map ha), _, rfl, 1, rfl, 12, rfl, by show 5 ≤ sizeLine; decide, fun T1 hT1 => ?_⟩
    have s9 := Same.new (o := .tup [V.int 1, V.int (-1), V.int 2, V.int 6, V.int (-12)]) hT1
    have hB9 := hB8.same s9
    refine ⟨B, T1, _, rfl, upd_same, by decide, by decide, hB9, fun k v H10 hv hB10 kb10 => ?_⟩
    obtain ⟨e, rfl, he⟩ : ∃ e, v = V.int e ∧ e.natAbs ≤ 12 := by
      match k, hv with
      | 0, hv => exact ⟨_, (Option.some.inj hv).symm, by decide⟩
      | 1, hv => exact ⟨_, (Option.some.inj hv).symm, by decide⟩
      | 2, hv => exact ⟨_, (Option.some.inj hv).symm, by decide⟩
      | 3, hv => exact ⟨_, (Option.some.inj hv).symm, by decide⟩
      | 4, hv => exact ⟨_, (Option.some.inj hv).symm, by decide⟩
      | k + 5, hv => cases hv
    have kb710 := kb8.trans ((Kb.same s9).trans kb10)
    have ht10 := kb710 _ _ ht7 ntb
    have ixn : ixN ((sumV wd M ns).map V.int).length a = some a.toNat := by
      unfold ixN
      rw [List.length_map, if_pos a0, if_pos (by omega)]
    refine ⟨_, _, rfl, rfl, _, rfl, _, rfl, t, _, a, a.toNat, rfl, rfl, ht10, ixn, ?_⟩
    rw [← List.map_set]
    have kb010 := kb07.trans kb710
    generalize hv2 : (sumV wd M ns).set a.toNat ((sumV wd M ns).getD a.toNat 0 + e) = v2 at *
    have hl2 : v2.length = wd := by rw [← hv2, List.length_set]; exact se2
    have he2 : EB (2 ^ 128) v2 := fun y hy => by
      rw [← hv2] at hy
      have e110 : (2 : Nat) ^ 110 + 12 ≤ 2 ^ 128 := by decide
      rcases List.mem_or_eq_of_mem_set hy with z | rfl
      · have := hsm y z
        omega
      · have := hsm.at a.toNat
        have e : vecL (sumV wd M ns) a.toNat = (sumV wd M ns).getD a.toNat 0 := rfl
        rw [e] at this
        omega
    have hBu : Bag B (upd H10 t (.lst (v2.map V.int))) := hB10.upd ntb ntL
    have kbu : Kb B.b H (upd H10 t (.lst (v2.map V.int))) := fun c u h n => by
      rw [upd_ne (ne_of_none h htn)]
      exact kb010 _ _ h n
    have htu : (upd H10 t (.lst (v2.map V.int))) t = some (.lst (v2.map V.int)) := upd_same
    generalize upd H10 t (.lst (v2.map V.int)) = H11 at *
    obtain ⟨bs, b1, b2⟩ := hs.size
    have hsz : 128 + (S.length + 1) * (bs + 2) ≤ 100000000 := by
      have : (S.length + 1) * (bs + 2) ≤ 7 * (bs + 2) := Nat.mul_le_mul_right _ (by have := hs.len; omega)
      omega
    have fact : ∀ H', Same H11 H' → LatF K T.C_Lattice D H' x wd S ∧ H' x = some (.ins T.C_Lattice dx [("width", .int (wd : Int)), ("_vectors", .ref va), ("_stairs", .ref sa)]) ∧ H' t = some (.lst (v2.map V.int)) ∧ H' p2 = some (.lst qs) ∧ MatQ K H' qs S := fun H' s' => by
      have kb' := kbu.trans (Kb.same s')
      exact ⟨hx.kb kb' hD hxb, kb' _ _ g1 hxb, s' _ _ htu, kb' _ _ hp2 hpn2, hQ.kb hB kb'⟩
    obtain ⟨f1, f2, f3, f4, f5⟩ := fact _ (Same.refl _)
    refine ⟨_, rfl, _, rfl, x, dx, _, rfl, f2, D, x, t, wd, S, v2, rfl, f1, hs, .inl (SqL.of f3), hl2, hw1, he2, fun H12 s12 => ⟨_, rfl, ?_⟩⟩
    obtain ⟨f1, f2, f3, f4, f5⟩ := fact _ s12
    refine ⟨_, rfl, _, rfl, p2, t, qs, S, v2, 128, bs, rfl, SqL.of f4, f5, SqL.of f3, by omega, fun r hr => (hs.wid r hr).trans hl2.symm, hs.lead, b1, he2, hsz, by have := hs.len; omega, fun H13 s13 => ?_⟩
    refine ⟨rfl, _, rfl, iteF' (by rw [decide_eq_true rfl]; rfl) ?_⟩
    obtain ⟨f1, f2, f3, f4, f5⟩ := fact _ (s12.trans s13)
    refine ⟨_, rfl, t, _, rfl, .inl (SqL.of f3), fun u2 H14 s14 hu2 => ?_⟩
    obtain ⟨f1, f2, f3, f4, f5⟩ := fact _ ((s12.trans s13).trans s14)
    refine ⟨_, rfl, x, dx, _, rfl, f2, D, x, u2, wd, S, v2, rfl, f1, hs, .inr hu2, hl2, hw1, he2, fun H15 s15 => ⟨_, rfl, ?_⟩⟩
    obtain ⟨f1, f2, f3, f4, f5⟩ := fact _ (((s12.trans s13).trans s14).trans s15)
    refine ⟨_, rfl, _, rfl, x, dx, _, rfl, f2, D, x, t, wd, S, v2, rfl, f1, hs, .inl (SqL.of f3), hl2, hw1, he2, fun H16 s16 => ⟨_, rfl, rfl, _, rfl, iteF' (by rw [decide_eq_true rfl]; rfl) ?_⟩⟩
    have sl := ((((s12.trans s13).trans s14).trans s15).trans s16)
    exact ⟨⟨_, _, _, _, rfl⟩, hBu.same sl, kbu.trans (Kb.same sl)⟩
  · rintro σ H3 ⟨⟨b5, b6, b7, b8, rfl⟩, hB3, kb3⟩
    exact q _ hB3 kb3
end
end TL
namespace TL
open PySem L2

section
variable {K : PySem.W.Frag}
/-- what the law holds -/
structure LwS (K : PySem.W.Frag) (C : Addr) (B : Bg) (M : List (List Int)) (wd : Nat) (x rp sp : Addr) (H : Hp) : Prop where
  bag : Bag B H
  lat : ∃ D, LatF K C D H x wd (stairsOf M) ∧ D B.b
  rows : ∃ rs, H rp = some (.lst rs) ∧ rp ≠ B.b ∧ LstM H rs M
  stc : ∃ qs, H sp = some (.lst qs) ∧ sp ≠ B.b ∧ MatQ K H qs (stairsOf M)
theorem LatF.nb {C : Addr} {D : Addr → Prop} {B : Bg} {H : Hp} {x : Addr} {wd : Nat} {S : List (List Int)} (h : LatF K C D H x wd S) (hB : Bag B H) : x ≠ B.b := by
  obtain ⟨dx, va, sa, qs, h1, _⟩ := h.ex
  obtain ⟨i, r, z, c, e, _⟩ := hB.ex
  exact ne_of h1 e (by intro z; cases z)
theorem LwS.kb {C : Addr} {B : Bg} {M : List (List Int)} {wd : Nat} {x rp sp : Addr} {H H' : Hp} (h : LwS K C B M wd x rp sp H) (hB : Bag B H') (k : Kb B.b H H') : LwS K C B M wd x rp sp H' := by
  obtain ⟨b, ⟨D, l1, l2⟩, ⟨rs, r1, r2, r3⟩, ⟨qs, q1, q2, q3⟩⟩ := h
  exact ⟨hB, ⟨D, l1.kb k l2 (l1.nb b), l2⟩, ⟨rs, k _ _ r1 r2, r2, r3.kb b k⟩, ⟨qs, k _ _ q1 q2, q2, q3.kb b k⟩⟩
theorem LwS.same {C : Addr} {B : Bg} {M : List (List Int)} {wd : Nat} {x rp sp : Addr} {H H' : Hp} (h : LwS K C B M wd x rp sp H) (s : Same H H') : LwS K C B M wd x rp sp H' := h.kb (h.bag.same s) (Kb.same s)
theorem LatF.updD {C : Addr} {D : Addr → Prop} {H : Hp} {x t : Addr} {wd : Nat} {S : List (List Int)} {zs : List V} {o : HO} (h : LatF K C D H x wd S) (ht : H t = some (.lst zs)) (d : D t) : LatF K C D (upd H t o) x wd S := by
  obtain ⟨dx, va, sa, qs, h1, h2, h3⟩ := h.ex
  have e : cutH D (upd H t o) = cutH D H := by
    funext b
    by_cases z : D b
    · rw [cutH_in z, cutH_in z]
    · rw [cutH_out z, cutH_out z, upd_ne (fun y => z (by rw [y]; exact d))]
  refine ⟨dx, va, sa, qs, ?_, by rw [e]; exact h2, by rw [e]; exact h3⟩
  rw [upd_ne (ne_of h1 ht (by intro z; cases z))]
  exact h1
/-! ### mathematics -/
theorem stairs_spE {w : Nat} {A B : List (List Int)} (ha : ∀ v ∈ A, v.length = w) (hb : ∀ v ∈ B, v.length = w) (h : SpE A B) : stairsOf A = stairsOf B := (stairs_same ha hb).mpr h
theorem vec_app (v : List Int) : vecL (v ++ [0]) = vecL v := by
  funext j
  unfold vecL
  rw [List.getD_eq_getElem?_getD, List.getD_eq_getElem?_getD]
  rcases Nat.lt_or_ge j v.length with z | z
  · rw [List.getElem?_append_left z]
  · rw [List.getElem?_append_right z, List.getElem?_eq_none z]
    cases j - v.length with
    | zero => rfl
    | succ n => rfl
theorem map_app (M : List (List Int)) : (M.map (· ++ [0])).map vecL = M.map vecL := by
  rw [List.map_map]
  exact List.map_congr_left fun v _ => vec_app v
theorem stairs_wider {w : Nat} {M : List (List Int)} (h : ∀ v ∈ M, v.length = w) : stairsOf (M.map (· ++ [0])) = (stairsOf M).map (· ++ [0]) := by
  have hw : ∀ v ∈ M.map (· ++ [0]), v.length = w + 1 := fun v hv => by
    obtain ⟨u, hu, rfl⟩ := List.mem_map.mp hv
    rw [List.length_append, h u hu]
    rfl
  obtain ⟨a1, a2, a3⟩ := stairs_ok hw
  obtain ⟨b1, b2, b3⟩ := stairs_ok h
  refine stairs_one (w := w + 1) a1 (fun v hv => ?_) a2 (by rw [map_app]; exact b2) fun u => (a3 u).trans ?_
  · obtain ⟨u, hu, rfl⟩ := List.mem_map.mp hv
    rw [List.length_append, b1 u hu]
    rfl
  · rw [map_app, map_app]
    exact (b3 u).symm
theorem sms_of {w : Nat} {M : List (List Int)} (h : ∀ v ∈ M, v.length = w) (hl : M.length ≤ 6) (hb : ∀ v ∈ M, EB (2 ^ 128) v) : SmS w (stairsOf M) ∧ Stc 0 ((stairsOf M).map vecL) ∧ SpE (stairsOf M) M := by
  obtain ⟨b1, b2, b3⟩ := stairs_ok h
  obtain ⟨c1, c2, c3⟩ := stairs_size hl h hb
  refine ⟨⟨b1, lead_of_ech b2.ech, by omega, Gb M.length, c2, ?_⟩, b2, b3⟩
  have : ∀ i, i ≤ 6 → 128 + 7 * (Gb i + 2) ≤ 100000000 := by decide +kernel
  exact this _ hl
theorem listsOf {J : It} {σ : L2.St} {H1 : Hp} {D : Addr} {M : List (List Int)} {rs : List V} {i : Nat} {G : Hp → Prop} {Qd : Hp → Prop} (wk : Walk J rs.length G (YAt rs)) (hG : ∀ H, Same H1 H → G H) (h2 : RowQ K H1 rs M) (hl : M.length ≤ 100) (hD : H1 D = none) (hw : ∀ u, wipe ((wipe σ [i]).set i (some u)) [i] = wipe σ [i]) (h3 : ∀ u, ((wipe σ [i]).set i (some u))[i]? = some (some u))
    (hd : ∀ H ys, Same H1 H → H D = some (.lst ys) → LstM H ys M → Qd H) : LcGoal J (gName i) (tCB (rListOf K) (tCons (tVar i) tNil)) [i] σ H1 D Qd := by
  refine lcsD wk (fun n y H => ∃ u row, y = V.ref u ∧ u ≠ D ∧ M[n]? = some row ∧ H u = some (.lst (row.map V.int))) (fun n y Ha Hb s ⟨u, row, a1, a0, a2, a3⟩ => ⟨u, row, a1, a0, a2, s _ _ a3⟩)
    (fun n y Ha zs zs' hz' ⟨u, row, a1, a0, a2, a3⟩ => ⟨u, row, a1, a0, a2, by rw [upd_ne a0]; exact a3⟩) (by rw [h2.1]; omega) hD (fun H s => hG H s) ?_ fun ys H2 hyl hys s2 hD2 => hd H2 ys s2 hD2 ⟨hyl.trans h2.1, fun k r hr => by
      obtain ⟨u, row, a1, a0, a2, a3⟩ := hys k r hr
      exact ⟨u, row, a1, a2, a3⟩⟩
  rintro n x Ha Hb hn sa ⟨zs, hz⟩ ⟨rfl, hx⟩ k hk
  obtain ⟨t, row, rfl, e2, e3⟩ := h2.2 n x hx
  exact ⟨hw _, ⟨_, h3 _, t, _, rfl, e3.same sa, fun u hu => hk _ _ (Same.new hu) ⟨u, row, rfl, (ne_of_none hz hu).symm, e2, upd_same⟩⟩⟩
theorem listsApp {J : It} {σ : L2.St} {H1 : Hp} {D : Addr} {M : List (List Int)} {rs : List V} {i : Nat} {G : Hp → Prop} {Qd : Hp → Prop} (wk : Walk J rs.length G (YAt rs)) (hG : ∀ H, Same H1 H → G H) (h2 : RowQ K H1 rs M) (hl : M.length ≤ 100) (hr : ∀ r ∈ M, r.length ≤ 100) (hD : H1 D = none) (hw : ∀ u, wipe ((wipe σ [i]).set i (some u)) [i] = wipe σ [i]) (h3 : ∀ u, ((wipe σ [i]).set i (some u))[i]? = some (some u))
    (hd : ∀ H ys, Same H1 H → H D = some (.lst ys) → LstM H ys (M.map (· ++ [0])) → Qd H) : LcGoal J (gName i) (tOp rCat (tCB (rListOf K) (tCons (tVar i) tNil)) (tLst (tCons (tC (V.int 0)) tNil))) [i] σ H1 D Qd := by
  refine lcsD wk (fun n y H => ∃ u row, y = V.ref u ∧ u ≠ D ∧ (M.map (· ++ [0]))[n]? = some row ∧ H u = some (.lst (row.map V.int))) (fun n y Ha Hb s ⟨u, row, a1, a0, a2, a3⟩ => ⟨u, row, a1, a0, a2, s _ _ a3⟩)
    (fun n y Ha zs zs' hz' ⟨u, row, a1, a0, a2, a3⟩ => ⟨u, row, a1, a0, a2, by rw [upd_ne a0]; exact a3⟩) (by rw [h2.1]; omega) hD (fun H s => hG H s) ?_ fun ys H2 hyl hys s2 hD2 => hd H2 ys s2 hD2 ⟨by rw [List.length_map]; exact hyl.trans h2.1, fun k r hr => by
      obtain ⟨u, row, a1, a0, a2, a3⟩ := hys k r hr
      exact ⟨u, row, a1, a2, a3⟩⟩
  rintro n x Ha Hb hn sa ⟨zs, hz⟩ ⟨rfl, hx⟩ k hk
  obtain ⟨t, row, rfl, e2, e3⟩ := h2.2 n x hx
  have hrl := hr row (List.mem_of_getElem? e2)
  refine ⟨hw _, ⟨_, h3 _, t, _, rfl, e3.same sa, fun u hu => ⟨by show 1 ≤ sizeLine; decide, fun l hl0 => ?_⟩⟩⟩
  have s1 := Same.new (o := .lst (row.map V.int)) hu
  have s2 := Same.new (o := .lst [V.int 0]) hl0
  refine ⟨u, l, _, _, rfl, rfl, s2 _ _ upd_same, upd_same, Nat.le_of_lt (Nat.lt_of_le_of_lt (by rw [List.length_map]; show row.length + 1 ≤ 1000; omega) (by decide)), fun p hp => ?_⟩
  refine hk _ _ (s1.trans (s2.trans (Same.new hp))) ⟨p, row ++ [0], rfl, (ne_of_none (s2 _ _ (s1 _ _ hz)) hp).symm, by rw [List.getElem?_map, e2]; rfl, ?_⟩
  rw [upd_same, List.map_append]
  rfl
end
end TL
namespace TL
open PySem L2
section
variable {K L : PySem.W.Frag}
theorem own_app {x : Str} {c : Value} {r : Option Value} (h : PySem.W.ownIn K x c = some r) : PySem.W.ownIn (K ++ L) x c = some r := by
  cases c with
  | ref a =>
    unfold PySem.W.ownIn at h ⊢
    dsimp only at h ⊢
    cases q : K.lookup a with
    | none =>
      rw [q] at h
      cases h
    | some o =>
      rw [lk_app q]
      rw [q] at h
      split at h
      · exact ns_app h
      · cases h
  | _ => exact h
theorem along_app {x : Str} : ∀ {l : List Value} {r : Option Value}, PySem.W.alongIn K x l = some r → PySem.W.alongIn (K ++ L) x l = some r
  | [], r, h => h
  | c :: l, r, h => by
    unfold PySem.W.alongIn at h ⊢
    cases q : PySem.W.ownIn K x c with
    | none =>
      rw [q] at h
      cases h
    | some v =>
      rw [own_app q]
      rw [q] at h
      cases v with
      | none => exact along_app h
      | some v => exact h
theorem find_app {t : Value} {x : Str} {r : Option Value} (h : PySem.W.findIn K t x = some r) : PySem.W.findIn (K ++ L) t x = some r := by
  cases t with
  | ref a =>
    unfold PySem.W.findIn at h ⊢
    dsimp only at h ⊢
    cases q : K.lookup a with
    | none =>
      rw [q] at h
      cases h
    | some o =>
      rw [lk_app q]
      rw [q] at h
      split at h
      · exact along_app h
      · cases h
  | _ => exact h
theorem typ_app {v t : Value} (h : PySem.W.typeIn K v = some t) : PySem.W.typeIn (K ++ L) v = some t := by
  cases v with
  | ref a =>
    obtain ⟨o, q, rfl⟩ := Option.map_eq_some_iff.mp (show (K.lookup a).map (·.cls) = some t from h)
    show ((K ++ L).lookup a).map (·.cls) = some _
    rw [lk_app q]
    rfl
  | _ => exact h
theorem special_app {v : Value} {x : Str} {r : Option Value} (h : PySem.W.specialIn K v x = some r) : PySem.W.specialIn (K ++ L) v x = some r := by
  obtain ⟨t, h1, h2⟩ := Option.bind_eq_some_iff.mp h
  exact Option.bind_eq_some_iff.mpr ⟨t, typ_app h1, find_app h2⟩
theorem takes_app {v : Value} {b : Bool} (h : PySem.W.takesIn K v = some b) : PySem.W.takesIn (K ++ L) v = some b := by
  unfold PySem.W.takesIn at h ⊢
  cases q : PySem.W.specialIn K v "__set__" with
  | none =>
    rw [q] at h
    cases h
  | some o =>
    rw [special_app q]
    rw [q] at h
    cases o with
    | some o => exact h
    | none =>
      obtain ⟨y, h1, h2⟩ := Option.map_eq_some_iff.mp h
      exact Option.map_eq_some_iff.mpr ⟨y, special_app h1, h2⟩
theorem cls_app {C : Addr} {cd : ClassData} (h : PySem.W.clsIn K C = some cd) : PySem.W.clsIn (K ++ L) C = some cd := by
  unfold PySem.W.clsIn at h ⊢
  cases q : K.lookup C with
  | none =>
    rw [q] at h
    cases h
  | some o =>
    rw [lk_app q]
    rw [q] at h
    exact h
theorem mro_app {C : Addr} {b : Value} {r : Bool} (h : PySem.W.mroIn K C b = some r) : PySem.W.mroIn (K ++ L) C b = some r := by
  obtain ⟨cd, h1, h2⟩ := Option.bind_eq_some_iff.mp h
  exact Option.bind_eq_some_iff.mpr ⟨cd, cls_app h1, h2⟩
theorem sub_app {t b : Value} {r : Bool} (h : PySem.W.subIn K t b = some r) : PySem.W.subIn (K ++ L) t b = some r := by
  cases t with
  | ref a => exact mro_app h
  | _ => exact h
theorem inst_app {v b : Value} {r : Bool} (h : PySem.W.instIn K v b = some r) : PySem.W.instIn (K ++ L) v b = some r := by
  obtain ⟨t, h1, h2⟩ := Option.bind_eq_some_iff.mp h
  exact Option.bind_eq_some_iff.mpr ⟨t, typ_app h1, sub_app h2⟩
theorem any_app {C : Addr} {p : ClassData → Bool} (h : (PySem.W.clsIn K C).any p = true) : (PySem.W.clsIn (K ++ L) C).any p = true := by
  obtain ⟨cd, h1, h2⟩ := PySem.W.any_some h
  rw [cls_app h1]
  exact h2
theorem hasDict_app {C : Addr} (h : PySem.W.hasDictIn K C = true) : PySem.W.hasDictIn (K ++ L) C = true := any_app h
theorem plainOver_app {C : Addr} (h : PySem.W.plainOver K C = true) : PySem.W.plainOver (K ++ L) C = true := any_app h
theorem selfFirst_app {C : Addr} (h : PySem.W.selfFirst K C = true) : PySem.W.selfFirst (K ++ L) C = true := any_app h
theorem isCls_app {C : Addr} (h : PySem.W.isClsIn K C = true) : PySem.W.isClsIn (K ++ L) C = true := by
  unfold PySem.W.isClsIn at h ⊢
  obtain ⟨cd, q⟩ := Option.isSome_iff_exists.mp h
  rw [cls_app q]
  rfl
theorem isFn_app {v : Value} (h : PySem.W.isFn K v = true) : PySem.W.isFn (K ++ L) v = true := by
  unfold PySem.W.isFn at h ⊢
  rw [typ_app (beq_iff_eq.mp h)]
  exact beq_self_eq_true _
theorem plainGet_app {C : Addr} {x : Str} (h : PySem.W.plainGet K C x = true) : PySem.W.plainGet (K ++ L) C x = true := by
  unfold PySem.W.plainGet at h ⊢
  rw [Bool.and_eq_true] at h ⊢
  rw [find_app (beq_iff_eq.mp h.1), find_app (beq_iff_eq.mp h.2)]
  exact ⟨beq_self_eq_true _, beq_self_eq_true _⟩
theorem makes_app {C : Addr} (h : PySem.W.makesIn K C = true) : PySem.W.makesIn (K ++ L) C = true := by
  unfold PySem.W.makesIn at h ⊢
  cases q : K.lookup C with
  | none =>
    rw [q] at h
    cases h
  | some o =>
    rw [lk_app q]
    rw [q] at h
    split at h
    · simp only [Bool.and_eq_true] at h ⊢
      obtain ⟨h1, h2⟩ := h
      obtain ⟨h3, h4⟩ := h1
      refine ⟨⟨h3, ?_⟩, ?_⟩
      · rw [special_app (beq_iff_eq.mp h4)]
        exact beq_self_eq_true _
      · rw [inst_app (beq_iff_eq.mp h2)]
        exact beq_self_eq_true _
    · cases h
theorem keepA_app {f : Value} (h : PySem.W.keepIn K f = true) : PySem.W.keepIn (K ++ L) f = true := by
  cases f with
  | ref a =>
    unfold PySem.W.keepIn at h ⊢
    dsimp only at h ⊢
    cases q : K.lookup a with
    | none =>
      rw [q] at h
      cases h
    | some o =>
      rw [lk_app q]
      rw [q] at h
      split at h
      · rfl
      · rw [special_app (beq_iff_eq.mp h)]
        exact beq_self_eq_true _
      · cases h
  | _ => exact h
end
end TL
namespace TL
open PySem L2

/-! ### steps of a reading -/
local macro_rules | `(tactic| walk_at "hp") => `(tactic| first | assumption | exact upd_same | (refine (upd_ne (by first | assumption | (exact Ne.symm (by assumption)))).trans ?_; walk_at "hp"))
local macro_rules | `(tactic| walk_at "ok") => `(tactic| first | (exact Or.inr ⟨by decide, by decide⟩) | (exact ⟨by decide, by decide⟩) | (exact ⟨by decide, by decide, by decide⟩) | (show _ ≠ _; omega) | (show _ ≠ _; decide) | (exact Or.inl ⟨by omega, by omega⟩) | decide)
local macro_rules | `(tactic| walk_at "sq") => `(tactic| first | assumption | exact SqL.of (by walk_at "hp") | exact SqT.of (by walk_at "hp"))
local macro_rules | `(tactic| walk_at "ty") => `(tactic| first | refine ⟨_, _, Value.type "int", Value.type "list", false, rfl, ClsV.ty _, TyX.base (TyOf.int _), kt_int_list, ?_⟩ | refine ⟨_, _, Value.type "bool", Value.type "list", false, rfl, ClsV.ty _, TyX.base (TyOf.bl _), kt_bool_list, ?_⟩ | refine ⟨_, _, Value.type "str", Value.type "list", false, rfl, ClsV.ty _, TyX.base (TyOf.str _), kt_str_list, ?_⟩ | refine ⟨_, _, Value.type "NoneType", Value.type "list", false, rfl, ClsV.ty _, TyX.base TyOf.non, kt_NoneType_list, ?_⟩ | refine ⟨_, _, Value.type "list", Value.type "list", true, rfl, ClsV.ty _, tyx_L (by walk_at "sq"), kt_list_list, ?_⟩ | refine ⟨_, _, Value.type "tuple", Value.type "list", false, rfl, ClsV.ty _, tyx_T (by walk_at "sq"), kt_tuple_list, ?_⟩ | refine ⟨_, _, Value.type "int", Value.type "tuple", false, rfl, ClsV.ty _, TyX.base (TyOf.int _), kt_int_tuple, ?_⟩ | refine ⟨_, _, Value.type "bool", Value.type "tuple", false, rfl, ClsV.ty _, TyX.base (TyOf.bl _), kt_bool_tuple, ?_⟩ | refine ⟨_, _, Value.type "str", Value.type "tuple", false, rfl, ClsV.ty _, TyX.base (TyOf.str _), kt_str_tuple, ?_⟩ | refine ⟨_, _, Value.type "NoneType", Value.type "tuple", false, rfl, ClsV.ty _, TyX.base TyOf.non, kt_NoneType_tuple, ?_⟩ | refine ⟨_, _, Value.type "list", Value.type "tuple", false, rfl, ClsV.ty _, tyx_L (by walk_at "sq"), kt_list_tuple, ?_⟩ | refine ⟨_, _, Value.type "tuple", Value.type "tuple", true, rfl, ClsV.ty _, tyx_T (by walk_at "sq"), kt_tuple_tuple, ?_⟩ | refine ⟨_, _, Value.type "int", Value.type "bool", false, rfl, ClsV.ty _, TyX.base (TyOf.int _), kt_int_bool, ?_⟩ | refine ⟨_, _, Value.type "bool", Value.type "bool", true, rfl, ClsV.ty _, TyX.base (TyOf.bl _), kt_bool_bool, ?_⟩ | refine ⟨_, _, Value.type "str", Value.type "bool", false, rfl, ClsV.ty _, TyX.base (TyOf.str _), kt_str_bool, ?_⟩ | refine ⟨_, _, Value.type "NoneType", Value.type "bool", false, rfl, ClsV.ty _, TyX.base TyOf.non, kt_NoneType_bool, ?_⟩ | refine ⟨_, _, Value.type "list", Value.type "bool", false, rfl, ClsV.ty _, tyx_L (by walk_at "sq"), kt_list_bool, ?_⟩ | refine ⟨_, _, Value.type "tuple", Value.type "bool", false, rfl, ClsV.ty _, tyx_T (by walk_at "sq"), kt_tuple_bool, ?_⟩ | refine ⟨_, _, Value.type "int", Value.type "int", true, rfl, ClsV.ty _, TyX.base (TyOf.int _), kt_int_int, ?_⟩ | refine ⟨_, _, Value.type "bool", Value.type "int", true, rfl, ClsV.ty _, TyX.base (TyOf.bl _), kt_bool_int, ?_⟩ | refine ⟨_, _, Value.type "str", Value.type "int", false, rfl, ClsV.ty _, TyX.base (TyOf.str _), kt_str_int, ?_⟩ | refine ⟨_, _, Value.type "NoneType", Value.type "int", false, rfl, ClsV.ty _, TyX.base TyOf.non, kt_NoneType_int, ?_⟩ | refine ⟨_, _, Value.type "list", Value.type "int", false, rfl, ClsV.ty _, tyx_L (by walk_at "sq"), kt_list_int, ?_⟩ | refine ⟨_, _, Value.type "tuple", Value.type "int", false, rfl, ClsV.ty _, tyx_T (by walk_at "sq"), kt_tuple_int, ?_⟩ | refine ⟨_, _, Value.type "int", Value.type "str", false, rfl, ClsV.ty _, TyX.base (TyOf.int _), kt_int_str, ?_⟩ | refine ⟨_, _, Value.type "bool", Value.type "str", false, rfl, ClsV.ty _, TyX.base (TyOf.bl _), kt_bool_str, ?_⟩ | refine ⟨_, _, Value.type "str", Value.type "str", true, rfl, ClsV.ty _, TyX.base (TyOf.str _), kt_str_str, ?_⟩ | refine ⟨_, _, Value.type "NoneType", Value.type "str", false, rfl, ClsV.ty _, TyX.base TyOf.non, kt_NoneType_str, ?_⟩ | refine ⟨_, _, Value.type "list", Value.type "str", false, rfl, ClsV.ty _, tyx_L (by walk_at "sq"), kt_list_str, ?_⟩ | refine ⟨_, _, Value.type "tuple", Value.type "str", false, rfl, ClsV.ty _, tyx_T (by walk_at "sq"), kt_tuple_str, ?_⟩)
local macro_rules | `(tactic| walk_at "go1") => `(tactic| first
  | (refine ⟨_, rfl, ?_⟩)
  | (refine ⟨_, _, rfl, rfl, ?_⟩)
  | (refine ⟨_, _, _, _, rfl, rfl, SqL.of (by walk_at "hp"), rfl, ?_⟩)
  | (refine Or.inl ⟨_, rfl, ?_⟩)
  | (refine ⟨rfl, ?_⟩)
  | (refine ⟨_, _, rfl, .inl (SqL.of (by walk_at "hp")), ?_⟩)
  | (refine ⟨_, _, rfl, Or.inl (by assumption), ?_⟩)
  | (refine ⟨_, _, rfl, Or.inr (by assumption), ?_⟩)
  | (refine ⟨(by walk_at "ok"), ?_⟩)
  | (refine ⟨_, _, _, _, rfl, rfl, (by walk_at "hp"), rfl, ?_⟩))
local macro_rules | `(tactic| walk_at "go") => `(tactic| repeat (walk_at "go1"))
local macro_rules | `(tactic| walk_at "gt") => `(tactic| repeat (first | walk_at "go1" | walk_at "ty"))

section
variable {P : Program} {w : World} {K : PySem.W.Frag} {mg : Str → Option Value} {base : Heap}
-- [0=_law_script, 1=_law_bag, 2=_law_width, 3=_law_rows, 4=_law_stairs_here, 5=_law_handed, 6=_law_lattice_here, 7=_law_row, 8=_law_others, 9=_law_again, 10=_law_bent, 11=_law_at, 12=_law_many*, 13=_law_other, 14=_law_lower, 15=_law_wider, 16=_law_x, 17=_law_stair]
def spLaw (K : PySem.W.Frag) : Sp := fun vs H Q _ => ∃ (a : Addr) (ns : List Int), vs = [.ref a] ∧ SqL K H a (ns.map V.int) ∧ ns.length ≤ 63 ∧ ∀ H', Q (.bl true) H'
theorem ok_law (T : Tx K mg) (hP : P.given.tree = none) : FnOk P w K mg base CX0 39 T.f_law T.d_law ["_law_script"] (spLaw K) := by
  have G_l_start := ok_start (P := P) (w := w) (base := base) T
  have G_l_pull := ok_pull (P := P) (w := w) (base := base) T
  have G_l_pick := ok_pickT (P := P) (w := w) (base := base) T
  have G_l_draw_vectors := ok_drawV (P := P) (w := w) (base := base) T
  have G_l_stairs := ok_lst (P := P) (w := w) (base := base) T hP
  have G_l_shapes := ok_shapes (P := P) (w := w) (base := base) T
  have G_l_lattice := ok_ll (P := P) (w := w) (base := base) T hP
  have G_l_right := ok_right (P := P) (w := w) (base := base) T
  have G_l_near_right := ok_near (P := P) (w := w) (base := base) T hP
  have G_l_other_vectors := ok_other (P := P) (w := w) (base := base) T
  have G_Lattice_eq := ok_eq (P := P) (w := w) (base := base) T
  have GN_Lattice_eq := ok_eqN (P := P) (w := w) (base := base) T
  have G_Lattice_staircase := ok_stc (P := P) (w := w) (base := base) T
  refine T.F_law.ok sc_law (fun vs H Q E h => ?_) (fun cdv A outer s H vs Q E hr h => ?_)
  · obtain ⟨a, ns, rfl, _⟩ := h
    rfl
  obtain ⟨a, ns, rfl, hS, h63, q⟩ := h
  have nd := sc_law.nd
  refine ⟨_, (pss_cons (ps_set (i := 1) nd rfl (Or.inl rfl) (pe_call G_l_start (hr.mono (by decide)) (by rfl) T.m_l_start T.F_l_start.kp T.b_l_start .nil pass0 (pa_cons (pv 0) pa_nil)))
    (pss_cons (ps_set (i := 2) nd rfl (Or.inl rfl) (pe_call G_l_pick (hr.mono (by decide)) (by rfl) T.m_l_pick T.F_l_pick.kp T.b_l_pick .nil pass0 (pa_cons (pv 1) (pa_cons (pe_tup (pa_cons pe_int (pa_cons pe_int (pa_cons pe_int (pa_cons pe_int (pa_cons pe_int (pa_cons pe_int (pa_cons pe_int (pa_cons pe_int (pa_cons pe_int pa_nil)))))))))) pa_nil))))
    (pss_cons (ps_set (i := 3) nd rfl (Or.inl rfl) (pe_call G_l_draw_vectors (hr.mono (by decide)) (by rfl) T.m_l_draw_vectors T.F_l_draw_vectors.kp T.b_l_draw_vectors .nil pass0 (pa_cons (pv 1) (pa_cons (pv 2) (pa_cons (pe_call G_l_pick (hr.mono (by decide)) (by rfl) T.m_l_pick T.F_l_pick.kp T.b_l_pick .nil pass0 (pa_cons (pv 1) (pa_cons (pe_tup (pa_cons pe_int (pa_cons pe_int (pa_cons pe_int (pa_cons pe_int (pa_cons pe_int (pa_cons pe_int pa_nil))))))) pa_nil))) pa_nil)))))
    (pss_cons (ps_set (i := 4) nd rfl (Or.inl rfl) (pe_call G_l_stairs (hr.mono (by decide)) (by rfl) T.m_l_stairs T.F_l_stairs.kp T.b_l_stairs .nil pass0 (pa_cons (pv 2) (pa_cons (pv 3) pa_nil))))
    (pss_cons (ps_set (i := 5) nd rfl (Or.inl rfl) (pe_call G_l_shapes (hr.mono (by decide)) (by rfl) T.m_l_shapes T.F_l_shapes.kp T.b_l_shapes .nil pass0 (pa_cons (pv 1) (pa_cons (pv 3) pa_nil))))
    (pss_cons (ps_set (i := 6) nd rfl (Or.inl rfl) (pe_call G_l_lattice hr (by rfl) T.m_l_lattice T.F_l_lattice.kp T.b_l_lattice .nil pass0 (pa_cons (pv 2) (pa_cons (pv 5) pa_nil))))
    (pss_cons (ps_if (pt_cmpR (show OpR _ _ (rNeD K) from op_neD hr.units) (pe_lc (own := [("_law_row", 7)]) (g := (gName 7)) rfl nd (show PI _ _ _ (iList K _) from pi_list (pv 5)) (blkOk_by (own := [("_law_row", 7)]) (N := N_law) (sc := defScope s_law) (by decide +kernel)) (fun _ _ _ _ _ => by exact (pg_name (i := 7) nd rfl (Or.inl rfl))) (fun _ _ _ _ _ => by exact pts_nil) (fun _ _ _ _ _ => by exact (pe_callTy (show CallR _ _ (rListOf K) from call_list_of) (by rfl) T.z_list (by decide +kernel) (pa_cons (pv 7) pa_nil)))) (pv 3) (nomark _)) (pss_one (ps_ret pe_bl)) pss_nil)
    (pss_cut (ps_for PassesOwn.never rfl (show PI _ _ _ (iList K _) from pi_list (pv 5)) (pg_name (i := 7) nd rfl (Or.inl rfl)) (pss_one (ps_if (pt_val (pe_callB (show CallR _ _ (rIsi K) from call_isi) (by rfl) T.z_isinstance (by decide +kernel) (pa_cons (pv 7) (pa_cons (pe_bltn (v := .ty "list") (u := .type "list") (by rfl) T.z_list (by decide +kernel) rfl) pa_nil)))) (pss_one (ps_asg pe_str (pg_sub (pv 7) pe_int set_list))) pss_nil)))
    (pss_cons (ps_if (PW.pt (pw_or (pt_not (pt_val (pe_call G_l_right (hr.mono (by decide)) (by rfl) T.m_l_right T.F_l_right.kp T.b_l_right .nil pass0 (pa_cons (pv 6) (pa_cons (pv 2) (pa_cons (pv 4) pa_nil)))))) (pw_or1 (pt_not (pt_val (pe_call G_l_near_right (hr.mono (by decide)) (by rfl) T.m_l_near_right T.F_l_near_right.kp T.b_l_near_right .nil pass0 (pa_cons (pv 1) (pa_cons (pv 6) (pa_cons (pv 2) (pa_cons (pv 3) (pa_cons (pv 4) pa_nil))))))))))) (pss_one (ps_ret pe_bl)) pss_nil)
    (pss_cons (ps_set (i := 8) nd rfl (Or.inl rfl) (pe_call G_l_other_vectors (hr.mono (by decide)) (by rfl) T.m_l_other_vectors T.F_l_other_vectors.kp T.b_l_other_vectors .nil pass0 (pa_cons (pv 1) (pa_cons (pv 2) (pa_cons (pv 3) pa_nil)))))
    (pss_cons (ps_set (i := 9) nd rfl (Or.inl rfl) (pe_call G_l_lattice hr (by rfl) T.m_l_lattice T.F_l_lattice.kp T.b_l_lattice .nil pass0 (pa_cons (pv 2) (pa_cons (pe_call G_l_shapes (hr.mono (by decide)) (by rfl) T.m_l_shapes T.F_l_shapes.kp T.b_l_shapes .nil pass0 (pa_cons (pv 1) (pa_cons (pv 8) pa_nil))) pa_nil))))
    (pss_cons (ps_if (PW.pt (pw_or (pt_not (pt_val (pe_call G_l_right (hr.mono (by decide)) (by rfl) T.m_l_right T.F_l_right.kp T.b_l_right .nil pass0 (pa_cons (pv 9) (pa_cons (pv 2) (pa_cons (pv 4) pa_nil)))))) (pw_or (pt_not (pt_cmpR (op_owEq T.a_Lattice_eq.at_ T.a_Lattice_eq.fn G_Lattice_eq (hr.mono (by decide)) T.b_Lattice_eq pass0) (pv 9) (pv 6) (nomark _))) (pw_or1 (pt_not (pt_cmpR (op_owEq T.a_Lattice_eq.at_ T.a_Lattice_eq.fn G_Lattice_eq (hr.mono (by decide)) T.b_Lattice_eq pass0) (pv 6) (pv 9) (nomark _))))))) (pss_one (ps_ret pe_bl)) pss_nil)
    (pss_cons (ps_if (pt_not (pt_val (pe_call G_l_near_right (hr.mono (by decide)) (by rfl) T.m_l_near_right T.F_l_near_right.kp T.b_l_near_right .nil pass0 (pa_cons (pv 1) (pa_cons (pv 9) (pa_cons (pv 2) (pa_cons (pv 3) (pa_cons (pv 4) pa_nil)))))))) (pss_one (ps_ret pe_bl)) pss_nil)
    (pss_cons (ps_setLc (i := 10) (own := [("_law_row", 7)]) (g := (gName 7)) rfl nd rfl rfl (sw_true rfl rfl rfl (by decide +kernel)) (show PI _ _ _ (iList K _) from pi_list (pv 8)) (blkOk_by (own := [("_law_row", 7)]) (N := N_law) (sc := defScope s_law) (by decide +kernel)) (fun _ _ _ _ _ => by exact (pg_name (i := 7) nd rfl (Or.inl rfl))) (fun _ _ _ _ _ => by exact pts_nil) (fun _ _ _ _ _ => by exact (pe_callTy (show CallR _ _ (rListOf K) from call_list_of) (by rfl) T.z_list (by decide +kernel) (pa_cons (pv 7) pa_nil))))
    (pss_cut (ps_if (pt_cmpR (show OpR _ _ (rNeD K) from op_neD hr.units) (pv 10) (pe_lst pa_nil) (nomark _)) (pss_cons (ps_asg (pe_tup (pa_cons (pe_call G_l_pull (hr.mono (by decide)) (by rfl) T.m_l_pull T.F_l_pull.kp T.b_l_pull .nil pass0 (pa_cons (pv 1) (pa_cons (pe_callB (show CallR _ _ (rLenSq K) from call_len_seq) (by rfl) T.z_len (by decide +kernel) (pa_cons (pv 10) pa_nil)) pa_nil))) (pa_cons (pe_call G_l_pick (hr.mono (by decide)) (by rfl) T.m_l_pick T.F_l_pick.kp T.b_l_pick .nil pass0 (pa_cons (pv 1) (pa_cons (pe_tup (pa_cons pe_int (pa_cons pe_int (pa_cons pe_int (pa_cons pe_int (pa_cons (pe_un un_neg pe_int) pa_nil)))))) pa_nil))) pa_nil))) (pg_tup rfl (pgs_cons (pg_name (i := 11) nd rfl (Or.inl rfl)) (pgs_cons (pg_name (i := 12) nd rfl (Or.inr rfl)) pgs_nil))))
    (pss_one (ps_asg (pe_lc (own := [("_law_x", 16)]) (g := (gName 16)) rfl nd (show PI _ _ _ (iList K _) from pi_list (pe_ix (show IxR _ (rIxL K) from ix_list) (pv 10) (pv 11) (fun _ _ => rfl))) (blkOk_by (own := [("_law_x", 16)]) (N := N_law) (sc := defScope s_law) (by decide +kernel)) (fun _ _ _ _ _ => by exact (pg_name (i := 16) nd rfl (Or.inl rfl))) (fun _ _ _ _ _ => by exact pts_nil) (fun _ _ _ _ _ => by exact (pe_op op_mulW (pv 12) (pv 16)))) (pg_sub (pv 10) (pv 11) set_list)))) pss_nil)
    (pss_cons (ps_par (i := 13) (j := 14) rfl nd rfl rfl (by decide) rfl rfl (pa_cons (pe_call G_l_lattice hr (by rfl) T.m_l_lattice T.F_l_lattice.kp T.b_l_lattice .nil pass0 (pa_cons (pv 2) (pa_cons (pv 10) pa_nil))) (pa_cons (pe_call G_l_stairs (hr.mono (by decide)) (by rfl) T.m_l_stairs T.F_l_stairs.kp T.b_l_stairs .nil pass0 (pa_cons (pv 2) (pa_cons (pv 10) pa_nil))) pa_nil)) rfl)
    (pss_cons (ps_if (PW.pt (pw_or (pt_not (pt_val (pe_call G_l_right (hr.mono (by decide)) (by rfl) T.m_l_right T.F_l_right.kp T.b_l_right .nil pass0 (pa_cons (pv 13) (pa_cons (pv 2) (pa_cons (pv 14) pa_nil)))))) (pw_or1 (pt_cmpR op_ne (pe_cmpR (op_owEq T.a_Lattice_eq.at_ T.a_Lattice_eq.fn G_Lattice_eq (hr.mono (by decide)) T.b_Lattice_eq pass0) (pv 13) (pv 6) (nomark _)) (pe_cmpR (show OpR _ _ (rEqD K) from op_eqD hr.units) (pv 14) (pv 4) (nomark _)) (nomark _))))) (pss_one (ps_ret pe_bl)) pss_nil)
    (pss_cut (ps_if (pt_cmpR op_lt (pv 2) pe_int (nomark _)) (pss_cons (ps_set (i := 15) nd rfl (Or.inl rfl) (pe_call G_l_lattice hr (by rfl) T.m_l_lattice T.F_l_lattice.kp T.b_l_lattice .nil pass0 (pa_cons (pe_op op_add (pv 2) pe_int) (pa_cons (pe_lc (own := [("_law_row", 7)]) (g := (gName 7)) rfl nd (show PI _ _ _ (iList K _) from pi_list (pv 3)) (blkOk_by (own := [("_law_row", 7)]) (N := N_law) (sc := defScope s_law) (by decide +kernel)) (fun _ _ _ _ _ => by exact (pg_name (i := 7) nd rfl (Or.inl rfl))) (fun _ _ _ _ _ => by exact pts_nil) (fun _ _ _ _ _ => by exact (pe_op op_cat (pe_callTy (show CallR _ _ (rListOf K) from call_list_of) (by rfl) T.z_list (by decide +kernel) (pa_cons (pv 7) pa_nil)) (pe_lst (pa_cons pe_int pa_nil))))) pa_nil))))
    (pss_one (ps_if (PW.pt (pw_or (pt_cmpR (op_owEq T.a_Lattice_eq.at_ T.a_Lattice_eq.fn G_Lattice_eq (hr.mono (by decide)) T.b_Lattice_eq pass0) (pv 15) (pv 6) (nomark _)) (pw_or1 (pt_not (pt_val (pe_call G_l_right (hr.mono (by decide)) (by rfl) T.m_l_right T.F_l_right.kp T.b_l_right .nil pass0 (pa_cons (pv 15) (pa_cons (pe_op op_add (pv 2) pe_int) (pa_cons (pe_lc (own := [("_law_stair", 17)]) (g := (gName 17)) rfl nd (show PI _ _ _ (iList K _) from pi_list (pv 4)) (blkOk_by (own := [("_law_stair", 17)]) (N := N_law) (sc := defScope s_law) (by decide +kernel)) (fun _ _ _ _ _ => by exact (pg_name (i := 17) nd rfl (Or.inl rfl))) (fun _ _ _ _ _ => by exact pts_nil) (fun _ _ _ _ _ => by exact (pe_op op_cat (pe_callTy (show CallR _ _ (rListOf K) from call_list_of) (by rfl) T.z_list (by decide +kernel) (pa_cons (pv 17) pa_nil)) (pe_lst (pa_cons pe_int pa_nil))))) pa_nil))))))))) (pss_one (ps_ret pe_bl)) pss_nil))) pss_nil)
    (pss_one (ps_ret (pe_and (pe_call G_l_right (hr.mono (by decide)) (by rfl) T.m_l_right T.F_l_right.kp T.b_l_right .nil pass0 (pa_cons (pv 6) (pa_cons (pv 2) (pa_cons (pv 4) pa_nil)))) (pe_one (pe_not (pe_cmpR (op_owEqN T.a_Lattice_eq.at_ T.a_Lattice_eq.fn GN_Lattice_eq (hr.mono (by decide)) T.b_Lattice_eq pass0) (pv 6) (pe_meth0 (pv 6) T.c_Lattice T.a_Lattice_staircase G_Lattice_staircase (hr.mono (by decide)) T.b_Lattice_staircase .nil pass0) (nomark _))))))))))))))))))))))))), ?_⟩
  have hst : L2.start N_law [.ref a] = [some (.ref a), none, none, none, none, none, none, none, none, none, none, none, none, none, none, none, none, none] := rfl
  rw [hst]
  refine ⟨_, rfl, a, ns, rfl, hS, h63, fun B H1 s1 hB1 hBn => ?_⟩
  dsimp only [List.set_cons_succ, List.set_cons_zero, gName]
  refine ⟨_, rfl, by show 9 ≤ sizeLine; decide, fun T1 hT1 => ?_⟩
  have t1 := Same.new (o := .tup [V.int 3, V.int 2, V.int 4, V.int 1, V.int 5, V.int 6, V.int 2, V.int 15, V.int 24]) hT1
  refine ⟨B, T1, _, rfl, upd_same, by decide, by decide, hB1.same t1, fun k v H2 hv hB2 kb2 => ?_⟩
  obtain ⟨wd, rfl, hwd, hw1⟩ : ∃ wd : Nat, v = V.int (wd : Int) ∧ 0 < wd ∧ wd ≤ 24 := by
    match k, hv with
    | 0, hv => exact ⟨3, (Option.some.inj hv).symm, by decide, by decide⟩
    | 1, hv => exact ⟨2, (Option.some.inj hv).symm, by decide, by decide⟩
    | 2, hv => exact ⟨4, (Option.some.inj hv).symm, by decide, by decide⟩
    | 3, hv => exact ⟨1, (Option.some.inj hv).symm, by decide, by decide⟩
    | 4, hv => exact ⟨5, (Option.some.inj hv).symm, by decide, by decide⟩
    | 5, hv => exact ⟨6, (Option.some.inj hv).symm, by decide, by decide⟩
    | 6, hv => exact ⟨2, (Option.some.inj hv).symm, by decide, by decide⟩
    | 7, hv => exact ⟨15, (Option.some.inj hv).symm, by decide, by decide⟩
    | 8, hv => exact ⟨24, (Option.some.inj hv).symm, by decide, by decide⟩
    | k + 9, hv => cases hv
  clear hv k
  dsimp only [List.set_cons_succ, List.set_cons_zero, gName]
  refine ⟨_, rfl, _, rfl, _, rfl, by show 6 ≤ sizeLine; decide, fun T2 hT2 => ?_⟩
  have t2 := Same.new (o := .tup [V.int 2, V.int 3, V.int 1, V.int 4, V.int 0, V.int 5]) hT2
  refine ⟨B, T2, _, rfl, upd_same, by decide, by decide, hB2.same t2, fun k v H3 hv hB3 kb3 => ?_⟩
  obtain ⟨n, rfl, hn5⟩ : ∃ n : Nat, v = V.int (n : Int) ∧ n ≤ 5 := by
    match k, hv with
    | 0, hv => exact ⟨2, (Option.some.inj hv).symm, by decide⟩
    | 1, hv => exact ⟨3, (Option.some.inj hv).symm, by decide⟩
    | 2, hv => exact ⟨1, (Option.some.inj hv).symm, by decide⟩
    | 3, hv => exact ⟨4, (Option.some.inj hv).symm, by decide⟩
    | 4, hv => exact ⟨0, (Option.some.inj hv).symm, by decide⟩
    | 5, hv => exact ⟨5, (Option.some.inj hv).symm, by decide⟩
    | k + 6, hv => cases hv
  clear hv k
  refine ⟨B, wd, n, rfl, hwd, hw1, hn5, hB3, fun rp rs M H4 hB4 kb4 hrpn hrp hM hR hMl => ?_⟩
  have hrpb := hB3.nb hrpn
  have hM5 : M.length ≤ 5 := by omega
  have hM128 : ∀ r ∈ M, EB (2 ^ 128) r := fun r hr => eb_up (hR.eb r hr) (by decide)
  obtain ⟨hsm, hst0, hsE⟩ := sms_of hR.wid (by omega) hM128
  dsimp only [List.set_cons_succ, List.set_cons_zero, gName]
  refine ⟨_, rfl, _, rfl, wd, rp, rs, M, rfl, SqL.of hrp, hM.matQ, hR.wid, hwd, by omega, by omega, hM128, fun sp qs H5 s5 hspn hsp hQ => ?_⟩
  have hB5 := hB4.same s5
  have hspb := hB4.nb hspn
  have hrp5 := s5 _ _ hrp
  have hM5' := hM.same s5
  dsimp only [List.set_cons_succ, List.set_cons_zero, gName]
  refine ⟨_, rfl, _, rfl, B, rp, rs, M, rfl, hB5, hrp5, hrpb, hM5', by omega, fun r hr => by rw [hR.wid r hr]; exact hwd, fun hp ys H6 hB6 kb6 hhn hhp hSh => ?_⟩
  dsimp only [List.set_cons_succ, List.set_cons_zero, gName]
  refine ⟨_, rfl, _, rfl, wd, hp, ys, M, rfl, SqL.of hhp, hSh.rowQ, hR.wid, hwd, hw1, by omega, hM128, fun x H7 s7 hL => ?_⟩
  dsimp only [List.set_cons_succ, List.set_cons_zero, gName]
  have hhp7 := s7 _ _ hhp
  refine ⟨_, rfl, hp, rfl, ⟨_, SqL.of hhp7⟩, fun D1 hD1 => ?_⟩
  refine listsOf (walk_list (K := K) (a := hp) (xs := ys)) (fun Ha s => SqL.of (s _ _ hhp7)) (hSh.rowQ.same s7) (by omega) hD1 (fun u => rfl) (fun u => rfl) fun H8 zs s8 hD18 hz8 => ?_
  have s78 := s7.trans s8
  have kb58 := kb6.trans (Kb.same s78)
  have hB8 := hB6.same s78
  refine ⟨_, rfl, dL M, dL M, dp_rows (SqL.of hD18) hz8.matQ, dp_rows (SqL.of (kb58 _ _ hrp5 hrpb)) (hM5'.kb hB5 kb58).matQ, dL_shaped _, dL_shaped _, _, rfl, ?_⟩
  rw [dL_eqv, decide_eq_true rfl]
  refine iteF' rfl ?_
  refine ⟨fun σ' H' => (∃ b7, σ' = [some (.ref a), some (.ref B.b), some (.int (wd : Int)), some (.ref rp), some (.ref sp), some (.ref hp), some (.ref x), b7, none, none, none, none, none, none, none, none, none, none]) ∧ LwS K T.C_Lattice B M wd x rp sp H', ?_, ?_⟩
  · have hhp8 := s78 _ _ hhp
    refine ⟨_, rfl, hp, rfl, ⟨_, SqL.of hhp8⟩, for_it (walk_list (K := K) (a := hp) (xs := ys)) (fun i σ' H' => (∃ b7, σ' = [some (.ref a), some (.ref B.b), some (.int (wd : Int)), some (.ref rp), some (.ref sp), some (.ref hp), some (.ref x), b7, none, none, none, none, none, none, none, none, none, none]) ∧ Bag B H' ∧ Kb B.b H5 H' ∧ LatF K T.C_Lattice (isLst H6) H' x wd (stairsOf M) ∧ H' hp = some (.lst ys) ∧ ∀ (i : Nat) r, ys[i]? = some r → ∃ t, r = V.ref t ∧ ((∃ zs, H' t = some (.lst zs) ∧ zs.length = wd ∧ H5 t = none ∧ t ≠ hp ∧ isLst H6 t) ∨ ∃ xs, SqT K H' t xs)) ⟨⟨_, rfl⟩, hB8, kb58, hL.same s8, hhp8, fun i r hr => ?_⟩ (fun _ _ _ _ z => SqL.of z.2.2.2.2.1) ?_ ?_⟩
    · obtain ⟨t, row, rfl, hrow, hor⟩ := hSh.2 i r hr
      refine ⟨t, rfl, hor.elim (fun z => .inl ⟨_, s78 _ _ z.2, by rw [List.length_map]; exact hR.wid row (List.mem_of_getElem? hrow), z.1, fun e => ?_, _, z.2⟩) fun z => .inr ⟨_, seqT s78 z⟩⟩
      subst e
      have e2 := z.2.symm.trans hhp
      injection e2 with e2
      injection e2 with e2
      rw [← e2, List.getElem?_map] at hr
      obtain ⟨_, _, y⟩ := Option.map_eq_some_iff.mp hr
      cases y
    · rintro i r σ' Ha Hb hi ⟨⟨b7, rfl⟩, hBa, kba, hLa, hha, hall⟩ ⟨rfl, hr⟩
      dsimp only [List.set_cons_succ, List.set_cons_zero, gName]
      obtain ⟨t, rfl, hor⟩ := hall i r hr
      rcases hor with ⟨zs, h1, h2, h3, h4, h5⟩ | ⟨xs, h1⟩
      · refine ⟨_, rfl, _, _, Value.type "list", Value.type "list", true, rfl, ClsV.ty _, tyx_L (SqL.of h1), kt_list_list, ?_⟩
        refine ⟨_, rfl, iteT' rfl ?_⟩
        refine ⟨_, rfl, t, zs, 0, 0, rfl, rfl, h1, by unfold ixN; rw [if_pos (by decide), if_pos (by omega)]; rfl, ?_⟩
        refine ⟨⟨_, rfl⟩, hBa.upd (hB5.nb h3) (hB5.nL h3), fun c u h n => ?_, hLa.updD h1 h5, by rw [upd_ne (Ne.symm h4)]; exact hha, fun j r' hr' => ?_⟩
        · rw [upd_ne (ne_of_none h h3)]
          exact kba _ _ h n
        · obtain ⟨t', rfl, hor'⟩ := hall j r' hr'
          refine ⟨t', rfl, hor'.elim (fun ⟨zs', g1, g2, g3, g4, g5⟩ => .inl ?_) fun ⟨xs, g⟩ => .inr ⟨xs, seqT_lst h1 g⟩⟩
          by_cases e : t' = t
          · subst e
            exact ⟨_, upd_same, by rw [List.length_set]; exact h2, g3, g4, g5⟩
          · exact ⟨zs', by rw [upd_ne e]; exact g1, g2, g3, g4, g5⟩
      · refine ⟨_, rfl, _, _, Value.type "tuple", Value.type "list", false, rfl, ClsV.ty _, tyx_T h1, kt_tuple_list, ?_⟩
        exact ⟨_, rfl, iteF' rfl ⟨⟨_, rfl⟩, hBa, kba, hLa, hha, hall⟩⟩
    · rintro σ' Ha ⟨⟨b7, rfl⟩, hBa, kba, hLa, hha, _⟩
      refine ⟨⟨_, rfl⟩, hBa, ⟨_, hLa, ?_⟩, ⟨rs, kba _ _ hrp5 hrpb, hrpb, hM5'.kb hB5 kba⟩, ⟨qs, kba _ _ hsp hspb, hspb, hQ.kb hB5 kba⟩⟩
      obtain ⟨i, r, z, c, e, _⟩ := hB6.ex
      exact ⟨_, e⟩
  clear hhp7 hB8 kb58 hD18 hz8 s78 s8 hD1 hL s7 hSh hhp hhn kb6 hB6 hrp5 hM5' hQ hsp hspn s5 hB5 hB4 kb4 hrpn hrp hM hB3 kb3 t2 hT2 hB2 kb2 t1 hT1 hB1 s1 hBn hS
  rintro σ' H9 ⟨⟨b7, rfl⟩, W9⟩
  have hS100 : (stairsOf M).length ≤ 100 := by have := hsm.len; omega
  have hSw : ∀ r ∈ stairsOf M, r.length ≤ 100 := fun r hr => by rw [hsm.wid r hr]; omega
  obtain ⟨hB9, ⟨D, hL9, hDB⟩, ⟨rs9, r91, r92, r93⟩, ⟨qs9, q91, q92, q93⟩⟩ := id W9
  refine ⟨_, rfl, _, rfl, _, rfl, D, x, sp, wd, qs9, stairsOf M, rfl, hL9, SqL.of q91, q93, hS100, hSw, fun H10 s10 => ⟨_, rfl, iteF' rfl ?_⟩⟩
  have W10 := W9.same s10
  obtain ⟨hB10, ⟨D10, hL10, hDB10⟩, ⟨rs10, r101, r102, r103⟩, ⟨qs10, q101, q102, q103⟩⟩ := id W10
  refine ⟨_, rfl, _, rfl, _, rfl, _, rfl, _, rfl, B, D10, x, rp, sp, wd, rs10, qs10, M, stairsOf M, rfl, hB10, hL10, hDB10, hsm, hst0, hwd, hw1, r101, r102, r103, hR, by omega, q101, q102, q103, hsE, fun H11 hB11 kb11 => ⟨_, rfl, iteF' rfl ?_⟩⟩
  have W11 := W10.kb hB11 kb11
  obtain ⟨_, _, ⟨rs11, r111, r112, r113⟩, _⟩ := id W11
  refine ⟨_, rfl, _, rfl, _, rfl, B, rp, wd, rs11, M, rfl, hwd, hw1, hB11, r111, r112, r113, hR, hM5, fun op os N H12 hB12 kb12 hopn hop hN hRN hN6 hE => ?_⟩
  have W12 := W11.kb hB12 kb12
  have hopb := hB11.nb hopn
  dsimp only [List.set_cons_succ, List.set_cons_zero, gName]
  have hNst : stairsOf N = stairsOf M := stairs_spE hRN.wid hR.wid hE
  have hN128 : ∀ r ∈ N, EB (2 ^ 128) r := fun r hr => eb_up (hRN.eb r hr) (by decide)
  refine ⟨_, rfl, _, rfl, _, rfl, B, op, os, N, rfl, hB12, hop, hopb, hN, by omega, fun r hr => by rw [hRN.wid r hr]; exact hwd, fun gp gs H13 hB13 kb13 hgn hgp hG => ?_⟩
  refine ⟨wd, gp, gs, N, rfl, SqL.of hgp, hG.rowQ, hRN.wid, hwd, hw1, hN6, hN128, fun y H14 s14 hY => ?_⟩
  rw [hNst] at hY
  have hB14 := hB13.same s14
  have kb14 := kb13.trans (Kb.same s14)
  have W14 := W12.kb hB14 kb14
  have hop14 := kb14 _ _ hop hopb
  have hN14 := hN.kb hB12 kb14
  have hDY : isLst H13 B.b := by
    obtain ⟨i, r, z, c, e, _⟩ := hB13.ex
    exact ⟨_, e⟩
  have hyb := hY.nb hB14
  dsimp only [List.set_cons_succ, List.set_cons_zero, gName]
  obtain ⟨_, ⟨D14, hL14, hDB14⟩, ⟨rs14, r141, r142, r143⟩, ⟨qs14, q141, q142, q143⟩⟩ := id W14
  refine ⟨_, rfl, _, rfl, _, rfl, isLst H13, y, sp, wd, qs14, stairsOf M, rfl, hY, SqL.of q141, q143, hS100, hSw, fun H15 s15 => ⟨_, rfl, iteF' rfl ?_⟩⟩
  have W15 := W14.same s15
  have hY15 := hY.same s15
  obtain ⟨_, ⟨D15, hL15, hDB15⟩, _, _⟩ := id W15
  obtain ⟨dx, va, sa, ps, x1, x2, x3⟩ := hL15.open
  obtain ⟨dy, vb, sb, pt, y1, y2, y3⟩ := hY15.open
  refine ⟨_, rfl, _, rfl, y, dy, _, x, dx, _, rfl, rfl, y1, x1, _, _, y, x, wd, wd, _, _, rfl, hY15, hL15, _, rfl, iteF' (by rw [decide_eq_true ⟨rfl, rfl⟩]; rfl) ?_⟩
  refine ⟨_, rfl, _, rfl, x, dx, _, y, dy, _, rfl, rfl, x1, y1, _, _, x, y, wd, wd, _, _, rfl, hL15, hY15, _, rfl, iteF' (by rw [decide_eq_true ⟨rfl, rfl⟩]; rfl) ?_⟩
  obtain ⟨hB15, _, ⟨rs15, r151, r152, r153⟩, ⟨qs15, q151, q152, q153⟩⟩ := id W15
  refine ⟨_, rfl, _, rfl, _, rfl, _, rfl, _, rfl, B, isLst H13, y, rp, sp, wd, rs15, qs15, M, stairsOf M, rfl, hB15, hY15, hDY, hsm, hst0, hwd, hw1, r151, r152, r153, hR, by omega, q151, q152, q153, hsE, fun H16 hB16 kb16 => ⟨_, rfl, iteF' rfl ?_⟩⟩
  have kb1416 := (Kb.same s15).trans kb16
  have W16 := W14.kb hB16 kb1416
  have hop16 := kb1416 _ _ hop14 hopb
  have hN16 := hN14.kb hB14 kb1416
  refine ⟨_, rfl, op, rfl, ⟨_, SqL.of hop16⟩, fun bp hbp => ?_⟩
  refine listsOf (walk_list (K := K) (a := op) (xs := os)) (fun Ha s => SqL.of (s _ _ hop16)) hN16.matQ.rowQ (by omega) hbp (fun u => rfl) (fun u => rfl) fun H17 bs s17 hbp17 hb17 => ?_
  have W17 := W16.same s17
  dsimp only [List.set_cons_succ, List.set_cons_zero, gName]
  have hbpb := hB16.nb hbp
  have hbpL := hB16.nL hbp
  refine ⟨fun σ' H' => (∃ b7 b11 b12 b16, σ' = [some (.ref a), some (.ref B.b), some (.int (wd : Int)), some (.ref rp), some (.ref sp), some (.ref hp), some (.ref x), b7, some (.ref op), some (.ref y), some (.ref bp), b11, b12, none, none, none, b16, none]) ∧ LwS K T.C_Lattice B M wd x rp sp H' ∧ ∃ bs N2, H' bp = some (.lst bs) ∧ LstM H' bs N2 ∧ Rws wd N2 124 ∧ N2.length ≤ 6, ?_, ?_⟩
  · refine ⟨_, rfl, by show 0 ≤ sizeLine; decide, fun E1 hE1 => ?_⟩
    have s18 := Same.new (o := .lst []) hE1
    refine ⟨dL N, dL [], dp_rows (SqL.of (s18 _ _ hbp17)) (hb17.same s18).matQ, dp_rows (SqL.of upd_same) ⟨rfl, fun i r h => by cases h⟩, dL_shaped _, dL_shaped _, _, rfl, ?_⟩
    rw [dL_eqv]
    have W18 := W17.same s18
    have hbp18 := s18 _ _ hbp17
    have hb18 := hb17.same s18
    generalize upd H17 E1 (.lst []) = H18 at *
    have hbl := hb18.1
    have hRN4 : Rws wd N 124 := ⟨hRN.wid, fun r hr => eb_up (hRN.eb r hr) (by decide)⟩
    by_cases hN0 : N = []
    · refine iteF' (by rw [decide_eq_true hN0]; rfl) ?_
      exact ⟨⟨_, _, _, _, rfl⟩, W18, bs, N, hbp18, hb18, hRN4, hN6⟩
    · refine iteT' (by rw [decide_eq_false hN0]; rfl) ?_
      have hNp := List.length_pos_iff.mpr hN0
      refine ⟨_, rfl, _, rfl, bp, bs, rfl, .inl (SqL.of hbp18), B, _, rfl, by omega, Nat.lt_of_le_of_lt (by omega : ((bs.length : Int)).natAbs ≤ 1000) (by decide), W18.bag, fun c H19 c0 c1 hB19 kb19 => ?_⟩
      refine ⟨_, rfl, 1, rfl, by show 5 ≤ sizeLine; decide, fun T3 hT3 => ?_⟩
      have t3 := Same.new (o := .tup [V.int 2, V.int 0, V.int 3, V.int 1, V.int (-1)]) hT3
      refine ⟨B, T3, _, rfl, upd_same, by decide, by decide, hB19.same t3, fun k v H20 hv hB20 kb20 => ?_⟩
      obtain ⟨e, rfl, he⟩ : ∃ e, v = V.int e ∧ e.natAbs ≤ 3 := by
        match k, hv with
        | 0, hv => exact ⟨_, (Option.some.inj hv).symm, by decide⟩
        | 1, hv => exact ⟨_, (Option.some.inj hv).symm, by decide⟩
        | 2, hv => exact ⟨_, (Option.some.inj hv).symm, by decide⟩
        | 3, hv => exact ⟨_, (Option.some.inj hv).symm, by decide⟩
        | 4, hv => exact ⟨_, (Option.some.inj hv).symm, by decide⟩
        | k + 5, hv => cases hv
      refine ⟨by show 2 ≤ sizeLine; decide, fun T4 hT4 => ?_⟩
      have t4 := Same.new (o := .tup [V.int c, V.int e]) hT4
      refine ⟨T4, _, rfl, SqT.of upd_same, rfl, _, _, rfl, _, _, rfl, rfl, ?_⟩
      have kb1820 := kb19.trans ((Kb.same t3).trans (kb20.trans (Kb.same t4)))
      have hB21 := hB20.same t4
      have W21 := W18.kb hB21 kb1820
      have hbp21 := kb1820 _ _ hbp18 hbpb
      have hb21 := hb18.kb W18.bag kb1820
      generalize upd H20 T4 (.tup [V.int c, V.int e]) = H21 at *
      dsimp only [List.set_cons_succ, List.set_cons_zero, gName]
      have hc : c.toNat < N.length := by omega
      obtain ⟨rc, row, hrc, hrow, hrT⟩ := hb21.2 c.toNat bs[c.toNat] (List.getElem?_eq_getElem (by omega))
      have hxc : bs[c.toNat]? = some (V.ref rc) := by rw [List.getElem?_eq_getElem (by omega), hrc]
      have hrw := hRN.wid row (List.mem_of_getElem? hrow)
      have hre := hRN.eb row (List.mem_of_getElem? hrow)
      refine ⟨_, rfl, _, rfl, bp, _, _, _, rfl, rfl, SqL.of hbp21, at_of (j := c.toNat) (by omega) hxc, rc, rfl, ⟨_, SqL.of hrT⟩, fun D2 hD2 => ?_⟩
      refine lc_mapL (f := fun x => e * x) (SqL.of hrT) (by omega) hD2 (fun u => rfl) (fun u Ha kk hu hk => ⟨_, rfl, _, rfl, _, _, rfl, rfl, wide_mul (a := 10) (b := 201) (by omega) (Nat.lt_of_lt_of_le (eb_lt hre u hu) (Nat.pow_le_pow_right (by decide) (by decide))) (by decide) (by decide) (by decide), hk⟩) fun H22 s22 hD22 => ?_
      have hbp22 := s22 _ _ hbp21
      have hb22 := hb21.same s22
      have hD2b : D2 ≠ bp := (ne_of_none hbp21 hD2).symm
      refine ⟨_, rfl, _, rfl, bp, bs, c, c.toNat, rfl, rfl, hbp22, by unfold ixN; rw [if_pos c0, if_pos (by omega)], ?_⟩
      have hposN : ∀ r ∈ N, 0 < r.length := fun r hr => by rw [hRN.wid r hr]; exact hwd
      refine ⟨⟨_, _, _, _, rfl⟩, W16.kb ((hB21.same s22).upd hbpb hbpL) (fun c' u h n => ?_), _, N.set c.toNat (row.map (e * ·)), upd_same, (hb22.upd hposN hbp22 hb22).set (by rw [upd_ne hD2b]; exact hD22), ⟨fun r hr => ?_, fun r hr => ?_⟩, by rw [List.length_set]; exact hN6⟩
      · rw [upd_ne (ne_of_none h hbp)]
        exact ((Kb.same s17).trans ((Kb.same s18).trans (kb1820.trans (Kb.same s22)))) _ _ h n
      · rcases List.mem_or_eq_of_mem_set hr with z | rfl
        · exact hRN.wid r z
        · rw [List.length_map]
          exact hrw
      · rcases List.mem_or_eq_of_mem_set hr with z | rfl
        · exact hRN4.eb r z
        · intro x hx
          obtain ⟨z, hz, rfl⟩ := List.mem_map.mp hx
          have e1 := hre z hz
          rw [Int.natAbs_mul]
          have e2 : e.natAbs * z.natAbs ≤ 3 * 2 ^ 120 := Nat.mul_le_mul he e1
          exact Nat.le_trans e2 (by decide)
  rintro σ' H18 ⟨⟨b7', b11, b12, b16, rfl⟩, W18, bs2, N2, hbp18, hb18, hR2, hN26⟩
  have hN2128 : ∀ r ∈ N2, EB (2 ^ 128) r := fun r hr => eb_up (hR2.eb r hr) (by decide)
  obtain ⟨hsm2, _, _⟩ := sms_of hR2.wid hN26 hN2128
  refine ⟨_, rfl, _, rfl, wd, bp, bs2, N2, rfl, SqL.of hbp18, hb18.matQ.rowQ, hR2.wid, hwd, hw1, hN26, hN2128, fun z H19 s19 hZ => ?_⟩
  refine ⟨_, rfl, _, rfl, wd, bp, bs2, N2, rfl, SqL.of (s19 _ _ hbp18), (hb18.same s19).matQ, hR2.wid, hwd, by omega, hN26, hN2128, fun lp ls H20 s20 hlpn hlp hlq => ⟨_, _, rfl, ?_⟩⟩
  have W20 := W18.same (s19.trans s20)
  have hZ20 := hZ.same s20
  dsimp only [List.set_cons_succ, List.set_cons_zero, gName]
  refine ⟨_, rfl, _, rfl, _, rfl, isLst H18, z, lp, wd, ls, stairsOf N2, rfl, hZ20, SqL.of hlp, hlq, by have := hsm2.len; omega, fun r hr => by rw [hsm2.wid r hr]; omega, fun H21 s21 => ⟨_, rfl, iteF' rfl ?_⟩⟩
  have W21 := W20.same s21
  have hZ21 := hZ20.same s21
  obtain ⟨_, ⟨D21, hL21, hDB21⟩, _, ⟨qs21, q211, q212, q213⟩⟩ := id W21
  obtain ⟨dx', va', sa', ps', x1', x2', x3'⟩ := hL21.open
  obtain ⟨dz, vc, sc', pu, z1, z2, z3⟩ := hZ21.open
  refine ⟨_, rfl, _, rfl, z, dz, _, x, dx', _, rfl, rfl, z1, x1', _, _, z, x, wd, wd, _, _, rfl, hZ21, hL21, _, rfl, _, rfl, dL (stairsOf N2), dL (stairsOf M), dp_rows (SqL.of (s21 _ _ hlp)) (hlq.same s21), dp_rows (SqL.of q211) q213, dL_shaped _, dL_shaped _, ?_⟩
  rw [dL_eqv]
  refine ⟨rfl, _, rfl, iteF' (by simp) ?_⟩
  refine ⟨fun σ' H' => (∃ b7 b11 b12 b13 b14 b15 b16 b17, σ' = [some (.ref a), some (.ref B.b), some (.int (wd : Int)), some (.ref rp), some (.ref sp), some (.ref hp), some (.ref x), b7, some (.ref op), some (.ref y), some (.ref bp), b11, b12, b13, b14, b15, b16, b17]) ∧ LwS K T.C_Lattice B M wd x rp sp H', ?_, ?_⟩
  · refine ⟨_, rfl, _, _, rfl, rfl, _, rfl, ?_⟩
    refine ite2 (fun c => ?_) (fun _ => ⟨⟨_, _, _, _, _, _, _, _, rfl⟩, W21⟩)
    have h23 : wd + 1 ≤ 24 := by
      have := of_decide_eq_true c
      omega
    obtain ⟨_, _, ⟨rs21, r211, r212, r213⟩, _⟩ := id W21
    have hM100 : ∀ r ∈ M, r.length ≤ 100 := fun r hr => by rw [hR.wid r hr]; omega
    refine ⟨_, rfl, _, _, rfl, rfl, _, rfl, rp, rfl, ⟨_, SqL.of r211⟩, fun V1 hV1 => ?_⟩
    refine listsApp (walk_list (K := K) (a := rp) (xs := rs21)) (fun Ha s => SqL.of (s _ _ r211)) r213.matQ.rowQ (by omega) hM100 hV1 (fun u => rfl) (fun u => rfl) fun H22 ws s22 hV12 hw22 => ?_
    have hWw : ∀ r ∈ M.map (· ++ [0]), r.length = wd + 1 := fun r hr => by
      obtain ⟨u, hu, rfl⟩ := List.mem_map.mp hr
      rw [List.length_append, hR.wid u hu]
      rfl
    have hWe : ∀ r ∈ M.map (· ++ [0]), EB (2 ^ 128) r := fun r hr => by
      obtain ⟨u, hu, rfl⟩ := List.mem_map.mp hr
      intro x hx
      rcases List.mem_append.mp hx with z | z
      · exact hM128 u hu x z
      · rw [List.mem_singleton.mp z]
        exact Nat.zero_le _
    refine ⟨wd + 1, V1, ws, M.map (· ++ [0]), rfl, SqL.of hV12, hw22.matQ.rowQ, hWw, by omega, h23, by rw [List.length_map]; omega, hWe, fun u H23 s23 hU => ?_⟩
    rw [stairs_wider hR.wid] at hU
    have W23 := W21.same (s22.trans s23)
    obtain ⟨_, ⟨D23, hL23, hDB23⟩, _, ⟨qs23, q231, q232, q233⟩⟩ := id W23
    obtain ⟨dxx, vax, sax, psx, xx1, xx2, xx3⟩ := hL23.open
    obtain ⟨du, vu, su, pv, u1, u2, u3⟩ := hU.open
    dsimp only [List.set_cons_succ, List.set_cons_zero, gName]
    refine ⟨_, rfl, _, rfl, u, du, _, x, dxx, _, rfl, rfl, u1, xx1, _, _, u, x, wd + 1, wd, _, _, rfl, hU, hL23, _, rfl, iteF' (decide_eq_false fun z => by have := z.1; omega) ?_⟩
    refine ⟨_, rfl, _, rfl, _, _, rfl, rfl, _, rfl, sp, rfl, ⟨_, SqL.of q231⟩, fun V2 hV2 => ?_⟩
    refine listsApp (walk_list (K := K) (a := sp) (xs := qs23)) (fun Ha s => SqL.of (s _ _ q231)) q233.rowQ hS100 hSw hV2 (fun u => rfl) (fun u => rfl) fun H24 vs s24 hV24 hv24 => ?_
    refine ⟨_, u, V2, wd + 1, vs, _, rfl, hU.same s24, SqL.of hV24, hv24.matQ, by rw [List.length_map]; exact hS100, fun r hr => ?_, fun H25 s25 => ⟨_, rfl, iteF' rfl ?_⟩⟩
    · obtain ⟨v, hv, rfl⟩ := List.mem_map.mp hr
      rw [List.length_append, hsm.wid v hv]
      show wd + 1 ≤ 100
      omega
    · exact ⟨⟨_, _, _, _, _, _, _, _, rfl⟩, W23.same (s24.trans s25)⟩
  rintro σ' H22 ⟨⟨b7', b11, b12, b13, b14, b15, b16, b17, rfl⟩, W22⟩
  obtain ⟨_, ⟨D22, hL22, hDB22⟩, _, ⟨qs22, q221, q222, q223⟩⟩ := id W22
  refine ⟨_, rfl, _, rfl, _, rfl, D22, x, sp, wd, qs22, stairsOf M, rfl, hL22, SqL.of q221, q223, hS100, hSw, fun H23 s23 => ⟨_, rfl, iteT' rfl ?_⟩⟩
  have hL23 := hL22.same s23
  obtain ⟨dxx, vax, sax, psx, xx1, xx2, xx3⟩ := hL23.open
  refine ⟨_, rfl, _, rfl, x, dxx, _, rfl, xx1, fl_stc _ _ _, D22, x, wd, stairsOf M, rfl, hL23, hS100, fun t ts H24 s24 ht0 ht hts => ?_⟩
  refine ⟨x, dxx, _, "list", rfl, s24 _ _ xx1, tyx_L (SqL.of ht), T.sList, x, t, ts, rfl, SqL.of ht, _, rfl, ?_⟩
  exact q _
end
end TL
namespace TL
open PySem
theorem kit_no {K : PySem.W.Frag} {t : String} {C : Addr} (h1 : PySem.W.isClsIn K C = true) (h2 : PySem.W.typeIn K (.ref C) = some (.type "type")) (h3 : PySem.W.subIn K (.type t) (.ref C) = some false) : PySem.W.kitOne K (.type t) (.ref C) = some false := by
  unfold PySem.W.kitOne
  have hn : ¬ (Value.type t == Value.ref C) = true := fun e => by cases (beq_iff_eq.mp e)
  rw [if_neg hn]
  show (if ((PySem.W.clsIn K C).isSome && PySem.W.typeIn K (.ref C) == some (.type "type")) = true then PySem.W.subIn K (.type t) (.ref C) else none) = _
  rw [if_pos ?_, h3]
  rw [h2, show (PySem.W.clsIn K C).isSome = true from h1, beq_self_eq_true]
  rfl
end TL
namespace TL
open PySem L2
/-! ### the end -/
def TupO (o : Obj) (xs : List V) : Prop := ∃ (its : Array Value) (n : Nat), o.cls = .type "tuple" ∧ o.data = .seq its n ∧ its.size ≤ sizeLine ∧ Vals xs its.toList
theorem tupO_sq {K : PySem.W.Frag} {H : Hp} {a : Addr} {o : Obj} {xs : List V} (l : K.lookup a = some o) (v : TupO o xs) : SqT K H a xs := by
  obtain ⟨its, n, h1, h2, h3, h4⟩ := v
  exact .inr ⟨o, its, n, l, h1, h2, h3, h4⟩
set_option maxHeartbeats 0 in
theorem all_mk {P : Program} {w : World} {K : PySem.W.Frag} {h : Heap} {mg : Str → Option Value} {fa : Addr} {C_Lattice : Addr} {t_MOST_WIDTH : Tok} {f1 : Addr} {od1 an1 : Option Addr} {sl1 : Array (Option Value)} {oc1 kV1 dc1 pm1 cd1 ct1 : Value} {f2 : Addr} {od2 an2 : Option Addr} {sl2 : Array (Option Value)} {oc2 kV2 dc2 pm2 cd2 ct2 : Value} {f3 : Addr} {od3 an3 : Option Addr} {sl3 : Array (Option Value)} {oc3 kV3 dc3 pm3 cd3 ct3 : Value} {f4 : Addr} {od4 an4 : Option Addr} {sl4 : Array (Option Value)} {oc4 kV4 dc4 pm4 cd4 ct4 : Value} {f5 : Addr} {od5 an5 : Option Addr} {sl5 : Array (Option Value)} {oc5 kV5 dc5 pm5 cd5 ct5 : Value} {f6 : Addr} {od6 an6 : Option Addr} {sl6 : Array (Option Value)} {oc6 kV6 dc6 pm6 cd6 ct6 : Value} {f7 : Addr} {od7 an7 : Option Addr} {sl7 : Array (Option Value)} {oc7 kV7 dc7 pm7 cd7 ct7 : Value} {f8 : Addr} {od8 an8 : Option Addr} {sl8 : Array (Option Value)} {oc8 kV8 dc8 pm8 cd8 ct8 : Value} {f9 : Addr} {od9 an9 : Option Addr} {sl9 : Array (Option Value)} {oc9 kV9 dc9 pm9 cd9 ct9 : Value} {f10 : Addr} {od10 an10 : Option Addr} {sl10 : Array (Option Value)} {oc10 kV10 dc10 pm10 cd10 ct10 : Value} {f11 : Addr} {od11 an11 : Option Addr} {sl11 : Array (Option Value)} {oc11 kV11 dc11 pm11 cd11 ct11 : Value} {f12 : Addr} {od12 an12 : Option Addr} {sl12 : Array (Option Value)} {oc12 kV12 dc12 pm12 cd12 ct12 : Value} {f13 : Addr} {od13 an13 : Option Addr} {sl13 : Array (Option Value)} {oc13 kV13 dc13 pm13 cd13 ct13 : Value} {f14 : Addr} {od14 an14 : Option Addr} {sl14 : Array (Option Value)} {oc14 kV14 dc14 pm14 cd14 ct14 : Value} {f15 : Addr} {od15 an15 : Option Addr} {sl15 : Array (Option Value)} {oc15 kV15 dc15 pm15 cd15 ct15 : Value} {f16 : Addr} {od16 an16 : Option Addr} {sl16 : Array (Option Value)} {oc16 kV16 dc16 pm16 cd16 ct16 : Value} {f17 : Addr} {od17 an17 : Option Addr} {sl17 : Array (Option Value)} {oc17 kV17 dc17 pm17 cd17 ct17 : Value} {f18 : Addr} {od18 an18 : Option Addr} {sl18 : Array (Option Value)} {oc18 kV18 dc18 pm18 cd18 ct18 : Value} {f19 : Addr} {od19 an19 : Option Addr} {sl19 : Array (Option Value)} {oc19 kV19 dc19 pm19 cd19 ct19 : Value} {f20 : Addr} {od20 an20 : Option Addr} {sl20 : Array (Option Value)} {oc20 kV20 dc20 pm20 cd20 ct20 : Value} {f21 : Addr} {od21 an21 : Option Addr} {sl21 : Array (Option Value)} {oc21 kV21 dc21 pm21 cd21 ct21 : Value} {f22 : Addr} {od22 an22 : Option Addr} {sl22 : Array (Option Value)} {oc22 kV22 dc22 pm22 cd22 ct22 : Value} {f23 : Addr} {od23 an23 : Option Addr} {sl23 : Array (Option Value)} {oc23 kV23 dc23 pm23 cd23 ct23 : Value} {f24 : Addr} {od24 an24 : Option Addr} {sl24 : Array (Option Value)} {oc24 kV24 dc24 pm24 cd24 ct24 : Value} {f25 : Addr} {od25 an25 : Option Addr} {sl25 : Array (Option Value)} {oc25 kV25 dc25 pm25 cd25 ct25 : Value} {f26 : Addr} {od26 an26 : Option Addr} {sl26 : Array (Option Value)} {oc26 kV26 dc26 pm26 cd26 ct26 : Value} {f27 : Addr} {od27 an27 : Option Addr} {sl27 : Array (Option Value)} {oc27 kV27 dc27 pm27 cd27 ct27 : Value} {f28 : Addr} {od28 an28 : Option Addr} {sl28 : Array (Option Value)} {oc28 kV28 dc28 pm28 cd28 ct28 : Value} {f29 : Addr} {od29 an29 : Option Addr} {sl29 : Array (Option Value)} {oc29 kV29 dc29 pm29 cd29 ct29 : Value} {f30 : Addr} {od30 an30 : Option Addr} {sl30 : Array (Option Value)} {oc30 kV30 dc30 pm30 cd30 ct30 : Value} {f31 : Addr} {od31 an31 : Option Addr} {sl31 : Array (Option Value)} {oc31 kV31 dc31 pm31 cd31 ct31 : Value} {f32 : Addr} {od32 an32 : Option Addr} {sl32 : Array (Option Value)} {oc32 kV32 dc32 pm32 cd32 ct32 : Value} {f33 : Addr} {od33 an33 : Option Addr} {sl33 : Array (Option Value)} {oc33 kV33 dc33 pm33 cd33 ct33 : Value} (X : K.In h) (G : h.Ns mainGlobals mg) (hfa : mg "law" = some (.ref fa)) (hP : P.given.tree = none) (sees : Sees K mg)
    (z_len : PySem.W.nsIn K mainGlobals "len" = some none)
    (z_abs : PySem.W.nsIn K mainGlobals "abs" = some none)
    (z_int : PySem.W.nsIn K mainGlobals "int" = some none)
    (z_isinstance : PySem.W.nsIn K mainGlobals "isinstance" = some none)
    (z_list : PySem.W.nsIn K mainGlobals "list" = some none)
    (z_tuple : PySem.W.nsIn K mainGlobals "tuple" = some none)
    (z_bool : PySem.W.nsIn K mainGlobals "bool" = some none)
    (z_str : PySem.W.nsIn K mainGlobals "str" = some none)
    (z_all : PySem.W.nsIn K mainGlobals "all" = some none)
    (z_any : PySem.W.nsIn K mainGlobals "any" = some none)
    (z_zip : PySem.W.nsIn K mainGlobals "zip" = some none)
    (z_range : PySem.W.nsIn K mainGlobals "range" = some none)
    (z_enumerate : PySem.W.nsIn K mainGlobals "enumerate" = some none)
    (aC_Lattice : PySem.W.nsIn K mainGlobals "Lattice" = some (some (.ref C_Lattice)))
    (pg_Lattice : PySem.W.plainGet K C_Lattice Str.empty = true)
    (hd_Lattice : PySem.W.hasDictIn K C_Lattice = true)
    (po_Lattice : PySem.W.plainOver K C_Lattice = true)
    (sa_Lattice : PySem.W.findIn K (.ref C_Lattice) "__setattr__" = some (some (.builtin "object.__setattr__")))
    (n_Lattice_width : PySem.W.findIn K (.ref C_Lattice) "width" = some none)
    (n_Lattice_vectors : PySem.W.findIn K (.ref C_Lattice) "_vectors" = some none)
    (n_Lattice_stairs : PySem.W.findIn K (.ref C_Lattice) "_stairs" = some none)
    (ca_Lattice : PySem.W.findIn K (.ref C_Lattice) "__class__" = some (some (.builtin "object.__class__")))
    (cm_Lattice : PySem.W.mroIn K C_Lattice (.type "object") = some true)
    (cn_Lattice : PySem.W.specialIn K (.builtin "object.__class__") "__get__" = some (some (.builtin "getset_descriptor.__get__")))
    (ct_Lattice : PySem.W.takesIn K (.builtin "object.__class__") = some true)
    (gi_MOST_WIDTH : PySem.W.nsIn K mainGlobals "MOST_WIDTH" = some (some (.int 24 t_MOST_WIDTH)))
    (ic_C_Lattice : PySem.W.isClsIn K C_Lattice = true)
    (it_C_Lattice : PySem.W.typeIn K (.ref C_Lattice) = some (.type "type"))
    (h_kList : PySem.W.subIn K (.type "list") (.ref C_Lattice) = some false)
    (a1 : PySem.W.nsIn K mainGlobals "lead_of" = some (some (.ref f1)))
    (l1 : K.lookup f1 = some ⟨oc1, od1, .func (PySem.W.fnOf "lead_of" "lead_of" (defArgs s_lead_of) (defBody s_lead_of) (defScope s_lead_of) .none kV1 dc1 pm1 an1 cd1 ct1), sl1⟩)
    (c1 : PySem.W.codeIn K cd1 "lead_of" = true)
    (k1 : PySem.W.keepIn K (.ref f1) = true)
    (a2 : PySem.W.nsIn K mainGlobals "less" = some (some (.ref f2)))
    (l2 : K.lookup f2 = some ⟨oc2, od2, .func (PySem.W.fnOf "less" "less" (defArgs s_less) (defBody s_less) (defScope s_less) .none kV2 dc2 pm2 an2 cd2 ct2), sl2⟩)
    (c2 : PySem.W.codeIn K cd2 "less" = true)
    (k2 : PySem.W.keepIn K (.ref f2) = true)
    (a3 : PySem.W.nsIn K mainGlobals "_divided" = some (some (.ref f3)))
    (l3 : K.lookup f3 = some ⟨oc3, od3, .func (PySem.W.fnOf "_divided" "_divided" (defArgs s__divided) (defBody s__divided) (defScope s__divided) .none kV3 dc3 pm3 an3 cd3 ct3), sl3⟩)
    (c3 : PySem.W.codeIn K cd3 "_divided" = true)
    (k3 : PySem.W.keepIn K (.ref f3) = true)
    (a4 : PySem.W.nsIn K mainGlobals "_with_vector" = some (some (.ref f4)))
    (l4 : K.lookup f4 = some ⟨oc4, od4, .func (PySem.W.fnOf "_with_vector" "_with_vector" (defArgs s__with_vector) (defBody s__with_vector) (defScope s__with_vector) .none kV4 dc4 pm4 an4 cd4 ct4), sl4⟩)
    (c4 : PySem.W.codeIn K cd4 "_with_vector" = true)
    (k4 : PySem.W.keepIn K (.ref f4) = true)
    (a5 : PySem.W.nsIn K mainGlobals "_settled" = some (some (.ref f5)))
    (l5 : K.lookup f5 = some ⟨oc5, od5, .func (PySem.W.fnOf "_settled" "_settled" (defArgs s__settled) (defBody s__settled) (defScope s__settled) .none kV5 dc5 pm5 an5 cd5 ct5), sl5⟩)
    (c5 : PySem.W.codeIn K cd5 "_settled" = true)
    (k5 : PySem.W.keepIn K (.ref f5) = true)
    (a6 : PySem.W.nsIn K mainGlobals "counts_on" = some (some (.ref f6)))
    (l6 : K.lookup f6 = some ⟨oc6, od6, .func (PySem.W.fnOf "counts_on" "counts_on" (defArgs s_counts_on) (defBody s_counts_on) (defScope s_counts_on) .none kV6 dc6 pm6 an6 cd6 ct6), sl6⟩)
    (c6 : PySem.W.codeIn K cd6 "counts_on" = true)
    (k6 : PySem.W.keepIn K (.ref f6) = true)
    (a7 : PySem.W.nsIn K mainGlobals "staircase_of" = some (some (.ref f7)))
    (l7 : K.lookup f7 = some ⟨oc7, od7, .func (PySem.W.fnOf "staircase_of" "staircase_of" (defArgs s_staircase_of) (defBody s_staircase_of) (defScope s_staircase_of) .none kV7 dc7 pm7 an7 cd7 ct7), sl7⟩)
    (c7 : PySem.W.codeIn K cd7 "staircase_of" = true)
    (k7 : PySem.W.keepIn K (.ref f7) = true)
    (a8 : PySem.W.nsIn K mainGlobals "is_number" = some (some (.ref f8)))
    (l8 : K.lookup f8 = some ⟨oc8, od8, .func (PySem.W.fnOf "is_number" "is_number" (defArgs s_is_number) (defBody s_is_number) (defScope s_is_number) .none kV8 dc8 pm8 an8 cd8 ct8), sl8⟩)
    (c8 : PySem.W.codeIn K cd8 "is_number" = true)
    (k8 : PySem.W.keepIn K (.ref f8) = true)
    (a9 : PySem.W.nsIn K mainGlobals "is_listed" = some (some (.ref f9)))
    (l9 : K.lookup f9 = some ⟨oc9, od9, .func (PySem.W.fnOf "is_listed" "is_listed" (defArgs s_is_listed) (defBody s_is_listed) (defScope s_is_listed) .none kV9 dc9 pm9 an9 cd9 ct9), sl9⟩)
    (c9 : PySem.W.codeIn K cd9 "is_listed" = true)
    (k9 : PySem.W.keepIn K (.ref f9) = true)
    (a10 : PySem.W.nsIn K mainGlobals "are_numbers" = some (some (.ref f10)))
    (l10 : K.lookup f10 = some ⟨oc10, od10, .func (PySem.W.fnOf "are_numbers" "are_numbers" (defArgs s_are_numbers) (defBody s_are_numbers) (defScope s_are_numbers) .none kV10 dc10 pm10 an10 cd10 ct10), sl10⟩)
    (c10 : PySem.W.codeIn K cd10 "are_numbers" = true)
    (k10 : PySem.W.keepIn K (.ref f10) = true)
    (a11 : PySem.W.findIn K (.ref C_Lattice) "__init__" = some (some (.ref f11)))
    (i11 : PySem.W.isFn K (.ref f11) = true)
    (l11 : K.lookup f11 = some ⟨oc11, od11, .func (PySem.W.fnOf "__init__" "Lattice.__init__" (defArgs s_Lattice_init) (defBody s_Lattice_init) (defScope s_Lattice_init) .none kV11 dc11 pm11 an11 cd11 ct11), sl11⟩)
    (c11 : PySem.W.codeIn K cd11 "Lattice.__init__" = true)
    (k11 : PySem.W.keepIn K (.ref f11) = true)
    (mk_Lattice : PySem.W.makesIn K C_Lattice = true)
    (kc_Lattice : PySem.W.keepIn K (.ref C_Lattice) = true)
    (a12 : PySem.W.findIn K (.ref C_Lattice) "staircase" = some (some (.ref f12)))
    (i12 : PySem.W.isFn K (.ref f12) = true)
    (l12 : K.lookup f12 = some ⟨oc12, od12, .func (PySem.W.fnOf "staircase" "Lattice.staircase" (defArgs s_Lattice_staircase) (defBody s_Lattice_staircase) (defScope s_Lattice_staircase) .none kV12 dc12 pm12 an12 cd12 ct12), sl12⟩)
    (c12 : PySem.W.codeIn K cd12 "Lattice.staircase" = true)
    (k12 : PySem.W.keepIn K (.ref f12) = true)
    (a13 : PySem.W.findIn K (.ref C_Lattice) "__contains__" = some (some (.ref f13)))
    (i13 : PySem.W.isFn K (.ref f13) = true)
    (l13 : K.lookup f13 = some ⟨oc13, od13, .func (PySem.W.fnOf "__contains__" "Lattice.__contains__" (defArgs s_Lattice_contains) (defBody s_Lattice_contains) (defScope s_Lattice_contains) .none kV13 dc13 pm13 an13 cd13 ct13), sl13⟩)
    (c13 : PySem.W.codeIn K cd13 "Lattice.__contains__" = true)
    (k13 : PySem.W.keepIn K (.ref f13) = true)
    (a14 : PySem.W.findIn K (.ref C_Lattice) "__eq__" = some (some (.ref f14)))
    (i14 : PySem.W.isFn K (.ref f14) = true)
    (l14 : K.lookup f14 = some ⟨oc14, od14, .func (PySem.W.fnOf "__eq__" "Lattice.__eq__" (defArgs s_Lattice_eq) (defBody s_Lattice_eq) (defScope s_Lattice_eq) .none kV14 dc14 pm14 an14 cd14 ct14), sl14⟩)
    (c14 : PySem.W.codeIn K cd14 "Lattice.__eq__" = true)
    (k14 : PySem.W.keepIn K (.ref f14) = true)
    (a15 : PySem.W.findIn K (.ref C_Lattice) "__len__" = some (some (.ref f15)))
    (i15 : PySem.W.isFn K (.ref f15) = true)
    (l15 : K.lookup f15 = some ⟨oc15, od15, .func (PySem.W.fnOf "__len__" "Lattice.__len__" (defArgs s_Lattice_len) (defBody s_Lattice_len) (defScope s_Lattice_len) .none kV15 dc15 pm15 an15 cd15 ct15), sl15⟩)
    (c15 : PySem.W.codeIn K cd15 "Lattice.__len__" = true)
    (k15 : PySem.W.keepIn K (.ref f15) = true)
    (a16 : PySem.W.findIn K (.ref C_Lattice) "__bool__" = some (some (.ref f16)))
    (i16 : PySem.W.isFn K (.ref f16) = true)
    (l16 : K.lookup f16 = some ⟨oc16, od16, .func (PySem.W.fnOf "__bool__" "Lattice.__bool__" (defArgs s_Lattice_bool) (defBody s_Lattice_bool) (defScope s_Lattice_bool) .none kV16 dc16 pm16 an16 cd16 ct16), sl16⟩)
    (c16 : PySem.W.codeIn K cd16 "Lattice.__bool__" = true)
    (k16 : PySem.W.keepIn K (.ref f16) = true)
    (a17 : PySem.W.nsIn K mainGlobals "_law_start" = some (some (.ref f17)))
    (l17 : K.lookup f17 = some ⟨oc17, od17, .func (PySem.W.fnOf "_law_start" "_law_start" (defArgs s_l_start) (defBody s_l_start) (defScope s_l_start) .none kV17 dc17 pm17 an17 cd17 ct17), sl17⟩)
    (c17 : PySem.W.codeIn K cd17 "_law_start" = true)
    (k17 : PySem.W.keepIn K (.ref f17) = true)
    (a18 : PySem.W.nsIn K mainGlobals "_law_pull" = some (some (.ref f18)))
    (l18 : K.lookup f18 = some ⟨oc18, od18, .func (PySem.W.fnOf "_law_pull" "_law_pull" (defArgs s_l_pull) (defBody s_l_pull) (defScope s_l_pull) .none kV18 dc18 pm18 an18 cd18 ct18), sl18⟩)
    (c18 : PySem.W.codeIn K cd18 "_law_pull" = true)
    (k18 : PySem.W.keepIn K (.ref f18) = true)
    (a19 : PySem.W.nsIn K mainGlobals "_law_pick" = some (some (.ref f19)))
    (l19 : K.lookup f19 = some ⟨oc19, od19, .func (PySem.W.fnOf "_law_pick" "_law_pick" (defArgs s_l_pick) (defBody s_l_pick) (defScope s_l_pick) .none kV19 dc19 pm19 an19 cd19 ct19), sl19⟩)
    (c19 : PySem.W.codeIn K cd19 "_law_pick" = true)
    (k19 : PySem.W.keepIn K (.ref f19) = true)
    (a20 : PySem.W.nsIn K mainGlobals "_law_order" = some (some (.ref f20)))
    (l20 : K.lookup f20 = some ⟨oc20, od20, .func (PySem.W.fnOf "_law_order" "_law_order" (defArgs s_l_order) (defBody s_l_order) (defScope s_l_order) .none kV20 dc20 pm20 an20 cd20 ct20), sl20⟩)
    (c20 : PySem.W.codeIn K cd20 "_law_order" = true)
    (k20 : PySem.W.keepIn K (.ref f20) = true)
    (a21 : PySem.W.nsIn K mainGlobals "_law_same" = some (some (.ref f21)))
    (l21 : K.lookup f21 = some ⟨oc21, od21, .func (PySem.W.fnOf "_law_same" "_law_same" (defArgs s_l_same) (defBody s_l_same) (defScope s_l_same) .none kV21 dc21 pm21 an21 cd21 ct21), sl21⟩)
    (c21 : PySem.W.codeIn K cd21 "_law_same" = true)
    (k21 : PySem.W.keepIn K (.ref f21) = true)
    (a22 : PySem.W.nsIn K mainGlobals "_law_shuffled" = some (some (.ref f22)))
    (l22 : K.lookup f22 = some ⟨oc22, od22, .func (PySem.W.fnOf "_law_shuffled" "_law_shuffled" (defArgs s_l_shuffled) (defBody s_l_shuffled) (defScope s_l_shuffled) .none kV22 dc22 pm22 an22 cd22 ct22), sl22⟩)
    (c22 : PySem.W.codeIn K cd22 "_law_shuffled" = true)
    (k22 : PySem.W.keepIn K (.ref f22) = true)
    (a23 : PySem.W.nsIn K mainGlobals "_law_draw_number" = some (some (.ref f23)))
    (l23 : K.lookup f23 = some ⟨oc23, od23, .func (PySem.W.fnOf "_law_draw_number" "_law_draw_number" (defArgs s_l_draw_number) (defBody s_l_draw_number) (defScope s_l_draw_number) .none kV23 dc23 pm23 an23 cd23 ct23), sl23⟩)
    (c23 : PySem.W.codeIn K cd23 "_law_draw_number" = true)
    (k23 : PySem.W.keepIn K (.ref f23) = true)
    (a24 : PySem.W.nsIn K mainGlobals "_law_stairs" = some (some (.ref f24)))
    (l24 : K.lookup f24 = some ⟨oc24, od24, .func (PySem.W.fnOf "_law_stairs" "_law_stairs" (defArgs s_l_stairs) (defBody s_l_stairs) (defScope s_l_stairs) .none kV24 dc24 pm24 an24 cd24 ct24), sl24⟩)
    (c24 : PySem.W.codeIn K cd24 "_law_stairs" = true)
    (k24 : PySem.W.keepIn K (.ref f24) = true)
    (a25 : PySem.W.nsIn K mainGlobals "_law_within" = some (some (.ref f25)))
    (l25 : K.lookup f25 = some ⟨oc25, od25, .func (PySem.W.fnOf "_law_within" "_law_within" (defArgs s_l_within) (defBody s_l_within) (defScope s_l_within) .none kV25 dc25 pm25 an25 cd25 ct25), sl25⟩)
    (c25 : PySem.W.codeIn K cd25 "_law_within" = true)
    (k25 : PySem.W.keepIn K (.ref f25) = true)
    (a26 : PySem.W.nsIn K mainGlobals "_law_lattice" = some (some (.ref f26)))
    (l26 : K.lookup f26 = some ⟨oc26, od26, .func (PySem.W.fnOf "_law_lattice" "_law_lattice" (defArgs s_l_lattice) (defBody s_l_lattice) (defScope s_l_lattice) .none kV26 dc26 pm26 an26 cd26 ct26), sl26⟩)
    (c26 : PySem.W.codeIn K cd26 "_law_lattice" = true)
    (k26 : PySem.W.keepIn K (.ref f26) = true)
    (a27 : PySem.W.nsIn K mainGlobals "_law_summed" = some (some (.ref f27)))
    (l27 : K.lookup f27 = some ⟨oc27, od27, .func (PySem.W.fnOf "_law_summed" "_law_summed" (defArgs s_l_summed) (defBody s_l_summed) (defScope s_l_summed) .none kV27 dc27 pm27 an27 cd27 ct27), sl27⟩)
    (c27 : PySem.W.codeIn K cd27 "_law_summed" = true)
    (k27 : PySem.W.keepIn K (.ref f27) = true)
    (a28 : PySem.W.nsIn K mainGlobals "_law_draw_vectors" = some (some (.ref f28)))
    (l28 : K.lookup f28 = some ⟨oc28, od28, .func (PySem.W.fnOf "_law_draw_vectors" "_law_draw_vectors" (defArgs s_l_draw_vectors) (defBody s_l_draw_vectors) (defScope s_l_draw_vectors) .none kV28 dc28 pm28 an28 cd28 ct28), sl28⟩)
    (c28 : PySem.W.codeIn K cd28 "_law_draw_vectors" = true)
    (k28 : PySem.W.keepIn K (.ref f28) = true)
    (a29 : PySem.W.nsIn K mainGlobals "_law_shapes" = some (some (.ref f29)))
    (l29 : K.lookup f29 = some ⟨oc29, od29, .func (PySem.W.fnOf "_law_shapes" "_law_shapes" (defArgs s_l_shapes) (defBody s_l_shapes) (defScope s_l_shapes) .none kV29 dc29 pm29 an29 cd29 ct29), sl29⟩)
    (c29 : PySem.W.codeIn K cd29 "_law_shapes" = true)
    (k29 : PySem.W.keepIn K (.ref f29) = true)
    (a30 : PySem.W.nsIn K mainGlobals "_law_right" = some (some (.ref f30)))
    (l30 : K.lookup f30 = some ⟨oc30, od30, .func (PySem.W.fnOf "_law_right" "_law_right" (defArgs s_l_right) (defBody s_l_right) (defScope s_l_right) .none kV30 dc30 pm30 an30 cd30 ct30), sl30⟩)
    (c30 : PySem.W.codeIn K cd30 "_law_right" = true)
    (k30 : PySem.W.keepIn K (.ref f30) = true)
    (a31 : PySem.W.nsIn K mainGlobals "_law_other_vectors" = some (some (.ref f31)))
    (l31 : K.lookup f31 = some ⟨oc31, od31, .func (PySem.W.fnOf "_law_other_vectors" "_law_other_vectors" (defArgs s_l_other_vectors) (defBody s_l_other_vectors) (defScope s_l_other_vectors) .none kV31 dc31 pm31 an31 cd31 ct31), sl31⟩)
    (c31 : PySem.W.codeIn K cd31 "_law_other_vectors" = true)
    (k31 : PySem.W.keepIn K (.ref f31) = true)
    (a32 : PySem.W.nsIn K mainGlobals "_law_near_right" = some (some (.ref f32)))
    (l32 : K.lookup f32 = some ⟨oc32, od32, .func (PySem.W.fnOf "_law_near_right" "_law_near_right" (defArgs s_l_near_right) (defBody s_l_near_right) (defScope s_l_near_right) .none kV32 dc32 pm32 an32 cd32 ct32), sl32⟩)
    (c32 : PySem.W.codeIn K cd32 "_law_near_right" = true)
    (k32 : PySem.W.keepIn K (.ref f32) = true)
    (a33 : PySem.W.nsIn K mainGlobals "law" = some (some (.ref f33)))
    (l33 : K.lookup f33 = some ⟨oc33, od33, .func (PySem.W.fnOf "law" "law" (defArgs s_law) (defBody s_law) (defScope s_law) .none kV33 dc33 pm33 an33 cd33 ct33), sl33⟩)
    (c33 : PySem.W.codeIn K cd33 "law" = true)
    (k33 : PySem.W.keepIn K (.ref f33) = true)
    (h_jInt : PySem.W.mroIn K C_Lattice (.type "int") = some false)
    (h_jBool : PySem.W.mroIn K C_Lattice (.type "bool") = some false)
    (h_jList : PySem.W.mroIn K C_Lattice (.type "list") = some false)
    (h_jStr : PySem.W.mroIn K C_Lattice (.type "str") = some false)
    (h_jTuple : PySem.W.mroIn K C_Lattice (.type "tuple") = some false)
    (h_sList : PySem.W.subIn K (.type "list") (.ref C_Lattice) = some false)
    : ∃ fd : FuncData, (∀ (s : Shared) (v : Value), BindsTo s fd ⟨[v], []⟩ [("_law_script", v)]) ∧ ∀ base : Heap, K.In base → base.Ns mainGlobals mg → FnOk P w K mg base CX0 39 fa fd ["_law_script"] (spLaw K) := by
  have e := hfa.symm.trans (PySem.W.mg_of X G a33)
  cases e
  have F1 := fun_mk (st := s_lead_of) l1 c1 k1
  have b1 := F1.binds (ps := ["vector"]) fun _ _ _ _ _ _ us hl => match us, hl with | [_], _ => rfl
  have F2 := fun_mk (st := s_less) l2 c2 k2
  have b2 := F2.binds (ps := ["vector", "times", "row"]) fun _ _ _ _ _ _ us hl => match us, hl with | [_, _, _], _ => rfl
  have F3 := fun_mk (st := s__divided) l3 c3 k3
  have b3 := F3.binds (ps := ["row", "vector", "lead"]) fun _ _ _ _ _ _ us hl => match us, hl with | [_, _, _], _ => rfl
  have F4 := fun_mk (st := s__with_vector) l4 c4 k4
  have b4 := F4.binds (ps := ["stairs", "vector"]) fun _ _ _ _ _ _ us hl => match us, hl with | [_, _], _ => rfl
  have F5 := fun_mk (st := s__settled) l5 c5 k5
  have b5 := F5.binds (ps := ["rows"]) fun _ _ _ _ _ _ us hl => match us, hl with | [_], _ => rfl
  have F6 := fun_mk (st := s_counts_on) l6 c6 k6
  have b6 := F6.binds (ps := ["stairs", "vector"]) fun _ _ _ _ _ _ us hl => match us, hl with | [_, _], _ => rfl
  have F7 := fun_mk (st := s_staircase_of) l7 c7 k7
  have b7 := F7.binds (ps := ["vectors"]) fun _ _ _ _ _ _ us hl => match us, hl with | [_], _ => rfl
  have F8 := fun_mk (st := s_is_number) l8 c8 k8
  have b8 := F8.binds (ps := ["value"]) fun _ _ _ _ _ _ us hl => match us, hl with | [_], _ => rfl
  have F9 := fun_mk (st := s_is_listed) l9 c9 k9
  have b9 := F9.binds (ps := ["value"]) fun _ _ _ _ _ _ us hl => match us, hl with | [_], _ => rfl
  have F10 := fun_mk (st := s_are_numbers) l10 c10 k10
  have b10 := F10.binds (ps := ["value", "many"]) fun _ _ _ _ _ _ us hl => match us, hl with | [_, _], _ => rfl
  have F11 := fun_mk (st := s_Lattice_init) l11 c11 k11
  have b11 : StarB (PySem.W.fnOf "__init__" "Lattice.__init__" (defArgs s_Lattice_init) (defBody s_Lattice_init) (defScope s_Lattice_init) .none kV11 dc11 pm11 an11 cd11 ct11) ["self", "width"] "vectors" := fun us rest hl => StX.bind_star2 (B := fun us => bindArgs (PySem.W.fnOf "__init__" "Lattice.__init__" (defArgs s_Lattice_init) (defBody s_Lattice_init) (defScope s_Lattice_init) .none kV11 dc11 pm11 an11 cd11 ct11) ⟨us, []⟩) (fun _ _ => rfl) (fun _ _ _ _ => rfl) us rest hl
  have F12 := fun_mk (st := s_Lattice_staircase) l12 c12 k12
  have b12 := F12.binds (ps := ["self"]) fun _ _ _ _ _ _ us hl => match us, hl with | [_], _ => rfl
  have F13 := fun_mk (st := s_Lattice_contains) l13 c13 k13
  have b13 := F13.binds (ps := ["self", "vector"]) fun _ _ _ _ _ _ us hl => match us, hl with | [_, _], _ => rfl
  have F14 := fun_mk (st := s_Lattice_eq) l14 c14 k14
  have b14 := F14.binds (ps := ["self", "other"]) fun _ _ _ _ _ _ us hl => match us, hl with | [_, _], _ => rfl
  have F15 := fun_mk (st := s_Lattice_len) l15 c15 k15
  have b15 := F15.binds (ps := ["self"]) fun _ _ _ _ _ _ us hl => match us, hl with | [_], _ => rfl
  have F16 := fun_mk (st := s_Lattice_bool) l16 c16 k16
  have b16 := F16.binds (ps := ["self"]) fun _ _ _ _ _ _ us hl => match us, hl with | [_], _ => rfl
  have F17 := fun_mk (st := s_l_start) l17 c17 k17
  have b17 := F17.binds (ps := ["_law_script"]) fun _ _ _ _ _ _ us hl => match us, hl with | [_], _ => rfl
  have F18 := fun_mk (st := s_l_pull) l18 c18 k18
  have b18 := F18.binds (ps := ["_law_bag", "_law_size"]) fun _ _ _ _ _ _ us hl => match us, hl with | [_, _], _ => rfl
  have F19 := fun_mk (st := s_l_pick) l19 c19 k19
  have b19 := F19.binds (ps := ["_law_bag", "_law_some"]) fun _ _ _ _ _ _ us hl => match us, hl with | [_, _], _ => rfl
  have F20 := fun_mk (st := s_l_order) l20 c20 k20
  have b20 := F20.binds (ps := ["_law_bag", "_law_count"]) fun _ _ _ _ _ _ us hl => match us, hl with | [_, _], _ => rfl
  have F21 := fun_mk (st := s_l_same) l21 c21 k21
  have b21 := F21.binds (ps := ["_law_found", "_law_due"]) fun _ _ _ _ _ _ us hl => match us, hl with | [_, _], _ => rfl
  have F22 := fun_mk (st := s_l_shuffled) l22 c22 k22
  have b22 := F22.binds (ps := ["_law_bag", "_law_some"]) fun _ _ _ _ _ _ us hl => match us, hl with | [_, _], _ => rfl
  have F23 := fun_mk (st := s_l_draw_number) l23 c23 k23
  have b23 := F23.binds (ps := ["_law_bag"]) fun _ _ _ _ _ _ us hl => match us, hl with | [_], _ => rfl
  have F24 := fun_mk (st := s_l_stairs) l24 c24 k24
  have b24 := F24.binds (ps := ["_law_width", "_law_vectors"]) fun _ _ _ _ _ _ us hl => match us, hl with | [_, _], _ => rfl
  have F25 := fun_mk (st := s_l_within) l25 c25 k25
  have b25 := F25.binds (ps := ["_law_stairs_here", "_law_line"]) fun _ _ _ _ _ _ us hl => match us, hl with | [_, _], _ => rfl
  have F26 := fun_mk (st := s_l_lattice) l26 c26 k26
  have b26 := F26.binds (ps := ["_law_width", "_law_rows"]) fun _ _ _ _ _ _ us hl => match us, hl with | [_, _], _ => rfl
  have F27 := fun_mk (st := s_l_summed) l27 c27 k27
  have b27 := F27.binds (ps := ["_law_width", "_law_rows", "_law_counts"]) fun _ _ _ _ _ _ us hl => match us, hl with | [_, _, _], _ => rfl
  have F28 := fun_mk (st := s_l_draw_vectors) l28 c28 k28
  have b28 := F28.binds (ps := ["_law_bag", "_law_width", "_law_count"]) fun _ _ _ _ _ _ us hl => match us, hl with | [_, _, _], _ => rfl
  have F29 := fun_mk (st := s_l_shapes) l29 c29 k29
  have b29 := F29.binds (ps := ["_law_bag", "_law_rows"]) fun _ _ _ _ _ _ us hl => match us, hl with | [_, _], _ => rfl
  have F30 := fun_mk (st := s_l_right) l30 c30 k30
  have b30 := F30.binds (ps := ["_law_lattice_here", "_law_width", "_law_stairs_here"]) fun _ _ _ _ _ _ us hl => match us, hl with | [_, _, _], _ => rfl
  have F31 := fun_mk (st := s_l_other_vectors) l31 c31 k31
  have b31 := F31.binds (ps := ["_law_bag", "_law_width", "_law_rows"]) fun _ _ _ _ _ _ us hl => match us, hl with | [_, _, _], _ => rfl
  have F32 := fun_mk (st := s_l_near_right) l32 c32 k32
  have b32 := F32.binds (ps := ["_law_bag", "_law_lattice_here", "_law_width", "_law_rows", "_law_stairs_here"]) fun _ _ _ _ _ _ us hl => match us, hl with | [_, _, _, _, _], _ => rfl
  have F33 := fun_mk (st := s_law) l33 c33 k33
  have b33 := F33.binds (ps := ["_law_script"]) fun _ _ _ _ _ _ us hl => match us, hl with | [_], _ => rfl
  exact ⟨PySem.W.fnOf "law" "law" (defArgs s_law) (defBody s_law) (defScope s_law) .none kV33 dc33 pm33 an33 cd33 ct33, fun s v => .of_eq rfl, fun base _ _ => ok_law (T := {
    z_len := PySem.W.mg_none_of X G z_len
    z_abs := PySem.W.mg_none_of X G z_abs
    z_int := PySem.W.mg_none_of X G z_int
    z_isinstance := PySem.W.mg_none_of X G z_isinstance
    z_list := PySem.W.mg_none_of X G z_list
    z_tuple := PySem.W.mg_none_of X G z_tuple
    z_bool := PySem.W.mg_none_of X G z_bool
    z_str := PySem.W.mg_none_of X G z_str
    z_all := PySem.W.mg_none_of X G z_all
    z_any := PySem.W.mg_none_of X G z_any
    z_zip := PySem.W.mg_none_of X G z_zip
    z_range := PySem.W.mg_none_of X G z_range
    z_enumerate := PySem.W.mg_none_of X G z_enumerate
    C_Lattice := C_Lattice
    c_Lattice := ⟨pg_Lattice, hd_Lattice, po_Lattice, sa_Lattice⟩
    g_Lattice := PySem.W.mg_of X G aC_Lattice
    n_Lattice_width := n_Lattice_width
    n_Lattice_vectors := n_Lattice_vectors
    n_Lattice_stairs := n_Lattice_stairs
    i_Lattice := ⟨ca_Lattice, cn_Lattice, ct_Lattice, cm_Lattice, if_pos (beq_self_eq_true _)⟩
    t_MOST_WIDTH := t_MOST_WIDTH
    m_MOST_WIDTH := PySem.W.mg_of X G gi_MOST_WIDTH
    f_lead_of := f1
    d_lead_of := PySem.W.fnOf "lead_of" "lead_of" (defArgs s_lead_of) (defBody s_lead_of) (defScope s_lead_of) .none kV1 dc1 pm1 an1 cd1 ct1
    F_lead_of := F1
    b_lead_of := b1
    m_lead_of := PySem.W.mg_of X G a1
    f_less := f2
    d_less := PySem.W.fnOf "less" "less" (defArgs s_less) (defBody s_less) (defScope s_less) .none kV2 dc2 pm2 an2 cd2 ct2
    F_less := F2
    b_less := b2
    m_less := PySem.W.mg_of X G a2
    f__divided := f3
    d__divided := PySem.W.fnOf "_divided" "_divided" (defArgs s__divided) (defBody s__divided) (defScope s__divided) .none kV3 dc3 pm3 an3 cd3 ct3
    F__divided := F3
    b__divided := b3
    m__divided := PySem.W.mg_of X G a3
    f__with_vector := f4
    d__with_vector := PySem.W.fnOf "_with_vector" "_with_vector" (defArgs s__with_vector) (defBody s__with_vector) (defScope s__with_vector) .none kV4 dc4 pm4 an4 cd4 ct4
    F__with_vector := F4
    b__with_vector := b4
    m__with_vector := PySem.W.mg_of X G a4
    f__settled := f5
    d__settled := PySem.W.fnOf "_settled" "_settled" (defArgs s__settled) (defBody s__settled) (defScope s__settled) .none kV5 dc5 pm5 an5 cd5 ct5
    F__settled := F5
    b__settled := b5
    m__settled := PySem.W.mg_of X G a5
    f_counts_on := f6
    d_counts_on := PySem.W.fnOf "counts_on" "counts_on" (defArgs s_counts_on) (defBody s_counts_on) (defScope s_counts_on) .none kV6 dc6 pm6 an6 cd6 ct6
    F_counts_on := F6
    b_counts_on := b6
    m_counts_on := PySem.W.mg_of X G a6
    f_staircase_of := f7
    d_staircase_of := PySem.W.fnOf "staircase_of" "staircase_of" (defArgs s_staircase_of) (defBody s_staircase_of) (defScope s_staircase_of) .none kV7 dc7 pm7 an7 cd7 ct7
    F_staircase_of := F7
    b_staircase_of := b7
    m_staircase_of := PySem.W.mg_of X G a7
    f_is_number := f8
    d_is_number := PySem.W.fnOf "is_number" "is_number" (defArgs s_is_number) (defBody s_is_number) (defScope s_is_number) .none kV8 dc8 pm8 an8 cd8 ct8
    F_is_number := F8
    b_is_number := b8
    m_is_number := PySem.W.mg_of X G a8
    f_is_listed := f9
    d_is_listed := PySem.W.fnOf "is_listed" "is_listed" (defArgs s_is_listed) (defBody s_is_listed) (defScope s_is_listed) .none kV9 dc9 pm9 an9 cd9 ct9
    F_is_listed := F9
    b_is_listed := b9
    m_is_listed := PySem.W.mg_of X G a9
    f_are_numbers := f10
    d_are_numbers := PySem.W.fnOf "are_numbers" "are_numbers" (defArgs s_are_numbers) (defBody s_are_numbers) (defScope s_are_numbers) .none kV10 dc10 pm10 an10 cd10 ct10
    F_are_numbers := F10
    b_are_numbers := b10
    m_are_numbers := PySem.W.mg_of X G a10
    f_Lattice_init := f11
    d_Lattice_init := PySem.W.fnOf "__init__" "Lattice.__init__" (defArgs s_Lattice_init) (defBody s_Lattice_init) (defScope s_Lattice_init) .none kV11 dc11 pm11 an11 cd11 ct11
    F_Lattice_init := F11
    B_Lattice_init := b11
    k_Lattice := ⟨mk_Lattice, a11, i11, kc_Lattice⟩
    f_Lattice_staircase := f12
    d_Lattice_staircase := PySem.W.fnOf "staircase" "Lattice.staircase" (defArgs s_Lattice_staircase) (defBody s_Lattice_staircase) (defScope s_Lattice_staircase) .none kV12 dc12 pm12 an12 cd12 ct12
    F_Lattice_staircase := F12
    b_Lattice_staircase := b12
    a_Lattice_staircase := ⟨a12, i12, k12⟩
    f_Lattice_contains := f13
    d_Lattice_contains := PySem.W.fnOf "__contains__" "Lattice.__contains__" (defArgs s_Lattice_contains) (defBody s_Lattice_contains) (defScope s_Lattice_contains) .none kV13 dc13 pm13 an13 cd13 ct13
    F_Lattice_contains := F13
    b_Lattice_contains := b13
    a_Lattice_contains := ⟨a13, i13, k13⟩
    f_Lattice_eq := f14
    d_Lattice_eq := PySem.W.fnOf "__eq__" "Lattice.__eq__" (defArgs s_Lattice_eq) (defBody s_Lattice_eq) (defScope s_Lattice_eq) .none kV14 dc14 pm14 an14 cd14 ct14
    F_Lattice_eq := F14
    b_Lattice_eq := b14
    a_Lattice_eq := ⟨a14, i14, k14⟩
    f_Lattice_len := f15
    d_Lattice_len := PySem.W.fnOf "__len__" "Lattice.__len__" (defArgs s_Lattice_len) (defBody s_Lattice_len) (defScope s_Lattice_len) .none kV15 dc15 pm15 an15 cd15 ct15
    F_Lattice_len := F15
    b_Lattice_len := b15
    a_Lattice_len := ⟨a15, i15, k15⟩
    f_Lattice_bool := f16
    d_Lattice_bool := PySem.W.fnOf "__bool__" "Lattice.__bool__" (defArgs s_Lattice_bool) (defBody s_Lattice_bool) (defScope s_Lattice_bool) .none kV16 dc16 pm16 an16 cd16 ct16
    F_Lattice_bool := F16
    b_Lattice_bool := b16
    a_Lattice_bool := ⟨a16, i16, k16⟩
    f_l_start := f17
    d_l_start := PySem.W.fnOf "_law_start" "_law_start" (defArgs s_l_start) (defBody s_l_start) (defScope s_l_start) .none kV17 dc17 pm17 an17 cd17 ct17
    F_l_start := F17
    b_l_start := b17
    m_l_start := PySem.W.mg_of X G a17
    f_l_pull := f18
    d_l_pull := PySem.W.fnOf "_law_pull" "_law_pull" (defArgs s_l_pull) (defBody s_l_pull) (defScope s_l_pull) .none kV18 dc18 pm18 an18 cd18 ct18
    F_l_pull := F18
    b_l_pull := b18
    m_l_pull := PySem.W.mg_of X G a18
    f_l_pick := f19
    d_l_pick := PySem.W.fnOf "_law_pick" "_law_pick" (defArgs s_l_pick) (defBody s_l_pick) (defScope s_l_pick) .none kV19 dc19 pm19 an19 cd19 ct19
    F_l_pick := F19
    b_l_pick := b19
    m_l_pick := PySem.W.mg_of X G a19
    f_l_order := f20
    d_l_order := PySem.W.fnOf "_law_order" "_law_order" (defArgs s_l_order) (defBody s_l_order) (defScope s_l_order) .none kV20 dc20 pm20 an20 cd20 ct20
    F_l_order := F20
    b_l_order := b20
    m_l_order := PySem.W.mg_of X G a20
    f_l_same := f21
    d_l_same := PySem.W.fnOf "_law_same" "_law_same" (defArgs s_l_same) (defBody s_l_same) (defScope s_l_same) .none kV21 dc21 pm21 an21 cd21 ct21
    F_l_same := F21
    b_l_same := b21
    m_l_same := PySem.W.mg_of X G a21
    f_l_shuffled := f22
    d_l_shuffled := PySem.W.fnOf "_law_shuffled" "_law_shuffled" (defArgs s_l_shuffled) (defBody s_l_shuffled) (defScope s_l_shuffled) .none kV22 dc22 pm22 an22 cd22 ct22
    F_l_shuffled := F22
    b_l_shuffled := b22
    m_l_shuffled := PySem.W.mg_of X G a22
    f_l_draw_number := f23
    d_l_draw_number := PySem.W.fnOf "_law_draw_number" "_law_draw_number" (defArgs s_l_draw_number) (defBody s_l_draw_number) (defScope s_l_draw_number) .none kV23 dc23 pm23 an23 cd23 ct23
    F_l_draw_number := F23
    b_l_draw_number := b23
    m_l_draw_number := PySem.W.mg_of X G a23
    f_l_stairs := f24
    d_l_stairs := PySem.W.fnOf "_law_stairs" "_law_stairs" (defArgs s_l_stairs) (defBody s_l_stairs) (defScope s_l_stairs) .none kV24 dc24 pm24 an24 cd24 ct24
    F_l_stairs := F24
    b_l_stairs := b24
    m_l_stairs := PySem.W.mg_of X G a24
    f_l_within := f25
    d_l_within := PySem.W.fnOf "_law_within" "_law_within" (defArgs s_l_within) (defBody s_l_within) (defScope s_l_within) .none kV25 dc25 pm25 an25 cd25 ct25
    F_l_within := F25
    b_l_within := b25
    m_l_within := PySem.W.mg_of X G a25
    f_l_lattice := f26
    d_l_lattice := PySem.W.fnOf "_law_lattice" "_law_lattice" (defArgs s_l_lattice) (defBody s_l_lattice) (defScope s_l_lattice) .none kV26 dc26 pm26 an26 cd26 ct26
    F_l_lattice := F26
    b_l_lattice := b26
    m_l_lattice := PySem.W.mg_of X G a26
    f_l_summed := f27
    d_l_summed := PySem.W.fnOf "_law_summed" "_law_summed" (defArgs s_l_summed) (defBody s_l_summed) (defScope s_l_summed) .none kV27 dc27 pm27 an27 cd27 ct27
    F_l_summed := F27
    b_l_summed := b27
    m_l_summed := PySem.W.mg_of X G a27
    f_l_draw_vectors := f28
    d_l_draw_vectors := PySem.W.fnOf "_law_draw_vectors" "_law_draw_vectors" (defArgs s_l_draw_vectors) (defBody s_l_draw_vectors) (defScope s_l_draw_vectors) .none kV28 dc28 pm28 an28 cd28 ct28
    F_l_draw_vectors := F28
    b_l_draw_vectors := b28
    m_l_draw_vectors := PySem.W.mg_of X G a28
    f_l_shapes := f29
    d_l_shapes := PySem.W.fnOf "_law_shapes" "_law_shapes" (defArgs s_l_shapes) (defBody s_l_shapes) (defScope s_l_shapes) .none kV29 dc29 pm29 an29 cd29 ct29
    F_l_shapes := F29
    b_l_shapes := b29
    m_l_shapes := PySem.W.mg_of X G a29
    f_l_right := f30
    d_l_right := PySem.W.fnOf "_law_right" "_law_right" (defArgs s_l_right) (defBody s_l_right) (defScope s_l_right) .none kV30 dc30 pm30 an30 cd30 ct30
    F_l_right := F30
    b_l_right := b30
    m_l_right := PySem.W.mg_of X G a30
    f_l_other_vectors := f31
    d_l_other_vectors := PySem.W.fnOf "_law_other_vectors" "_law_other_vectors" (defArgs s_l_other_vectors) (defBody s_l_other_vectors) (defScope s_l_other_vectors) .none kV31 dc31 pm31 an31 cd31 ct31
    F_l_other_vectors := F31
    b_l_other_vectors := b31
    m_l_other_vectors := PySem.W.mg_of X G a31
    f_l_near_right := f32
    d_l_near_right := PySem.W.fnOf "_law_near_right" "_law_near_right" (defArgs s_l_near_right) (defBody s_l_near_right) (defScope s_l_near_right) .none kV32 dc32 pm32 an32 cd32 ct32
    F_l_near_right := F32
    b_l_near_right := b32
    m_l_near_right := PySem.W.mg_of X G a32
    f_law := fa
    d_law := PySem.W.fnOf "law" "law" (defArgs s_law) (defBody s_law) (defScope s_law) .none kV33 dc33 pm33 an33 cd33 ct33
    F_law := F33
    b_law := b33
    m_law := PySem.W.mg_of X G a33
    sees := sees
    kList := kit_no ic_C_Lattice it_C_Lattice h_kList
    jInt := h_jInt
    jBool := h_jBool
    jList := h_jList
    jStr := h_jStr
    jTuple := h_jTuple
    sList := h_sList
  } ) hP⟩
theorem walk {l : PySem.W.OpenLaw} {q : Program} {loose : List Str} {XP : (Str → Option Value) → Heap → Prop} {YP : World → Heap → Prop} {d : DefRec} {K : Params → PySem.W.Frag} (hn : l.most = some 63) (hdf : d.params.defaults = []) (hq : PyProof.Rows.importsNone q = true)
    (hY : ∀ (w : World) (h : Heap), YP w h → (K w.params).In h)
    (F : ∀ (w : World) (mg : Str → Option Value) (fa : Addr) (h : Heap) (L : PySem.W.Frag), PySem.W.Frag.In (K w.params ++ L) h → h.Ns mainGlobals mg → mg d.name = some (.ref fa) → Sees (K w.params ++ L) mg →
      ∃ fd : FuncData, (∀ (s : Shared) (u : Value), BindsTo s fd ⟨[u], []⟩ [("_law_script", u)]) ∧ ∀ base : Heap, PySem.W.Frag.In (K w.params ++ L) base → base.Ns mainGlobals mg → FnOk l.prog w (K w.params ++ L) mg base CX0 39 fa fd ["_law_script"] (spLaw (K w.params ++ L))) :
    PySem.W.WalkO q loose XP YP l.row.toRowW d [] (fun f vs => PySem.call f vs) :=
  walkS (n := 63) (k := 39) (x := "_law_script") (sp := spLaw) hn (by decide) hdf ⟨rfl, by decide, by decide⟩ hq hY F (fun _ _ a ns hl _ hS => ⟨a, ns, rfl, hS, hl, fun _ => rfl⟩)
end TL
open PySem PySem.W PyProof.Rows
set_option maxRecDepth 100000 in
set_option maxHeartbeats 0 in
theorem PySem.Challenge.cw_turnsleft_k43_whole_staircases_holds : PySem.Challenge.rw_turnsleft_k43_whole_staircases.Holds := by
  w_on; o_law; k_head; (case hw => w_witness2)
  k_fill
  refine TL.walk (l := PySem.Challenge.rw_turnsleft_k43_whole_staircases) rfl rfl (by decide +kernel) (fun w h Y => PySem.W.kIn_of Y) ?F
  case F =>
    intro w mg fa h L KX G hmg S
    refine' TL.all_mk KX G hmg rfl S ?z_len ?z_abs ?z_int ?z_isinstance ?z_list ?z_tuple ?z_bool ?z_str ?z_all ?z_any ?z_zip ?z_range ?z_enumerate ?aC_Lattice ?pg_Lattice ?hd_Lattice ?po_Lattice ?sa_Lattice ?n_Lattice_width ?n_Lattice_vectors ?n_Lattice_stairs ?ca_Lattice ?cm_Lattice ?cn_Lattice ?ct_Lattice ?gi_MOST_WIDTH ?ic_C_Lattice ?it_C_Lattice ?h_kList ?a1 ?l1 ?c1 ?k1 ?a2 ?l2 ?c2 ?k2 ?a3 ?l3 ?c3 ?k3 ?a4 ?l4 ?c4 ?k4 ?a5 ?l5 ?c5 ?k5 ?a6 ?l6 ?c6 ?k6 ?a7 ?l7 ?c7 ?k7 ?a8 ?l8 ?c8 ?k8 ?a9 ?l9 ?c9 ?k9 ?a10 ?l10 ?c10 ?k10 ?a11 ?i11 ?l11 ?c11 ?k11 ?mk_Lattice ?kc_Lattice ?a12 ?i12 ?l12 ?c12 ?k12 ?a13 ?i13 ?l13 ?c13 ?k13 ?a14 ?i14 ?l14 ?c14 ?k14 ?a15 ?i15 ?l15 ?c15 ?k15 ?a16 ?i16 ?l16 ?c16 ?k16 ?a17 ?l17 ?c17 ?k17 ?a18 ?l18 ?c18 ?k18 ?a19 ?l19 ?c19 ?k19 ?a20 ?l20 ?c20 ?k20 ?a21 ?l21 ?c21 ?k21 ?a22 ?l22 ?c22 ?k22 ?a23 ?l23 ?c23 ?k23 ?a24 ?l24 ?c24 ?k24 ?a25 ?l25 ?c25 ?k25 ?a26 ?l26 ?c26 ?k26 ?a27 ?l27 ?c27 ?k27 ?a28 ?l28 ?c28 ?k28 ?a29 ?l29 ?c29 ?k29 ?a30 ?l30 ?c30 ?k30 ?a31 ?l31 ?c31 ?k31 ?a32 ?l32 ?c32 ?k32 ?a33 ?l33 ?c33 ?k33 ?h_jInt ?h_jBool ?h_jList ?h_jStr ?h_jTuple ?h_sList
    (case z_len => exact TL.ns_app (by k_is))
    (case z_abs => exact TL.ns_app (by k_is))
    (case z_int => exact TL.ns_app (by k_is))
    (case z_isinstance => exact TL.ns_app (by k_is))
    (case z_list => exact TL.ns_app (by k_is))
    (case z_tuple => exact TL.ns_app (by k_is))
    (case z_bool => exact TL.ns_app (by k_is))
    (case z_str => exact TL.ns_app (by k_is))
    (case z_all => exact TL.ns_app (by k_is))
    (case z_any => exact TL.ns_app (by k_is))
    (case z_zip => exact TL.ns_app (by k_is))
    (case z_range => exact TL.ns_app (by k_is))
    (case z_enumerate => exact TL.ns_app (by k_is))
    (case aC_Lattice => exact TL.ns_app (by k_is))
    (case pg_Lattice => exact TL.plainGet_app (by k_is))
    (case hd_Lattice => exact TL.hasDict_app (by k_is))
    (case po_Lattice => exact TL.plainOver_app (by k_is))
    (case sa_Lattice => exact TL.find_app (by k_is))
    (case n_Lattice_width => exact TL.find_app (by k_is))
    (case n_Lattice_vectors => exact TL.find_app (by k_is))
    (case n_Lattice_stairs => exact TL.find_app (by k_is))
    (case ca_Lattice => exact TL.find_app (by k_is))
    (case cm_Lattice => exact TL.mro_app (by k_is))
    (case cn_Lattice => exact TL.special_app (by k_is))
    (case ct_Lattice => exact TL.takes_app (by k_is))
    (case gi_MOST_WIDTH => exact TL.ns_app (by k_is))
    (case ic_C_Lattice => exact TL.isCls_app (by k_is))
    (case it_C_Lattice => exact TL.typ_app (by k_is))
    (case h_kList => exact TL.sub_app (by k_is))
    (case a1 => exact TL.ns_app (by k_is))
    (case l1 => exact TL.lk_app (by k_is))
    (case c1 => exact TL.code_app (by k_is))
    (case k1 => exact TL.keepA_app (by k_is))
    (case a2 => exact TL.ns_app (by k_is))
    (case l2 => exact TL.lk_app (by k_is))
    (case c2 => exact TL.code_app (by k_is))
    (case k2 => exact TL.keepA_app (by k_is))
    (case a3 => exact TL.ns_app (by k_is))
    (case l3 => exact TL.lk_app (by k_is))
    (case c3 => exact TL.code_app (by k_is))
    (case k3 => exact TL.keepA_app (by k_is))
    (case a4 => exact TL.ns_app (by k_is))
    (case l4 => exact TL.lk_app (by k_is))
    (case c4 => exact TL.code_app (by k_is))
    (case k4 => exact TL.keepA_app (by k_is))
    (case a5 => exact TL.ns_app (by k_is))
    (case l5 => exact TL.lk_app (by k_is))
    (case c5 => exact TL.code_app (by k_is))
    (case k5 => exact TL.keepA_app (by k_is))
    (case a6 => exact TL.ns_app (by k_is))
    (case l6 => exact TL.lk_app (by k_is))
    (case c6 => exact TL.code_app (by k_is))
    (case k6 => exact TL.keepA_app (by k_is))
    (case a7 => exact TL.ns_app (by k_is))
    (case l7 => exact TL.lk_app (by k_is))
    (case c7 => exact TL.code_app (by k_is))
    (case k7 => exact TL.keepA_app (by k_is))
    (case a8 => exact TL.ns_app (by k_is))
    (case l8 => exact TL.lk_app (by k_is))
    (case c8 => exact TL.code_app (by k_is))
    (case k8 => exact TL.keepA_app (by k_is))
    (case a9 => exact TL.ns_app (by k_is))
    (case l9 => exact TL.lk_app (by k_is))
    (case c9 => exact TL.code_app (by k_is))
    (case k9 => exact TL.keepA_app (by k_is))
    (case a10 => exact TL.ns_app (by k_is))
    (case l10 => exact TL.lk_app (by k_is))
    (case c10 => exact TL.code_app (by k_is))
    (case k10 => exact TL.keepA_app (by k_is))
    (case a11 => exact TL.find_app (by k_is))
    (case i11 => exact TL.isFn_app (by k_is))
    (case l11 => exact TL.lk_app (by k_is))
    (case c11 => exact TL.code_app (by k_is))
    (case k11 => exact TL.keepA_app (by k_is))
    (case mk_Lattice => exact TL.makes_app (by k_is))
    (case kc_Lattice => exact TL.keepA_app (by k_is))
    (case a12 => exact TL.find_app (by k_is))
    (case i12 => exact TL.isFn_app (by k_is))
    (case l12 => exact TL.lk_app (by k_is))
    (case c12 => exact TL.code_app (by k_is))
    (case k12 => exact TL.keepA_app (by k_is))
    (case a13 => exact TL.find_app (by k_is))
    (case i13 => exact TL.isFn_app (by k_is))
    (case l13 => exact TL.lk_app (by k_is))
    (case c13 => exact TL.code_app (by k_is))
    (case k13 => exact TL.keepA_app (by k_is))
    (case a14 => exact TL.find_app (by k_is))
    (case i14 => exact TL.isFn_app (by k_is))
    (case l14 => exact TL.lk_app (by k_is))
    (case c14 => exact TL.code_app (by k_is))
    (case k14 => exact TL.keepA_app (by k_is))
    (case a15 => exact TL.find_app (by k_is))
    (case i15 => exact TL.isFn_app (by k_is))
    (case l15 => exact TL.lk_app (by k_is))
    (case c15 => exact TL.code_app (by k_is))
    (case k15 => exact TL.keepA_app (by k_is))
    (case a16 => exact TL.find_app (by k_is))
    (case i16 => exact TL.isFn_app (by k_is))
    (case l16 => exact TL.lk_app (by k_is))
    (case c16 => exact TL.code_app (by k_is))
    (case k16 => exact TL.keepA_app (by k_is))
    (case a17 => exact TL.ns_app (by k_is))
    (case l17 => exact TL.lk_app (by k_is))
    (case c17 => exact TL.code_app (by k_is))
    (case k17 => exact TL.keepA_app (by k_is))
    (case a18 => exact TL.ns_app (by k_is))
    (case l18 => exact TL.lk_app (by k_is))
    (case c18 => exact TL.code_app (by k_is))
    (case k18 => exact TL.keepA_app (by k_is))
    (case a19 => exact TL.ns_app (by k_is))
    (case l19 => exact TL.lk_app (by k_is))
    (case c19 => exact TL.code_app (by k_is))
    (case k19 => exact TL.keepA_app (by k_is))
    (case a20 => exact TL.ns_app (by k_is))
    (case l20 => exact TL.lk_app (by k_is))
    (case c20 => exact TL.code_app (by k_is))
    (case k20 => exact TL.keepA_app (by k_is))
    (case a21 => exact TL.ns_app (by k_is))
    (case l21 => exact TL.lk_app (by k_is))
    (case c21 => exact TL.code_app (by k_is))
    (case k21 => exact TL.keepA_app (by k_is))
    (case a22 => exact TL.ns_app (by k_is))
    (case l22 => exact TL.lk_app (by k_is))
    (case c22 => exact TL.code_app (by k_is))
    (case k22 => exact TL.keepA_app (by k_is))
    (case a23 => exact TL.ns_app (by k_is))
    (case l23 => exact TL.lk_app (by k_is))
    (case c23 => exact TL.code_app (by k_is))
    (case k23 => exact TL.keepA_app (by k_is))
    (case a24 => exact TL.ns_app (by k_is))
    (case l24 => exact TL.lk_app (by k_is))
    (case c24 => exact TL.code_app (by k_is))
    (case k24 => exact TL.keepA_app (by k_is))
    (case a25 => exact TL.ns_app (by k_is))
    (case l25 => exact TL.lk_app (by k_is))
    (case c25 => exact TL.code_app (by k_is))
    (case k25 => exact TL.keepA_app (by k_is))
    (case a26 => exact TL.ns_app (by k_is))
    (case l26 => exact TL.lk_app (by k_is))
    (case c26 => exact TL.code_app (by k_is))
    (case k26 => exact TL.keepA_app (by k_is))
    (case a27 => exact TL.ns_app (by k_is))
    (case l27 => exact TL.lk_app (by k_is))
    (case c27 => exact TL.code_app (by k_is))
    (case k27 => exact TL.keepA_app (by k_is))
    (case a28 => exact TL.ns_app (by k_is))
    (case l28 => exact TL.lk_app (by k_is))
    (case c28 => exact TL.code_app (by k_is))
    (case k28 => exact TL.keepA_app (by k_is))
    (case a29 => exact TL.ns_app (by k_is))
    (case l29 => exact TL.lk_app (by k_is))
    (case c29 => exact TL.code_app (by k_is))
    (case k29 => exact TL.keepA_app (by k_is))
    (case a30 => exact TL.ns_app (by k_is))
    (case l30 => exact TL.lk_app (by k_is))
    (case c30 => exact TL.code_app (by k_is))
    (case k30 => exact TL.keepA_app (by k_is))
    (case a31 => exact TL.ns_app (by k_is))
    (case l31 => exact TL.lk_app (by k_is))
    (case c31 => exact TL.code_app (by k_is))
    (case k31 => exact TL.keepA_app (by k_is))
    (case a32 => exact TL.ns_app (by k_is))
    (case l32 => exact TL.lk_app (by k_is))
    (case c32 => exact TL.code_app (by k_is))
    (case k32 => exact TL.keepA_app (by k_is))
    (case a33 => exact TL.ns_app (by k_is))
    (case l33 => exact TL.lk_app (by k_is))
    (case c33 => exact TL.code_app (by k_is))
    (case k33 => exact TL.keepA_app (by k_is))
    (case h_jInt => exact TL.mro_app (by first | rfl | k_is))
    (case h_jBool => exact TL.mro_app (by first | rfl | k_is))
    (case h_jList => exact TL.mro_app (by first | rfl | k_is))
    (case h_jStr => exact TL.mro_app (by first | rfl | k_is))
    (case h_jTuple => exact TL.mro_app (by first | rfl | k_is))
    (case h_sList => exact TL.sub_app (by first | rfl | k_is))
