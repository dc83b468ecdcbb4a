import PyProof.Rows.All
import Wide.All
import OpenK.AllK
import Wide.FinOn
import HandS.ForMost
import HandS.OwnEq
import HandS.SlotsOwn
import KE.KOpsOwn
import PyProof.ListMulAny
import PyProof.ConsumeWalk
import PyProof.WalksMore
import HandS.IsInst
import HandS.Wide
import HandS.Zip
import HandS.Defaults
import HandS.Walk
import KE.BitLaws
import HandS.ForExc
import HandS.ExcInit
import HandS.ExcIs
import HandS.ExcField
import HandS.ExcOwn
import HandS.Star
import HandS.Words
import HandS.TryMany
import KE.KTryMore
import HandS.Lambda
import HandS.HotCalls
import KE.KExcInit
import PyProof.InstEq
import KE.KFmtOwn
import KE.KCallOwn
import HandS.ClsMeth
import HandS.MakeKwOnly
import HandS.List
import PyProof.WalkInts
import KE.KIsAll
import HandS.RevRange
import HandS.Conv
import HandS.WideBits
import HandS.Style
import HandS.ExcInitHot
import PySem.Challenge.RW_turnsleft_k00_errors_by_themselves
set_option Elab.async false
set_option linter.all false
set_option maxRecDepth 100000
namespace TL
open PySem PySem.Spec PyProof.Rows L2
section
variable {X : Cx} {pins : List (Addr × Obj)} {σ : L2.St} {H : Hp} {s : Shared} {a b C dx dy f : Addr} {fs gs : List (Str × V)} {k : Nat} {fd : FuncData} {ps : List Str} {sp : Sp} {CX : CXT} {E : XK}
/-- what an own operator's def asks: the def that stands at f in the class at C under a name -/
structure OpAt (K : PySem.W.Frag) (C f : Addr) (name : Str) : Prop where
  sf : PySem.W.selfFirst K C = true
  at_ : PySem.W.findIn K (.ref C) name = some (some (.ref f))
  fn : PySem.W.isFn K (.ref f) = true
end
end TL
namespace TL
open PySem L2
/-! ### heaps -/
theorem Same.new {H : Hp} {p : Addr} {o : HO} (h : H p = none) : Same H (upd H p o) := fun b u q => by rw [upd_ne (ne_of_none q h)]; exact q
theorem seqT {K : PySem.W.Frag} {H H' : Hp} {a : Addr} {xs : List V} (e : Same H H') (h : SqT K H a xs) : SqT K H' a xs := by
  rcases h with (h | ⟨o, h⟩) | h
  · exact .inl (.inl (e _ _ h))
  · exact .inl (.inr ⟨o, e _ _ h⟩)
  · exact .inr h
/-- but for what stands at g, all that was tracked is as it was -/
def Kb (g : Addr) (H H' : Hp) : Prop := ∀ a o, H a = some o → a ≠ g → H' a = some o
theorem Kb.refl (g : Addr) (H : Hp) : Kb g H H := fun _ _ h _ => h
theorem Kb.trans {g : Addr} {H H1 H2 : Hp} (a : Kb g H H1) (b : Kb g H1 H2) : Kb g H H2 := fun c o h n => b c o (a c o h n) n
theorem Kb.same {g : Addr} {H H' : Hp} (a : Same H H') : Kb g H H' := fun c o h _ => a c o h
theorem Kb.at {g : Addr} {H : Hp} {o : HO} : Kb g H (upd H g o) := fun c u h n => by rw [upd_ne n]; exact h
theorem Kb.new {g p : Addr} {H H' : Hp} {o : HO} (a : Kb g H H') (h : H' p = none) : Kb g H (upd H' p o) := a.trans (Kb.same (Same.new h))
theorem tyx_L {K : PySem.W.Frag} {H : Hp} {a : Addr} {xs : List V} (h : SqL K H a xs) : TyX K H (.ref a) (.type "list") := by
  rcases h with (h | ⟨o, h⟩) | ⟨o, its, n, h, c, _⟩
  · exact .base (.lst h)
  · exact .base (.frz h)
  · exact .kList h c
theorem tyx_T {K : PySem.W.Frag} {H : Hp} {a : Addr} {xs : List V} (h : SqT K H a xs) : TyX K H (.ref a) (.type "tuple") := by
  rcases h with (h | ⟨o, h⟩) | ⟨o, its, n, h, c, _⟩
  · exact .base (.tup h)
  · exact .fTuple h
  · exact .kTuple h c
theorem fm {i j : Int} (h : 0 < j) : 0 ≤ i.fmod j ∧ i.fmod j < j := ⟨Int.fmod_nonneg_of_pos _ h, Int.fmod_lt_of_pos _ h⟩
theorem kt_int_list {K : PySem.W.Frag} : PySem.W.kitOne K (.type "int") (.type "list") = some false := kit_ty (by decide +kernel)
theorem kt_int_tuple {K : PySem.W.Frag} : PySem.W.kitOne K (.type "int") (.type "tuple") = some false := kit_ty (by decide +kernel)
theorem kt_int_bool {K : PySem.W.Frag} : PySem.W.kitOne K (.type "int") (.type "bool") = some false := kit_ty (by decide +kernel)
theorem kt_int_int {K : PySem.W.Frag} : PySem.W.kitOne K (.type "int") (.type "int") = some true := kit_ty (by decide +kernel)
theorem kt_int_str {K : PySem.W.Frag} : PySem.W.kitOne K (.type "int") (.type "str") = some false := kit_ty (by decide +kernel)
theorem kt_bool_list {K : PySem.W.Frag} : PySem.W.kitOne K (.type "bool") (.type "list") = some false := kit_ty (by decide +kernel)
theorem kt_bool_tuple {K : PySem.W.Frag} : PySem.W.kitOne K (.type "bool") (.type "tuple") = some false := kit_ty (by decide +kernel)
theorem kt_bool_bool {K : PySem.W.Frag} : PySem.W.kitOne K (.type "bool") (.type "bool") = some true := kit_ty (by decide +kernel)
theorem kt_bool_int {K : PySem.W.Frag} : PySem.W.kitOne K (.type "bool") (.type "int") = some true := kit_ty (by decide +kernel)
theorem kt_bool_str {K : PySem.W.Frag} : PySem.W.kitOne K (.type "bool") (.type "str") = some false := kit_ty (by decide +kernel)
theorem kt_str_list {K : PySem.W.Frag} : PySem.W.kitOne K (.type "str") (.type "list") = some false := kit_ty (by decide +kernel)
theorem kt_str_tuple {K : PySem.W.Frag} : PySem.W.kitOne K (.type "str") (.type "tuple") = some false := kit_ty (by decide +kernel)
theorem kt_str_bool {K : PySem.W.Frag} : PySem.W.kitOne K (.type "str") (.type "bool") = some false := kit_ty (by decide +kernel)
theorem kt_str_int {K : PySem.W.Frag} : PySem.W.kitOne K (.type "str") (.type "int") = some false := kit_ty (by decide +kernel)
theorem kt_str_str {K : PySem.W.Frag} : PySem.W.kitOne K (.type "str") (.type "str") = some true := kit_ty (by decide +kernel)
theorem kt_NoneType_list {K : PySem.W.Frag} : PySem.W.kitOne K (.type "NoneType") (.type "list") = some false := kit_ty (by decide +kernel)
theorem kt_NoneType_tuple {K : PySem.W.Frag} : PySem.W.kitOne K (.type "NoneType") (.type "tuple") = some false := kit_ty (by decide +kernel)
theorem kt_NoneType_bool {K : PySem.W.Frag} : PySem.W.kitOne K (.type "NoneType") (.type "bool") = some false := kit_ty (by decide +kernel)
theorem kt_NoneType_int {K : PySem.W.Frag} : PySem.W.kitOne K (.type "NoneType") (.type "int") = some false := kit_ty (by decide +kernel)
theorem kt_NoneType_str {K : PySem.W.Frag} : PySem.W.kitOne K (.type "NoneType") (.type "str") = some false := kit_ty (by decide +kernel)
theorem kt_list_list {K : PySem.W.Frag} : PySem.W.kitOne K (.type "list") (.type "list") = some true := kit_ty (by decide +kernel)
theorem kt_list_tuple {K : PySem.W.Frag} : PySem.W.kitOne K (.type "list") (.type "tuple") = some false := kit_ty (by decide +kernel)
theorem kt_list_bool {K : PySem.W.Frag} : PySem.W.kitOne K (.type "list") (.type "bool") = some false := kit_ty (by decide +kernel)
theorem kt_list_int {K : PySem.W.Frag} : PySem.W.kitOne K (.type "list") (.type "int") = some false := kit_ty (by decide +kernel)
theorem kt_list_str {K : PySem.W.Frag} : PySem.W.kitOne K (.type "list") (.type "str") = some false := kit_ty (by decide +kernel)
theorem kt_tuple_list {K : PySem.W.Frag} : PySem.W.kitOne K (.type "tuple") (.type "list") = some false := kit_ty (by decide +kernel)
theorem kt_tuple_tuple {K : PySem.W.Frag} : PySem.W.kitOne K (.type "tuple") (.type "tuple") = some true := kit_ty (by decide +kernel)
theorem kt_tuple_bool {K : PySem.W.Frag} : PySem.W.kitOne K (.type "tuple") (.type "bool") = some false := kit_ty (by decide +kernel)
theorem kt_tuple_int {K : PySem.W.Frag} : PySem.W.kitOne K (.type "tuple") (.type "int") = some false := kit_ty (by decide +kernel)
theorem kt_tuple_str {K : PySem.W.Frag} : PySem.W.kitOne K (.type "tuple") (.type "str") = some false := kit_ty (by decide +kernel)
def rLenSq (K : PySem.W.Frag) : List V → Hp → VK → Prop := fun xs H Q => ∃ p ys, xs = [.ref p] ∧ (SqL K H p ys ∨ SqT K H p ys) ∧ Q (.int ys.length) H
def rListOf (K : PySem.W.Frag) : List V → Hp → VK → Prop := fun xs H Q => ∃ p ys, xs = [.ref p] ∧ (SqL K H p ys ∨ SqT K H p ys) ∧ ∀ l, H l = none → Q (.ref l) (upd H l (.lst ys))
/-- a list or a tuple -/
def Sq (K : PySem.W.Frag) (H : Hp) (a : Addr) (xs : List V) : Prop := SqL K H a xs ∨ SqT K H a xs
theorem Sq.same {K : PySem.W.Frag} {H H' : Hp} {a : Addr} {xs : List V} (h : Sq K H a xs) (s : Same H H') : Sq K H' a xs := h.elim (fun q => .inl (s.seq q)) fun q => .inr (seqT s q)
theorem seqL_ins {K : PySem.W.Frag} {H : Hp} {a p C dx : Addr} {fs : List (Str × V)} {o : HO} {xs : List V} (hp : H p = some (.ins C dx fs)) (h : SqL K H a xs) : SqL K (upd H p o) a xs := by
  rcases h with (h | ⟨u, h⟩) | h
  · exact .inl (.inl (by rw [upd_ne (ne_of h hp (by intro z; cases z))]; exact h))
  · exact .inl (.inr ⟨u, by rw [upd_ne (ne_of h hp (by intro z; cases z))]; exact h⟩)
  · exact .inr h
theorem seqT_ins {K : PySem.W.Frag} {H : Hp} {a p C dx : Addr} {fs : List (Str × V)} {o : HO} {xs : List V} (hp : H p = some (.ins C dx fs)) (h : SqT K H a xs) : SqT K (upd H p o) a xs := by
  rcases h with (h | ⟨u, h⟩) | h
  · exact .inl (.inl (by rw [upd_ne (ne_of h hp (by intro z; cases z))]; exact h))
  · exact .inl (.inr ⟨u, by rw [upd_ne (ne_of h hp (by intro z; cases z))]; exact h⟩)
  · exact .inr h
theorem Sq.ins {K : PySem.W.Frag} {H : Hp} {a p C dx : Addr} {fs : List (Str × V)} {o : HO} {xs : List V} (h : Sq K H a xs) (hp : H p = some (.ins C dx fs)) : Sq K (upd H p o) a xs := h.elim (fun q => .inl (seqL_ins hp q)) fun q => .inr (seqT_ins hp q)
/-! ### a statement, then the rest, with a word between them -/
def tCut (t u : TS) : TS := fun D σ H => ∃ Mid : L2.St → Hp → Prop, t { D with nx := Mid } σ H ∧ ∀ σ' H', Mid σ' H' → u D σ' H'
theorem pss_cut {X : Cx} {st : Stmt} {rest : List Stmt} {t u : TS} (h1 : PS X st t) (h2 : PSs X rest u) : PSs X (st :: rest) (tCut t u) := by
  refine ⟨fun pins s σ H D I h => ?_⟩
  obtain ⟨Mid, hm, hu⟩ := h
  refine wpAny_execs_cons (thn (h1.run pins s σ H { D with nx := Mid } I hm) fun f s1 q => ?_)
  cases f with
  | next =>
    obtain ⟨σ', H', I', q⟩ := q
    exact h2.run pins s1 σ' H' D I' (hu σ' H' q)
  | ret v => exact q
  | brk => exact q
  | cont => exact q
/-! ### the law's bag: the cells, how many were taken, the rest of a great cell, a mixed number, a count -/
structure Bg where
  b : Addr
  L : Addr
  ns : List Int
structure Bag (B : Bg) (H : Hp) : Prop where
  ex : ∃ (i r s c : Int), H B.b = some (.lst [.ref B.L, .int i, .int r, .int s, .int c]) ∧ 0 ≤ i ∧ 0 ≤ r ∧ 0 ≤ s ∧ s < 2147483648
  cells : H B.L = some (.lst (B.ns.map V.int))
  ne : B.L ≠ B.b
theorem Bag.same {B : Bg} {H H' : Hp} (h : Bag B H) (s : Same H H') : Bag B H' := by
  obtain ⟨i, r, z, c, h1, h2⟩ := h.ex
  exact ⟨⟨i, r, z, c, s _ _ h1, h2⟩, s _ _ h.cells, h.ne⟩
theorem Bag.nb {B : Bg} {H : Hp} {p : Addr} (h : Bag B H) (hp : H p = none) : p ≠ B.b := by
  obtain ⟨i, r, z, c, h1, h2⟩ := h.ex
  exact Ne.symm (ne_of_none h1 hp)
theorem Bag.nL {B : Bg} {H : Hp} {p : Addr} (h : Bag B H) (hp : H p = none) : p ≠ B.L := Ne.symm (ne_of_none h.cells hp)
theorem Bag.upd {B : Bg} {H : Hp} {p : Addr} {o : HO} (h : Bag B H) (h1 : p ≠ B.b) (h2 : p ≠ B.L) : Bag B (L2.upd H p o) := by
  obtain ⟨i, r, z, c, e1, e2⟩ := h.ex
  exact ⟨⟨i, r, z, c, by rw [upd_ne (Ne.symm h1)]; exact e1, e2⟩, by rw [upd_ne (Ne.symm h2)]; exact h.cells, h.ne⟩
theorem Bag.new {B : Bg} {H : Hp} {p : Addr} {o : HO} (h : Bag B H) (hp : H p = none) : Bag B (L2.upd H p o) := h.upd (h.nb hp) (h.nL hp)
/-! ### comprehensions: what each turn gives is known (Same), or only bounded, while the bag changes (Kb) -/
section
variable {J : It} {n : Nat} {G : Hp → Prop} {Y : Nat → Hp → V → Hp → Prop} {K : PySem.W.Frag} {a b D : Addr} {xs ys : List V} {g : TG} {te : TE} {vs : List Nat} {σ : L2.St} {H0 : Hp} {Qd : Hp → Prop} {j : Nat}
theorem take_app {ys : List V} {i : Nat} {y : V} (h : ys[i]? = some y) : ys.take i ++ [y] = ys.take (i + 1) := by
  rw [List.take_add_one, h]
  rfl
/-- what is to be shown of a comprehension -/
def LcGoal (J : It) (g : TG) (te : TE) (vs : List Nat) (σ : L2.St) (H0 : Hp) (D : Addr) (Qd : Hp → Prop) : Prop :=
  ∃ W : Nat → Nat → Hp → Prop, (∃ m, W 0 m (upd H0 D (.lst []))) ∧ ∀ i m H, W i m H →
      (J.stop i H ∧ Qd H) ∨ (J.go i H ∧ ∃ Nx : Hp → Prop, (∀ H', Nx H' → ∃ m', m' < m ∧ W (i + 1) m' H') ∧ ∀ x H', J.yld i H x H' → g x (wipe σ vs) H' fun σ2 H2 => wipe σ2 vs = wipe σ vs ∧ tYes σ2 H2 fun b H3 =>
        if b = true then te σ2 H3 fun y H4 => ∃ acc, H4 D = some (.lst acc) ∧ acc.length < sizeLine ∧ Nx (upd H4 D (.lst (acc ++ [y]))) else Nx H3)
theorem lcm (w : Walk J n G Y) (ys : List V) (hn : ys.length = n) (hz : n ≤ 100000) (hD : H0 D = none) (hG : ∀ H, Same H0 H → G H)
    (hs : ∀ i y x H H', i < n → ys[i]? = some y → Same H0 H → Y i H x H' → ∀ k : VK, (∀ H4, Same H H4 → k y H4) → g x (wipe σ vs) H' fun σ2 H2 => wipe σ2 vs = wipe σ vs ∧ te σ2 H2 k)
    (hd : ∀ H, Same H0 H → H D = some (.lst ys) → Qd H) : LcGoal J g te vs σ H0 D Qd := by
  refine lc_it w (fun i H => Same H0 H ∧ H D = some (.lst (ys.take i))) ⟨Same.new hD, upd_same⟩ (fun i H _ h => hG H h.1) (fun i x H H' hi h hy => ?_) (fun H h => ?_)
  · have hi2 : i < ys.length := by omega
    refine hs i ys[i] x H H' hi (List.getElem?_eq_getElem hi2) h.1 hy _ fun H4 s4 => ⟨ys.take i, s4 _ _ h.2, ?_, fun c u q => ?_, ?_⟩
    · refine Nat.lt_of_le_of_lt (Nat.le_trans (List.length_take_le' _ _) (by omega : ys.length ≤ 100000)) (by decide)
    · rw [upd_ne (ne_of_none q hD)]
      exact s4 _ _ (h.1 _ _ q)
    · rw [upd_same, take_app (List.getElem?_eq_getElem hi2)]
  · refine hd H h.1 ?_
    rw [h.2, ← hn, List.take_length]
end
theorem walk_zipT {K : PySem.W.Frag} {a b : Addr} {xs ys : List V} {n : Nat} (hn : n = min xs.length ys.length) : Walk (RZ.ItzT K a b) n (fun H => SqT K H a xs ∧ SqT K H b ys) (YPair (fun i => xs[i]?) (fun i => ys[i]?)) := by
  subst hn
  refine ⟨fun i _ hi q => ?_, fun _ q => ⟨xs, ys, q.1, q.2, by omega⟩, fun i H v H' _ q y => ?_⟩
  · have h1 : i < xs.length := by omega
    have h2 : i < ys.length := by omega
    exact ⟨xs, ys, xs[i], ys[i], q.1, q.2, by simp [h1], by simp [h2]⟩
  · obtain ⟨T, x, z, h1, h2, h3, h4, h5⟩ := y
    exact ⟨T, x, z, h1, h2, h3, h4 xs q.1, h5 ys q.2⟩
theorem ite_dec {p A B : Prop} [Decidable p] (h : p) (q : A) : if decide p = true then A else B := by
  rw [decide_eq_true h]
  exact q
theorem all_rep (n : Nat) : (List.replicate n true).all id = true := by
  rw [List.all_eq_true]
  intro x hx
  rw [(List.mem_replicate.mp hx).2]
  rfl
theorem rep_get {n i : Nat} {x y : V} (h : (List.replicate n x)[i]? = some y) : y = x := (List.mem_replicate.mp (List.mem_of_getElem? h)).2
/-! ### whole data: lists and tuples of whole numbers -/
theorem seqT_kb {K : PySem.W.Frag} {H H' : Hp} {b a : Addr} {zs xs : List V} (hb : H b = some (.lst zs)) (k : Kb b H H') (h : SqT K H a xs) : SqT K H' a xs := by
  rcases h with (h | ⟨u, h⟩) | h
  · exact .inl (.inl (k _ _ h (ne_of h hb (by intro z; cases z))))
  · exact .inl (.inr ⟨u, k _ _ h (ne_of h hb (by intro z; cases z))⟩)
  · exact .inr h
section
variable {J : It} {n : Nat} {G : Hp → Prop} {Y : Nat → Hp → V → Hp → Prop} {D : Addr} {g : TG} {te : TE} {vs : List Nat} {σ : L2.St} {H0 : Hp} {Qd : Hp → Prop}
end
end TL
namespace TL
theorem iteT' {A B : Prop} {c : Bool} (e : c = true) (h : A) : if c = true then A else B := by
  rw [e]
  exact h
theorem iteF' {A B : Prop} {c : Bool} (e : c = false) (h : B) : if c = true then A else B := by
  rw [e]
  exact h
end TL
namespace TL
open PySem PySem.Spec PyProof.Rows L2
/-! ### own errors whose __init__ takes nothing -/
section
variable {X : Cx} {p pos : Pos}
end
/-! ### isinstance of a caught error that has its own dict -/
end TL
namespace PySem.W
open PySem PySem.Spec PySem.Calls PyProof.Rows
section
variable {prog : Program} {w : World} {A : Around} {E : Value → Shared → Prop} {s : Shared} {K : Frag} {x D : Addr} {ox : Obj} {od : Option Obj}
theorem findObj_dataA {C : Addr} {name : Str} {a g : Value} (hc : (clsIn K C).isSome = true) (ha : findIn K (.ref C) name = some (some a)) (hg : specialIn K a "__get__" = some (some g)) (ht : takesIn K a = some true) : findObj K C od name = some (.bind g a) := by
  cases od with
  | none => exact findObj_dataN hc ha hg ht
  | some o => exact findObj_data hc ha hg ht
theorem kin_classA {Q : Option Value → Shared → Prop} (hga : findIn K (.ref D) "__getattribute__" = some (some (.builtin "BaseException.__getattribute__"))) (hgt : findIn K (.ref D) "__getattr__" = some none) (hsub : subIn K (.ref D) (.type "BaseException") = some true)
    (hdct : hasDictIn K D = true) (ha : findIn K (.ref D) "__class__" = some (some (.builtin "object.__class__")))
    (hn : specialIn K (.builtin "object.__class__") "__get__" = some (some (.builtin "getset_descriptor.__get__"))) (htk : takesIn K (.builtin "object.__class__") = some true) (hm : mroIn K D (.type "object") = some true)
    (X : K.In s.heap) (I : InstAt s.heap x ox D od) (h : Q (some (.ref D)) { s with toks := s.toks + 1 }) : wpAny (model prog w) A (getAttr? (.ref x) "__class__") Q E s := by
  have hf : findObj K D od "__class__" = some (.bind (.builtin "getset_descriptor.__get__") (.builtin "object.__class__")) := findObj_dataA (by obtain ⟨cd, hc, _⟩ := any_some hdct; rw [hc]; rfl) ha hn htk
  obtain ⟨hp, g, d, t, os⟩ := s
  have L0 := I.type (M := model prog w)
  have L1 := looks_findIn (M := model prog w) X hga
  have L2 := looks_findIn (M := model prog w) X hgt
  have L3 := looks_find (M := model prog w) X I hf
  have sub : Looks (model prog w) hp (isInstance (.ref x) (.type "BaseException")) true := L0.andThen (looks_subIn X hsub)
  have hx0 : (false && onTheHeap (Value.builtin "BaseException.__getattribute__")) = false := rfl
  have hx2 : (Value.builtin "BaseException.__getattribute__" == Value.builtin "object.__getattribute__") = false := by decide +kernel
  have hx1 : (onTheHeap (Value.ref D) && Value.builtin "BaseException.__getattribute__" == Value.builtin "object.__getattribute__") = false := by rw [hx2]; rfl
  unfold getAttr? getAttrBy? getAttrBy
  refine wpAny_bind (wpAny_mkText (wpAny_bind (wpAny_attempt (wpAny_holding (wpAny_bind (L0.at (wpAny_bind (L1.at ?_))))))))
  show wpAny _ _ (if (onTheHeap (Value.ref D) && Value.builtin "BaseException.__getattribute__" == Value.builtin "object.__getattribute__") = true then _ else _) _ _ _
  rw [hx1, if_neg Bool.false_ne_true]
  unfold getAttrByItsOwn hookBefore
  refine wpAny_bind ?_
  rw [if_pos (show onTheHeap (Value.ref D) = true from rfl)]
  refine L2.at ?_
  refine wpAny_bind (wpAny_attempt (wpAny_holding ?_))
  unfold callGetattribute
  rw [hx0, if_neg Bool.false_ne_true]
  unfold boundAndCalled
  rw [PySem.F.excAttr_ValueError.ga.bind (.ref x)]
  refine wpAny_bind (wpAny_pure ?_)
  show wpAny _ _ (call (.builtin "BaseException.__getattribute__") [.ref x, .str "__class__" t]) _ _ _
  refine wpAny_call (codeAny_call_builtin PySem.F.excAttr_ValueError.ga.plain PySem.F.entry_bexc_ga ?_)
  refine @check_slot (model prog w) _ _ ⟨hp, g, d, t + 1, os⟩ "BaseException.__getattribute__" "BaseException" "__getattribute__" (.ref x) [.str "__class__" t] [] _ (by decide +kernel) (by decide +kernel) sub (PySem.F.args_bexc_ga (.ref x) (.str "__class__" t)) ?_
  unfold Builtin.«object.__getattribute__»
  refine wpAny_bind (wpAny_of_eq (a := ((Value.ref x : Value), [Value.str "__class__" t])) (by first | rfl | (simp only [slotArgs]; rfl)) ?_)
  refine wpAny_bind (wpAny_pure (wpAny_bind (L0.at (wpAny_bind (L3.at ?_)))))
  show wpAny _ _ (holding [Value.builtin "object.__class__"] (call (.builtin "getset_descriptor.__get__") [.builtin "object.__class__", .ref x, .ref D]) >>= ret) _ _ _
  refine wpAny_bind (wpAny_holding (wpAny_call (class_get (s := ⟨hp, g, d, t + 1, os⟩) (ox := ox) (od := od) X I hm ?_)))
  refine wpAny_pure ?_
  show wpAny _ _ (handedOut (.ref D)) _ _ _
  rw [handedOut_of (v := .ref D) rfl]
  first
    | exact wpAny_pure (wpAny_pure h)
    | exact wpAny_pure h
    | exact wpAny_pure (wpAny_bind (wpAny_pure (wpAny_pure h)))
theorem kitx_excA (hga : findIn K (.ref D) "__getattribute__" = some (some (.builtin "BaseException.__getattribute__"))) (hgt : findIn K (.ref D) "__getattr__" = some none) (hsub : subIn K (.ref D) (.type "BaseException") = some true) (hdct : hasDictIn K D = true) (ha : findIn K (.ref D) "__class__" = some (some (.builtin "object.__class__")))
    (hn : specialIn K (.builtin "object.__class__") "__get__" = some (some (.builtin "getset_descriptor.__get__"))) (htk : takesIn K (.builtin "object.__class__") = some true) (hm : mroIn K D (.type "object") = some true) :
    KitX K (.ref x) (.ref D) (fun h => ∃ od, InstAt h x ox D od) where
  ty := fun _ _ _ ⟨_, I⟩ => I.type
  it := fun _ _ X _ => by
    obtain ⟨cdD, hcD, _⟩ := any_some hdct
    unfold clsIn at hcD
    split at hcD
    · rename_i c' d' cd' sl' ho
      intro A' Q' E' s' k q
      unfold isType loadHead
      exact wpAny_bind (wpAny_loadPart (k _ _ (X _ _ ho)) (wpAny_pure q))
    · cases hcD
  ne := fun h tp dd its n sl X htp => by
    obtain ⟨cdD, hcD, _⟩ := any_some hdct
    refine Bool.eq_false_iff.mpr fun q => ?_
    have e : D = tp := Value.ref.inj (beq_iff_eq.mp q)
    subst e
    unfold clsIn at hcD
    split at hcD
    · rename_i c' d' cd' sl' ho
      have z := (X _ _ ho).symm.trans htp
      cases z
    · cases hcD
  ca := fun X ⟨_, I⟩ k => kin_classA hga hgt hsub hdct ha hn htk hm X I k
end
end PySem.W
namespace TL
open PySem PySem.Spec PyProof.Rows L2
/-! ### xs[a:b] = ys, ys another list -/
/-! ### an error that tells nothing but its code -/
end TL
namespace TL
open PySem PySem.Spec PyProof.Rows L2
section
variable {X : Cx} {pins : List (Addr × Obj)} {σ : L2.St} {H : Hp} {s : Shared} {a b C dx dy f : Addr} {fs gs : List (Str × V)} {k : Nat} {fd : FuncData} {ps : List Str} {sp : Sp} {CX : CXT} {E : XK}
end
/-! ### a call sees a part of the heap alone: the rest stays, and nothing of it comes into what is told -/
open Classical in
/-- the heap without the addresses of D -/
noncomputable def cutH (D : Addr → Prop) (H : Hp) : Hp := fun b => if D b then none else H b
open Classical in
/-- the heap H' with the objects of H at the addresses of D -/
noncomputable def joinH (D : Addr → Prop) (H H' : Hp) : Hp := fun b => if D b then H b else H' b
section
variable {D : Addr → Prop} {H H' : Hp} {b : Addr} {o : HO}
theorem cutH_in (h : D b) : cutH D H b = none := if_pos h
theorem cutH_out (h : ¬ D b) : cutH D H b = H b := if_neg h
theorem joinH_in (h : D b) : joinH D H H' b = H b := if_pos h
theorem joinH_out (h : ¬ D b) : joinH D H H' b = H' b := if_neg h
theorem cutH_some (h : cutH D H b = some o) : ¬ D b ∧ H b = some o := by
  by_cases d : D b
  · rw [cutH_in d] at h
    cases h
  · rw [cutH_out d] at h
    exact ⟨d, h⟩
theorem joinH_none (z : ∀ c, D c → H' c = none) (h : H' b = some o) : joinH D H H' b = some o := by
  rw [joinH_out (fun d => by rw [z b d] at h; cases h)]
  exact h
/-- D holds lists alone -/
def CutOk (D : Addr → Prop) (H : Hp) : Prop := ∀ b, D b → ∃ xs, H b = some (.lst xs)
theorem CutOk.no {D : Addr → Prop} {H : Hp} {b : Addr} {o : HO} (c : CutOk D H) (h : H b = some o) (n : ∀ xs, o ≠ .lst xs) : ¬ D b := fun d => by
  obtain ⟨xs, e⟩ := c b d
  rw [h] at e
  exact n xs (Option.some.inj e)
end
section
variable {P : Program} {w : World} {K : PySem.W.Frag} {mg : Str → Option Value} {base : Heap} {k : Nat} {f : Addr} {fd : FuncData} {ps : List Str} {sp : Sp} {D : Addr → Prop} {H : Hp} {A : Around} {outer : List Env} {s : Shared}
theorem CutOk.env (c : CutOk D H) (e : Env0 P w K mg base A outer s H) : Env0 P w K mg base A outer s (cutH D H) where
  frames := e.frames
  mod := e.mod
  bs := fun b o q => ⟨(e.bs b o q).1, by
    by_cases d : D b
    · exact cutH_in d
    · rw [cutH_out d]
      exact (e.bs b o q).2⟩
  bsz := e.bsz
  funs := e.funs
  frf := fun b hb => by
    by_cases d : D b
    · exact cutH_in d
    · rw [cutH_out d]
      exact e.frf b hb
  hok := fun a o q => by
    obtain ⟨n, q'⟩ := cutH_some q
    refine (e.hok a o q').stay (fun b u _ z => z) (fun b z => ?_) (fun b xs z => ?_)
    · rw [cutH_out (c.no z fun _ y => by cases y)]
      exact z
    · rw [cutH_out (c.no z fun _ y => by cases y)]
      exact z
  bare := e.bare
def spCut (sp : Sp) : Sp := fun vs H Q E => ∃ D : Addr → Prop, CutOk D H ∧ sp vs (cutH D H) (fun v H' => (∀ b, D b → H' b = none) → Q v (joinH D H H')) E
theorem _root_.L2.FnOk.frame (F : FnOk P w K mg base CX0 k f fd ps sp) : FnOk P w K mg base CX0 k f fd ps (spCut sp) := by
  refine ⟨fun vs H Q E h => ?_, fun A outer s H args us vs Q E hr e0 hb r h => ?_⟩
  · obtain ⟨D, _, h⟩ := h
    exact F.len _ _ _ _ h
  obtain ⟨D, c, h⟩ := h
  refine codeAny_mono (F.run A outer s (cutH D H) args us vs _ E hr (c.env e0) hb r h) fun r s' hq => ?_
  have hnone : ∀ b, H b = none → ¬ D b := fun b n d => by
    obtain ⟨o, e⟩ := c b d
    rw [n] at e
    cases e
  cases r with
  | error e => exact hq
  | ok fl =>
    cases fl with
    | next => exact hq
    | brk => exact hq
    | cont => exact hq
    | ret u =>
      obtain ⟨v, H', ho, hg, un, hok, rv, q⟩ := hq
      have dn : ∀ b, D b → H' b = none := fun b d => by
        obtain ⟨o, e⟩ := c b d
        obtain ⟨ob, hob⟩ := objOk_get (e0.hok b _ e)
        exact un.free b ob hob (cutH_in d) (fun z => by cases z)
      have nfr : ∀ b, D b → b ∉ frs outer := fun b d hb => hnone b (e0.frf b hb) d
      refine ⟨v, joinH D H H', ho, hg, ⟨fun b o q n hb hx => un.keep b o q (by rw [cutH_out (hnone b n)]; exact n) hb hx, fun b o q n hb hx => un.slot b o q (by rw [cutH_out (hnone b n)]; exact n) hb hx, fun b o q n hx => ?_, un.there, fun b xs e => ?_, fun b o u e => ?_, fun b t e => ?_⟩, fun a o e => ?_, rv, q dn⟩
      · rw [joinH_out (hnone b n)]
        exact un.free b o q (by rw [cutH_out (hnone b n)]; exact n) hx
      · have n : ¬ D b := c.no e fun _ y => by cases y
        rw [joinH_out n]
        exact un.tups b xs (by rw [cutH_out n]; exact e)
      · by_cases d : D b
        · rw [joinH_in d]
          exact e
        · rw [joinH_out d]
          exact un.frzs b o u (by rw [cutH_out d]; exact e)
      · by_cases d : D b
        · exact ⟨#[], by rw [joinH_in d, e, Array.append_empty]⟩
        · rw [joinH_out d]
          exact un.tbls b t (by rw [cutH_out d]; exact e)
      · by_cases d : D a
        · rw [joinH_in d] at e
          obtain ⟨xs, e2⟩ := c a d
          rw [e] at e2
          obtain rfl := Option.some.inj e2
          obtain ⟨z, its, n, r, q⟩ := e0.hok a _ e
          exact ⟨z, its, n, r, un.keep a _ q (cutH_in d) (nfr a d) (fun z => by cases z)⟩
        · rw [joinH_out d] at e
          refine (hok a o e).stay (fun b u _ z => z) (fun b z => joinH_none dn z) (fun b xs z => joinH_none dn z)
end
/-! ### a def f(a, .., *v) -/
end TL
namespace TL
open PySem PySem.Spec PyProof.Rows L2
/-! ### several clauses 'except x as n' -/
/-- a clause: its class, the slot of its name, the reading of its suite -/
structure Clz where
  c : Value
  i : Nat
  ts : Addr → Value → Option Addr → TS
/-- the suite's ends: the name is unbound behind it -/
def endAs (D : Ends) (i : Nat) : Ends := { nx := fun τ G => D.nx (τ.set i none) G, rt := D.rt, bk := fun τ G => D.bk (τ.set i none) G, ct := fun τ G => D.ct (τ.set i none) G }
def wLst (K : PySem.W.Frag) (Wout : WX) (D : Ends) : List Clz → WX
  | [] => Wout
  | q :: r => fun cls d σ H => ∃ b, PySem.W.exmOne K cls q.c = some b ∧ (b = true → ∀ a, H a = none → q.ts a cls d (endAs D q.i) (σ.set q.i (some (.ref a))) H) ∧ (b = false → wLst K Wout D r cls d σ H)
inductive HdL (X : Cx) : List ExceptHandler → List Clz → Prop
  | nil : HdL X [] []
  | cons {x n : Str} {q : Clz} {b₀ : Stmt} {suite : List Stmt} {np pos' : Pos} {hds : List ExceptHandler} {l : List Clz} (hi : X.N[q.i]? = some n) (hln : X.env.kindOf n = some .local) (hc : Names X x q.c)
      (hsu : ∀ (a : Addr) (oe : Obj) (cls : Value) (d : Option Addr) (pn : List (Addr × Obj)), Zc cls d oe → (∃ vs, oe.data = .fields vs) → PSs (X.suite a ((a, oe) :: pn)) (b₀ :: suite) (q.ts a cls d)) (r : HdL X hds l) :
      HdL X (.ExceptHandler (some (.Name x np)) (some n) (b₀ :: suite) pos' :: hds) (q :: l)
section
variable {X : Cx} {body : List Stmt} {h₀ : ExceptHandler} {hds : List ExceptHandler} {l : List Clz} {pos : Pos} {tb : WX → TS} {Wout : WX}
theorem ps_try_list (hs : X.stack = X.env :: X.outer) (hf : X.env.frame = some X.env.locals) (hN : X.N.Nodup) (tk : Takes X Wout)
    (hb : ∀ (W : WX) (pn : List (Addr × Obj)) (xe : Value → Shared → Prop), Takes (X.tr pn xe) W → PassesOwn (model X.prog X.w) X.A X.env xe → PSs (X.tr pn xe) body (tb W))
    (hh : HdL X (h₀ :: hds) l) : PS X (.Try body (h₀ :: hds) [] [] pos) (fun D σ H => tb (wLst X.K Wout D l) D σ H) := by
  constructor
  intro pins s σ H D I h
  have ok := I.ok
  have fr : X.A.frames = some (X.env :: X.outer) := (ok.frames).trans (congrArg some hs)
  refine wpAny_Try_except (wpAny_mono ((hb (wLst X.K Wout D l) (X.pn ++ pins) (fun e t₁ => wpAny (model X.prog X.w) X.A (noteFrame e X.env) (fun _ t₂ => wpAny (model X.prog X.w) X.A (setFlight e none) (fun _ t₃ => wpAny (model X.prog X.w) X.A (handleBy e X.env (h₀ :: hds)) (SP X pins D) X.xe t₃) X.xe t₂) X.xe t₁) (fun u t xx => ?_) PassesOwn.looking).run [] s σ H D (I.toTry _) h) (fun f t hsp => ?_) fun e t he => he)
  rotate_left 1
  · cases f with
    | next => exact let ⟨τ, G, J, q⟩ := hsp; wpAny_execs_nil ⟨τ, G, J.ofTry ok, q⟩
    | brk => exact let ⟨τ, G, J, q⟩ := hsp; ⟨τ, G, J.ofTry ok, q⟩
    | cont => exact let ⟨τ, G, J, q⟩ := hsp; ⟨τ, G, J.ofTry ok, q⟩
    | ret u => exact let ⟨v, τ, G, J, r, q⟩ := hsp; ⟨v, τ, G, J.ofTry ok, r, q⟩
  obtain ⟨a, B, sI, pins', τ, G, cls, d, rfl, J', nb, up, sky, na, os, ag, wi⟩ := xx
  have J : Inv X pins τ G sI := J'.ofTry ok
  have sk : Sky B (X.env :: X.outer) a (Zc cls d) X.env.locals t.heap := hs ▸ sky
  show wpAny (model X.prog X.w) X.A (noteFrame (.ref a) X.env) _ _ _
  refine Sky.land Zc.steady fr hf sk fun g3 f3 p3 => ?_
  have J3 : Inv X pins τ G { t with heap := g3 } := J.landed nb f3.1 (up.trans p3) os ag
  obtain ⟨o3, v3, e3, z3, d3⟩ := f3.there
  have off : a ∉ frs (X.env :: X.outer) := fun hm => let ⟨_, o', e', hnf⟩ := f3.2.2.1.mem hm; by
    rw [e3] at e'
    cases e'
    exact hnf _ d3
  have offL : a ≠ X.env.locals := fun z => off (List.mem_filterMap.mpr ⟨X.env, List.mem_cons_self, hf.trans (congrArg some z.symm)⟩)
  have offF : a ∉ X.fs := fun hm => let ⟨e, he, q⟩ := List.mem_filterMap.mp hm; off (List.mem_filterMap.mpr ⟨e, List.mem_cons_of_mem _ he, q⟩)
  have S3 := J3.suite e3 d3 na offL offF
  have go : ∀ {hs' : List ExceptHandler} {l' : List Clz}, HdL X hs' l' → wLst X.K Wout D l' cls d τ G → wpAny (model X.prog X.w) X.A (handleBy (.ref a) X.env hs') (SP X pins D) X.xe { t with heap := g3 } := by
    intro hs' l' hk
    induction hk with
    | nil =>
      intro wo
      obtain ⟨k1, k2, k3, oe, vs, T, oT, ts', he, hz, hd, h1, hr⟩ := id f3
      refine wpAny_handleBy_nil ?_
      unfold PySem.passOn
      refine wpAny_bind (wpAny_field he hd h1 ?_)
      rw [if_neg (by simp : ¬ ((Value.ref T == Value.none) = true))]
      have out : wpAny (model X.prog X.w) X.A (setFlight (.ref a) X.env.frame) (fun _ t4 => wpAny (model X.prog X.w) X.A (throw (.ref a) : Sem Flow) (SP X pins D) X.xe t4) X.xe { t with heap := g3 } := by
        rw [hf]
        exact HandSPX.setFlight_upZ f3 fun g4 y4 p4 => wpAny_throw (tk _ _ ⟨a, B, sI, pins, τ, G, cls, d, rfl, J, nb, (up.trans p3).trans p4, .inr (.inr (hs.symm ▸ y4)), na, os, ag, wo⟩)
      first | exact wpAny_bind (wpAny_pure (wpAny_bind out)) | exact wpAny_bind out
    | @cons x n q b₀ suite np pos' hds2 l2 hi hln hc hsu r ih =>
      rintro ⟨b, hb1, hyes, hno⟩
      refine wpAny_handleBy_cons (codeAny_handlers_test ?_) fun z => (by cases z)
      have look : PySem.W.Looks (model X.prog X.w) g3 (typeOf (.ref a)) cls := fun A Q E s k y => wpAny_typeOf_ref (k _ _ e3) (z3.1.symm ▸ y)
      have match_ := PySem.W.exm_one (M := model X.prog X.w) J3.kIn look hb1
      have name : ∀ {Q E : Value → Shared → Prop}, Q q.c { t with heap := g3 } → wpAny (model X.prog X.w) (X.A.mark (some (.ref a))) (eval (.Name x np) X.env) Q E { t with heap := g3 } := fun {Q E} y => by
        obtain ⟨u1, u2, u3 | ⟨u3, u4, u5⟩⟩ := hc
        · exact ld_glob (X := X.suite a ((a, o3) :: (X.pn ++ pins))) S3 u1 u3 y u2
        · exact ld_blt (X := X.suite a ((a, o3) :: (X.pn ++ pins))) S3 u1 u3 u4 y u5 u2
      refine name (match_.here ?_)
      cases b with
      | false => exact ih (hno rfl)
      | true =>
        refine codeAny_handlers_suite_as (HandSPX.lands_againZ f3 fun g4 f4 p4 => ?_)
        have J4 : Inv X pins τ G { t with heap := g4 } := J.landed nb f4.1 ((up.trans p3).trans p4) os ag
        obtain ⟨o4, v4, e4, z4, d4⟩ := f4.there
        refine store_ok (X := X.suite a ((a, o4) :: (X.pn ++ pins))) (v := .ref a) (J4.suite e4 d4 na offL offF) hN hi (.inl hln) rfl (fun s5 S5 => ?_) (.inr hln)
        have gone : ∀ {τ6 : L2.St} {G6 : Hp} {s6 : Shared} {Q : Shared → Prop}, Inv (X.suite a ((a, o4) :: (X.pn ++ pins))) [] τ6 G6 s6 → (∀ s7, Inv X pins (τ6.set q.i none) G6 s7 → Q s7) → wpAny (model X.prog X.w) X.A (do bindName X.env n .none; unbindBehindTheSuite X.env n pos') (fun _ s7 => Q s7) X.xe s6 := fun {τ6 G6 s6 Q} S6 hq => gone_ok (S6.unsuite ok) hN hi hln hq
        refine wpAny_mono ((hsu a o4 cls d (X.pn ++ pins) z4 ⟨_, d4⟩).run [] s5 _ G _ S5 (hyes rfl a na)) (fun f s6 hsp => ?_) fun _ _ z => z.elim
        cases f with
        | next => exact let ⟨τ6, G6, S6, q6⟩ := hsp; gone S6 fun s7 J7 => ⟨_, _, J7, q6⟩
        | brk => exact let ⟨τ6, G6, S6, q6⟩ := hsp; gone S6 fun s7 J7 => ⟨_, _, J7, q6⟩
        | cont => exact let ⟨τ6, G6, S6, q6⟩ := hsp; gone S6 fun s7 J7 => ⟨_, _, J7, q6⟩
        | ret u => exact let ⟨v6, τ6, G6, S6, r6, q6⟩ := hsp; gone S6 fun s7 J7 => ⟨_, _, _, J7, r6, q6⟩
  exact go hh wi
end
end TL
namespace TL
open PySem PySem.Spec PyProof.Rows L2
/-! ### except (A, B) as n -/
section
variable {X : Cx} {body : List Stmt} {b₀ : Stmt} {suite : List Stmt} {x1 x2 n : Str} {c1 c2 : Value} {i kk : Nat} {p1 p2 tpos pos' pos : Pos} {tb : WX → TS} {ts : Addr → Value → Option Addr → TS} {Wout : WX}
end
end TL
namespace TL
open PySem PySem.Spec PyProof.Rows L2
/-! ### kinds of values -/
inductive Kn | int | bool | str | non | list | tup | ins
deriving DecidableEq
def Kn.ty (C : Addr) : Kn → Value
  | .int => .type "int"
  | .bool => .type "bool"
  | .str => .type "str"
  | .non => .type "NoneType"
  | .list => .type "list"
  | .tup => .type "tuple"
  | .ins => .ref C
def Kn.isInt : Kn → Bool
  | .int => true
  | .bool => true
  | _ => false
def Kn.isBool : Kn → Bool
  | .bool => true
  | _ => false
def Kn.isStr : Kn → Bool
  | .str => true
  | _ => false
def Kn.isList : Kn → Bool
  | .list => true
  | _ => false
def Kn.isTup : Kn → Bool
  | .tup => true
  | _ => false
/-- an own class that is none of these -/
structure NoCls (K : PySem.W.Frag) (C : Addr) : Prop where
  int : PySem.W.mroIn K C (.type "int") = some false
  bool : PySem.W.mroIn K C (.type "bool") = some false
  str : PySem.W.mroIn K C (.type "str") = some false
  list : PySem.W.mroIn K C (.type "list") = some false
  tup : PySem.W.mroIn K C (.type "tuple") = some false
section
variable {K : PySem.W.Frag} {C : Addr}
theorem kit_ref {T : String} {b : Bool} (h : PySem.W.mroIn K C (.type T) = some b) (hm : PySem.W.kitMeta T = true) : PySem.W.kitOne K (.ref C) (.type T) = some b := by
  unfold PySem.W.kitOne
  have hn : ¬ (Value.ref C == Value.type T) = true := fun e => by cases (beq_iff_eq.mp e)
  rw [if_neg hn]
  show (if PySem.W.kitMeta T = true then PySem.W.subIn K (.ref C) (.type T) else none) = some b
  rw [if_pos hm]
  exact h
theorem kn_int (J : NoCls K C) : ∀ k : Kn, PySem.W.kitOne K (k.ty C) (.type "int") = some k.isInt
  | .int => kt_int_int
  | .bool => kt_bool_int
  | .str => kt_str_int
  | .non => kt_NoneType_int
  | .list => kt_list_int
  | .tup => kt_tuple_int
  | .ins => kit_ref J.int (by decide +kernel)
theorem kn_bool (J : NoCls K C) : ∀ k : Kn, PySem.W.kitOne K (k.ty C) (.type "bool") = some k.isBool
  | .int => kt_int_bool
  | .bool => kt_bool_bool
  | .str => kt_str_bool
  | .non => kt_NoneType_bool
  | .list => kt_list_bool
  | .tup => kt_tuple_bool
  | .ins => kit_ref J.bool (by decide +kernel)
theorem kn_str (J : NoCls K C) : ∀ k : Kn, PySem.W.kitOne K (k.ty C) (.type "str") = some k.isStr
  | .int => kt_int_str
  | .bool => kt_bool_str
  | .str => kt_str_str
  | .non => kt_NoneType_str
  | .list => kt_list_str
  | .tup => kt_tuple_str
  | .ins => kit_ref J.str (by decide +kernel)
theorem kn_list (J : NoCls K C) : ∀ k : Kn, PySem.W.kitOne K (k.ty C) (.type "list") = some k.isList
  | .int => kt_int_list
  | .bool => kt_bool_list
  | .str => kt_str_list
  | .non => kt_NoneType_list
  | .list => kt_list_list
  | .tup => kt_tuple_list
  | .ins => kit_ref J.list (by decide +kernel)
theorem kn_tup (J : NoCls K C) : ∀ k : Kn, PySem.W.kitOne K (k.ty C) (.type "tuple") = some k.isTup
  | .int => kt_int_tuple
  | .bool => kt_bool_tuple
  | .str => kt_str_tuple
  | .non => kt_NoneType_tuple
  | .list => kt_list_tuple
  | .tup => kt_tuple_tuple
  | .ins => kit_ref J.tup (by decide +kernel)
/-- isinstance(x, (a, b)) -/
theorem kit_two {t a b : Value} {x y : Bool} (h1 : PySem.W.kitOne K t a = some x) (h2 : PySem.W.kitOne K t b = some y) : PySem.W.kitAny K t [a, b] = some (x || y) := by
  refine kitAny_cons h1 (fun e => ?_) (fun e => by rw [e]; rfl)
  subst e
  refine kitAny_cons h2 (fun e => ?_) (fun e => by rw [e]; rfl)
  subst e
  rfl
end
section
variable {K : PySem.W.Frag} {C : Addr} {H H' : Hp} {v : V}
def KnV (K : PySem.W.Frag) (C : Addr) (H : Hp) (v : V) (k : Kn) : Prop := TyX K H v (k.ty C)
theorem KnV.i {n : Int} : KnV K C H (.int n) .int := .base (.int n)
theorem KnV.b {x : Bool} : KnV K C H (.bl x) .bool := .base (.bl x)
theorem KnV.s {x : Str} : KnV K C H (.str x) .str := .base (.str x)
theorem KnV.n : KnV K C H .non .non := .base .non
theorem KnV.l {a : Addr} {xs : List V} (h : SqL K H a xs) : KnV K C H (.ref a) .list := tyx_L h
theorem KnV.t {a : Addr} {xs : List V} (h : SqT K H a xs) : KnV K C H (.ref a) .tup := tyx_T h
theorem KnV.o {a dx : Addr} {fs : List (Str × V)} (e : H a = some (.ins C dx fs)) (cl : Cls K C) (ha : PySem.W.findIn K (.ref C) "__class__" = some (some (.builtin "object.__class__")))
    (hn : PySem.W.specialIn K (.builtin "object.__class__") "__get__" = some (some (.builtin "getset_descriptor.__get__"))) (htk : PySem.W.takesIn K (.builtin "object.__class__") = some true) (hm : PySem.W.mroIn K C (.type "object") = some true) : KnV K C H (.ref a) .ins := .base (.ins e cl ha hn htk hm)
end
end TL
namespace TL
open PySem PySem.Spec PyProof.Rows L2
/-! ### errors as values -/
/-- at a: an error that was made, its class at C -/
def XAt (H : Hp) (a C : Addr) : Prop := ∃ d fs, H a = some (exo a C (some d)) ∧ H d = some (exd d fs)
theorem XAt.same {H H' : Hp} {a C : Addr} (h : XAt H a C) (s : Same H H') : XAt H' a C := by
  obtain ⟨d, fs, h1, h2⟩ := h
  exact ⟨d, fs, s _ _ h1, s _ _ h2⟩
theorem exo_lst {e C : Addr} {d : Option Addr} {xs : List V} : exo e C d ≠ .lst xs := fun z => by
  have z' : HO.ext _ = HO.lst xs := z
  cases z'
theorem exd_lst {e : Addr} {fs : List (Str × V)} {xs : List V} : exd e fs ≠ .lst xs := fun z => by
  have z' : HO.ext _ = HO.lst xs := z
  cases z'
theorem XAt.kb {H H' : Hp} {a C g : Addr} {xs : List V} (h : XAt H a C) (hg : H g = some (.lst xs)) (s : Kb g H H') : XAt H' a C := by
  obtain ⟨d, fs, h1, h2⟩ := h
  refine ⟨d, fs, s _ _ h1 fun e => ?_, s _ _ h2 fun e => ?_⟩
  · subst e
    rw [hg] at h1
    exact exo_lst (Option.some.inj h1).symm
  · subst e
    rw [hg] at h2
    exact exd_lst (Option.some.inj h2).symm
section
variable {X : Cx} {pins : List (Addr × Obj)} {σ : L2.St} {H : Hp} {s : Shared}
theorem xat_get {C a : Addr} (I : Inv X pins σ H s) (h : XAt H a C) : ∃ oe od, PySem.W.InstAt s.heap a oe C od := by
  obtain ⟨d, fs, h1, h2⟩ := h
  obtain ⟨⟨t1, e1⟩, _, _⟩ := (show ObjOk X.prog X.w H s.heap a (exo a C (some d)) from I.hok a _ h1)
  obtain ⟨⟨mA, hn, _⟩, _, _⟩ := (show ObjOk X.prog X.w H s.heap d (exd d fs) from I.hok d _ h2)
  obtain ⟨od, ho, _⟩ := lookIn_ns hn
  exact ⟨_, some od, e1, rfl, rfl, ho⟩
/-- isinstance(x, c), x perhaps an error -/
def rIsi2 (K : PySem.W.Frag) : List V → Hp → VK → Prop := fun xs H Q => rIsi K xs H Q ∨ ∃ (a C : Addr) (c : V) (u : Value) (b : Bool), xs = [.ref a, c] ∧ ClsV c u ∧ XAt H a C ∧ ExcC K C ∧ PySem.W.kitOne K (.ref C) u = some b ∧ Q (.bl b) H
theorem call_isi2 : CallR X (.builtin "isinstance") (rIsi2 X.K) := by
  intro pins s σ H xs us Q I r h
  rcases h with h | ⟨a, C, c, u, b, rfl, k, hx, T, e, q⟩
  · exact call_isi pins s σ H xs us Q I r h
  obtain ⟨u1, u2, rfl, r1, r2⟩ := vals2 r
  have e2 := k.eq r2
  subst e2
  cases (show u1 = Value.ref a from r1)
  obtain ⟨oe, od, J⟩ := xat_get I hx
  exact PySem.W.kia_one (PySem.W.kitx_excA T.hg T.hk T.hs T.hd T.ha T.hn T.ht T.hm) I.kIn ⟨od, J⟩ e (fun z => nomatch z) fun tk => ⟨.bl b, H, I.tok tk, rfl, q⟩
def rIsi2T (K : PySem.W.Frag) : List V → Hp → VK → Prop := fun xs H Q => rIsiT K xs H Q ∨ ∃ (a C tp : Addr) (cs : List V) (us : List Value) (b : Bool), xs = [.ref a, .ref tp] ∧ H tp = some (.tup cs) ∧ Paired ClsV cs us ∧ XAt H a C ∧ ExcC K C ∧ PySem.W.kitAny K (.ref C) us = some b ∧ Q (.bl b) H
theorem call_isi2T : CallR X (.builtin "isinstance") (rIsi2T X.K) := by
  intro pins s σ H xs us Q I r h
  rcases h with h | ⟨a, C, tp, cs, ws, b, rfl, hT, k, hx, T, e, q⟩
  · exact call_isiT pins s σ H xs us Q I r h
  obtain ⟨u1, u2, rfl, r1, r2⟩ := vals2 r
  cases (show u2 = Value.ref tp from r2)
  cases (show u1 = Value.ref a from r1)
  obtain ⟨oe, od, J⟩ := xat_get I hx
  obtain ⟨_, its, rv, o, h1, h2, n, h3⟩ := (show ObjOk X.prog X.w H s.heap tp (.tup cs) from I.hok tp _ hT)
  have e3 := ClsV.all k rv
  subst e3
  obtain ⟨oc, od', dt, sl⟩ := o
  simp only at h2 h3
  subst h2 h3
  exact PySem.W.kia_tup (PySem.W.kitx_excA T.hg T.hk T.hs T.hd T.ha T.hn T.ht T.hm) I.kIn ⟨od, J⟩ h1 e (fun z => nomatch z) fun tk => ⟨.bl b, H, I.tok tk, rfl, q⟩
end
end TL
set_option maxHeartbeats 2000000
namespace TL
open PySem PySem.Spec PyProof.Rows L2
/-! ### clauses that ask for the slots' number -/
/-! ### a caught error: its fields, and its way into a def -/
/-- e.f, whatever the error's class -/
def tXfA (K : PySem.W.Frag) (a : Addr) (cls : Value) (d : Option Addr) (f : Str) (i : Nat) : TE := fun τ G Q => τ[i]? = some (some (.ref a)) ∧ ∃ (C dd : Addr) (fs : List (Str × V)) (v : V), cls = .ref C ∧ d = some dd ∧ XfC K C ∧ PySem.W.findIn K (.ref C) f = some none ∧ G dd = some (.xd fs) ∧ fs.lookup f = some v ∧ Q v G
section
variable {X : Cx} {a : Addr} {oe : Obj} {cls : Value} {d : Option Addr} {pn : List (Addr × Obj)} {e : Expr} {pos : Pos} {n : Str} {i : Nat}
theorem pe_xfA (hz : Zc cls d oe) (hf : ∃ vs, oe.data = .fields vs) (he : PE (X.suite a ((a, oe) :: pn)) e (tVar i)) (hb : attributeBase e n X.env (eval e X.env) = eval e X.env := by rfl) :
    PE (X.suite a ((a, oe) :: pn)) (.Attribute e n pos) (tXfA X.K a cls d n i) := by
  constructor
  intro ps t τ G Q J h
  obtain ⟨hv, C, dd, fs, v, ec, ed, T, no, eg, lf, q⟩ := h
  exact (pe_xf T no hz hf he hb).run ps t τ G Q J ⟨_, hv, rfl, ec, dd, fs, v, ed, eg, lf, q⟩
/-- a def that gets the error that is being handled -/
def FnE (P : Program) (w : World) (K : PySem.W.Frag) (mg : Str → Option Value) (base : Heap) (k : Nat) (f : Addr) (sp : Addr → Value → Option Addr → Hp → VK → Prop) : Prop :=
  ∀ (A : Around) (outer : List Env) (t : Shared) (G : Hp) (a : Addr) (oe : Obj) (cls : Value) (d : Option Addr) (Q : VK), L2H.RoomH k A → L2H.PinOk outer G t (a, oe) → Env0 P w K mg base A outer t G → Zc cls d oe → (∃ vs, oe.data = .fields vs) → sp a cls d G Q →
    codeAny (model P w) A (.call (.ref f) ⟨[.ref a], []⟩) (CR CX0 outer P w G t Q E0) t
theorem pe_callE {k : Nat} {f : Addr} {x : Str} {p : Pos} {sp : Addr → Value → Option Addr → Hp → VK → Prop} (F : FnE X.prog X.w X.K X.mg X.base k f sp) (hr : L2H.RoomH k (X.suite a ((a, oe) :: pn)).A) (hg : Gl X x) (hm : X.mg x = some (.ref f)) (hk : PySem.W.keepIn X.K (.ref f) = true) (hz : Zc cls d oe) (hf : ∃ vs, oe.data = .fields vs)
    (he : PE (X.suite a ((a, oe) :: pn)) e (tVar i)) (hdb : (x == ("__debug__" : Str)) = false := by decide) (hse : starEach [e] X.env = (false, eval e X.env) :: starEach [] X.env := by rfl) (hpl : (backTo pos (starEach [] X.env)).any (·.1) = false := by rfl) :
    PE (X.suite a ((a, oe) :: pn)) (.Call (.Name x p) [e] [] pos) (fun τ G Q => τ[i]? = some (some (.ref a)) ∧ sp a cls d G Q) := by
  constructor
  intro ps t τ G Q J h
  have arg : PA (X.suite a ((a, oe) :: pn)) [e] (tCons (tVar i) tNil) := pa_cons he pa_nil hse
  refine wpAny_Call_Name_kw (ld_glob (X := X.suite a ((a, oe) :: pn)) J hg hm ?_ hdb)
  refine PySem.W.callWith_K (h₀ := X.base) J.ok.mod.kin hk (thn (arg.run pos ps t τ G (fun vs G' => vs = [.ref a] ∧ sp a cls d G' Q) J ⟨_, h.1, rfl, h.2⟩) fun us r hh => ?_) hse hpl
  obtain ⟨vs, G', J', rv, ev, q⟩ := hh
  refine ⟨J'.kIn, ?_⟩
  subst ev
  obtain rfl := Vals.ref1 rv
  obtain ⟨there, free, nL, nF, nc⟩ := J'.pin (a, oe) (List.mem_append_left _ List.mem_cons_self)
  have nS : a ∉ frs (X.suite a ((a, oe) :: pn)).stack := fun z => (List.mem_cons.mp (J'.stkSub _ z)).elim nL nF
  refine wpAny_call (codeAny_mono (F _ _ r G' a oe cls d Q hr ⟨there, free, nS, nc⟩ J'.env0 hz hf q) fun fl r2 z => ?_)
  match fl, z with
  | .error _, z => exact (show False from z).elim
  | .ok (.ret u), z => exact J'.after z
  | .ok .next, z => exact False.elim z
  | .ok .brk, z => exact False.elim z
  | .ok .cont, z => exact False.elim z
end
/-- e.f in a def that got the error that is being handled -/
theorem pe_xfH {X : Cx} {a : Addr} {oe : Obj} {cls : Value} {d : Option Addr} {e : Expr} {pos : Pos} {n : Str} {i : Nat} (hp : (a, oe) ∈ X.pn) (hz : Zc cls d oe) (hf : ∃ vs, oe.data = .fields vs) (he : PE X e (tVar i)) (hb : attributeBase e n X.env (eval e X.env) = eval e X.env := by rfl) :
    PE X (.Attribute e n pos) (tXfA X.K a cls d n i) := by
  constructor
  intro ps t τ G Q J h
  obtain ⟨hv, C, dd, fs, v, ec, ed, T, no, eg, lf, q⟩ := h
  refine attr_of hb (thn (he.run ps t τ G (fun x G' => x = .ref a ∧ G' = G) J ⟨_, hv, rfl, rfl⟩) fun u r hh => ?_)
  obtain ⟨x, G', J', rx, ex, eG⟩ := hh
  subst ex eG ec ed
  cases (show u = Value.ref a from rx)
  have there : r.heap.get? a = some oe := (J'.pin (a, oe) (List.mem_append_left _ hp)).1
  obtain ⟨mA, names, told⟩ := (show ObjOk X.prog X.w G' r.heap dd (.xd fs) from J'.hok dd _ eg)
  obtain ⟨od, look, same⟩ := lookIn_ns names
  obtain ⟨y, ey, ry⟩ := RelO.some_of (v := v) (o := mA n) (lf ▸ told n)
  have nc : PySem.W.notCls oe = true := by
    obtain ⟨vs, hd⟩ := hf
    unfold PySem.W.notCls
    rw [hd]
  have inst : PySem.W.InstAt r.heap a oe C (some od) := ⟨there, hz.1, nc, hz.2 ▸ look⟩
  exact HandSPX.exc_get J'.kIn inst T.ga T.gg T.exC (PySem.W.findObj_own T.hdC no rfl ((same n).trans (congrArg some ey))) (handed_of ry) ⟨v, G', J'.tok _, ry, q⟩
end TL
set_option maxHeartbeats 2000000
namespace TL
open PySem PySem.Spec PyProof.Rows L2
/-! ### defs whose code object is named, defs that get a caught error -/
section
variable {P : Program} {w : World} {K : PySem.W.Frag} {mg : Str → Option Value} {base : Heap} {x qual : Str} {st : Stmt} {f : Addr} {fd : FuncData} {N ps : List Str} {k : Nat}
/-- a def of the top, its code object at c -/
structure FunC (K : PySem.W.Frag) (x qual : Str) (st : Stmt) (f : Addr) (fd : FuncData) (c : Addr) : Prop where
  at_ : ∃ (oc kV doc pm ct : Value) (od an : Option Addr) (sl : Array (Option Value)), fd = PySem.W.fnOf x qual (defArgs st) (defBody st) (defScope st) .none kV doc pm an (.ref c) ct ∧ K.lookup f = some ⟨oc, od, .func fd, sl⟩ ∧ PySem.W.codeIn K (.ref c) qual = true
  keep : PySem.W.keepIn K (.ref f) = true
theorem FunC.fun {c : Addr} (F : FunC K x qual st f fd c) : Fun K x qual st f fd := by
  obtain ⟨oc, kV, doc, pm, ct, od, an, sl, e, l, i⟩ := F.at_
  exact ⟨⟨oc, od, kV, doc, pm, an, .ref c, ct, sl, e, l, i⟩, F.keep⟩
theorem FunC.ok {c : Addr} {sp : Sp} (F : FunC K x qual st f fd c) (S : FnScope N ps (defScope st)) (len : ∀ vs G Q E, sp vs G Q E → vs.length = ps.length)
    (body : ∀ (A : Around) (outer : List Env) (t : Shared) (G : Hp) (vs : List V) (Q : VK) (E : XK), Room k (A.deeper (envOfC qual (defScope st) t.heap.objs.size f (.ref c))) → sp vs G Q E →
      ∃ b, PSs (cxOf CX0 P w K mg base N qual (defScope st) f (.ref c) A outer t G E).nox (defBody st) b ∧ b { nx := fun _ G' => Q .non G', rt := Q } (start N vs) G) : FnOk P w K mg base CX0 (k + 1) f fd ps sp := by
  obtain ⟨oc, kV, doc, pm, ct, od, an, sl, rfl, l, i⟩ := F.at_
  exact fn_of l i S len fun A outer t G vs Q E hr h => let ⟨b, hb, q⟩ := body A outer t G vs Q E hr h; ⟨b, hb.nox, q⟩
theorem funE {p : Str} {sp : Addr → Value → Option Addr → Hp → VK → Prop} (F : Fun K x qual st f fd) (S : FnScope N [p] (defScope st)) (b : Binds K fd [p] [])
    (body : ∀ (cdv : Value) (A : Around) (outer : List Env) (t : Shared) (G : Hp) (a : Addr) (oe : Obj) (cls : Value) (d : Option Addr) (Q : VK), Zc cls d oe → (∃ vs, oe.data = .fields vs) → sp a cls d G Q →
      ∃ r, PSs (L2H.cxH CX0 P w K mg base N qual (defScope st) f cdv A outer t G E0 (a, oe)) (defBody st) r ∧ r { nx := fun _ G' => Q .non G', rt := Q } (start N [.ref a]) G) : FnE P w K mg base (k + 1) f sp := by
  obtain ⟨oc, od, kV, doc, pm, an, cdv, ct, sl, rfl, l, i⟩ := F.ex
  intro A outer t G a oe cls d Q hr hp e0 hz hf h
  have kin : K.In t.heap := e0.mod.kin.keeps fun c o e => (e0.bs c o e).1
  refine codeAny_call_function hr.depth (kin _ _ l) rfl S.co S.gen rfl (PySem.W.codeRec_of kin i) (b t [.ref a] kin rfl _ _ _ _ ?_)
  refine wpAny_newFunctionEnv_cells S.kind (fun y hy => ?_) fun env he t1 x => ?_
  · rcases S.par y.1 (List.of_mem_zip (a := y.1) (b := y.2) hy).1 with q | q
    · exact .inl q
    · exact .inr ⟨q, PySem.W.cellsFrom_some _ _ _ (.inl q)⟩
  · subst he
    refine ⟨(e0.mod.nolimit.keeps fun c o e => (e0.bs c o e).1).keeps x.toInCall.keep, codeAny_func ?_⟩
    obtain ⟨r, hb, q⟩ := body cdv A outer t G a oe cls d Q hz hf h
    have start_ := L2H.inv_startH (CX := CX0) (E := E0) (f := f) S hp e0 (vs := [.ref a]) rfl (.cons rfl .nil) x
    refine wpAny_mono (hb.run [] t1 (start N [.ref a]) G _ start_ q) (fun fl t2 z => ?_) fun _ _ z => z
    match fl, z with
    | .ret u, ⟨v, τ, G', J, rv, q'⟩ => exact ⟨v, G', J.os, J.bare, J.base, J.hok, rv, q'⟩
    | .next, ⟨τ, G', J, q'⟩ => exact ⟨.non, G', J.os, J.bare, J.base, J.hok, rfl, q'⟩
    | .brk, ⟨_, _, _, q'⟩ => exact False.elim q'
    | .cont, ⟨_, _, _, q'⟩ => exact False.elim q'
end
/-! ### the tables of code objects, and what stands beside a bag and them -/
/-- all but what stands at g and the tables stays -/
def Kt (g : Addr) (G G' : Hp) : Prop := ∀ c o, G c = some o → c ≠ g → (∀ ps, o ≠ .tbl ps) → G' c = some o
theorem Kt.refl {g : Addr} {G : Hp} : Kt g G G := fun _ _ e _ _ => e
theorem Kt.trans {g : Addr} {G G1 G2 : Hp} (a : Kt g G G1) (b : Kt g G1 G2) : Kt g G G2 := fun c o e n z => b c o (a c o e n z) n z
theorem Kt.kb {g : Addr} {G G' : Hp} (k : Kb g G G') : Kt g G G' := fun c o e n _ => k c o e n
theorem Kt.ext {g : Addr} {G G' : Hp} (k : LamX.ExtN G G') : Kt g G G' := fun c o e _ z => k c o e z
theorem Kt.same {g : Addr} {G G' : Hp} (k : Same G G') : Kt g G G' := fun c o e _ _ => k c o e
theorem Kt.lst {g c : Addr} {G G' : Hp} {xs : List V} (k : Kt g G G') (e : G c = some (.lst xs)) (n : c ≠ g) : G' c = some (.lst xs) := k c _ e n fun _ z => by cases z
theorem Kt.ins {g c C dx : Addr} {G G' : Hp} {fs : List (Str × V)} (k : Kt g G G') (e : G c = some (.ins C dx fs)) (n : c ≠ g) : G' c = some (.ins C dx fs) := k c _ e n fun _ z => by cases z
end TL
namespace TL
open PySem PySem.Spec PyProof.Rows L2
/-! ### kinds of any value, errors among them -/
/-- a class of errors that is none of the built-in kinds -/
structure ErrCls (K : PySem.W.Frag) (CE : Addr) : Prop where
  nc : NoCls K CE
  ex : ExcC K CE
section
variable {K : PySem.W.Frag} {C CE g : Addr} {H H' : Hp} {v : V} {k : Kn}
def KnX (K : PySem.W.Frag) (C CE : Addr) (H : Hp) (v : V) (k : Kn) : Prop := KnV K C H v k ∨ (k = .ins ∧ ∃ a, v = .ref a ∧ XAt H a CE)
theorem isi_one {n : String} {b : Kn → Bool} {Q : VK} (J : NoCls K C) (X : ErrCls K CE) (hb : ∀ {D : Addr}, NoCls K D → ∀ j : Kn, PySem.W.kitOne K (j.ty D) (.type n) = some (b j)) (h : KnX K C CE H v k) (q : Q (.bl (b k)) H) : rIsi2 K [v, .ty n] H Q := by
  rcases h with h | ⟨rfl, a, rfl, hx⟩
  · exact .inl ⟨v, .ty n, _, _, b k, rfl, .ty n, h, hb J k, q⟩
  · exact .inr ⟨a, CE, .ty n, .type n, b .ins, rfl, .ty n, hx, X.ex, hb X.nc .ins, q⟩
/-- a value by its kind; lists stand beside the bag -/
inductive It2 (K : PySem.W.Frag) (C CE g : Addr) (H : Hp) : V → Kn → Prop
  | i (n : Int) : It2 K C CE g H (.int n) .int
  | b (x : Bool) : It2 K C CE g H (.bl x) .bool
  | s (x : Str) : It2 K C CE g H (.str x) .str
  | n : It2 K C CE g H .non .non
  | l {a : Addr} {xs : List V} (h : H a = some (.lst xs)) (ne : a ≠ g) : It2 K C CE g H (.ref a) .list
  | t {a : Addr} {xs : List V} (h : SqT K H a xs) : It2 K C CE g H (.ref a) .tup
  | o {a dx : Addr} {fs : List (Str × V)} {n m : Int} (h : H a = some (.ins C dx fs)) (ho : fs.lookup ("over" : Str) = some (.int n)) (hu : fs.lookup ("under" : Str) = some (.int m)) : It2 K C CE g H (.ref a) .ins
  | x {a : Addr} (h : XAt H a CE) : It2 K C CE g H (.ref a) .ins
theorem It2.same (h : It2 K C CE g H v k) (s : Same H H') : It2 K C CE g H' v k := by
  cases h with
  | i n => exact .i n
  | b x => exact .b x
  | s x => exact .s x
  | n => exact .n
  | l h ne => exact .l (s _ _ h) ne
  | t h => exact .t (seqT s h)
  | o h ho hu => exact .o (s _ _ h) ho hu
  | x h => exact .x (h.same s)
theorem It2.kb {B : Bg} (h : It2 K C CE B.b H v k) (hB : Bag B H) (s : Kb B.b H H') : It2 K C CE B.b H' v k := by
  obtain ⟨i, r, z, c, e, _⟩ := id hB.ex
  cases h with
  | i n => exact .i n
  | b x => exact .b x
  | s x => exact .s x
  | n => exact .n
  | l h ne => exact .l (s _ _ h ne) ne
  | t h => exact .t (seqT_kb e s h)
  | o h ho hu => exact .o (s _ _ h (ne_of h e (by intro z; cases z))) ho hu
  | x h => exact .x (h.kb e s)
end
end TL
set_option maxHeartbeats 4000000
namespace TL
open PySem PySem.Spec PyProof.Rows L2 Builtin.ObjectAttr
/-! ### own errors over any built-in error: fields stored, made, raised -/
/-- the built-in class below, and what is told of it -/
structure Over (B newId initId : String) (bmB : List Value) : Prop where
  F : ExcBaseFacts B newId initId bmB
  S : StoreFacts B bmB "object.__setattr__" "object"
theorem over_Lookup : Over "LookupError" "LookupError.__new__" "LookupError.__init__" [.type "LookupError", .type "Exception", .type "BaseException", .type "object"] := ⟨F.excBase_LookupError, F.store_LookupError⟩
theorem over_Value : Over "ValueError" "ValueError.__new__" "ValueError.__init__" [.type "ValueError", .type "Exception", .type "BaseException", .type "object"] := ⟨F.excBase_ValueError, F.store_ValueError⟩
theorem over_Arith : Over "ArithmeticError" "ArithmeticError.__new__" "ArithmeticError.__init__" [.type "ArithmeticError", .type "Exception", .type "BaseException", .type "object"] := ⟨F.excBase_ArithmeticError, F.store_ArithmeticError⟩
theorem over_Index : Over "IndexError" "IndexError.__new__" "IndexError.__init__" [.type "IndexError", .type "LookupError", .type "Exception", .type "BaseException", .type "object"] := ⟨F.excBase_IndexError, F.store_IndexError⟩
/-- an own error class, whatever stands below -/
structure OexG (K : PySem.W.Frag) (C : Addr) : Prop where
  cls : ∃ B newId initId bmB nm q N bs bm sn sub ab col dd k0 k1 k2 k3 k5, Over B newId initId bmB ∧ K.lookup C = some (excClassObj nm q C N bs bm true sn sub ab col dd k0 k1 k2 k3 k5 newId) ∧ PySem.W.excTail bmB bm = true
  sa : PySem.W.findIn K (.ref C) "__setattr__" = some (some (.builtin "object.__setattr__"))
  exC : PySem.W.subIn K (.ref C) (.type "BaseException") = some true
  tyC : PySem.W.typeIn K (.ref C) = some (.type "type")
  kC : PySem.W.keepIn K (.ref C) = true
section
variable {X : Cx} {pins : List (Addr × Obj)} {σ : L2.St} {H : Hp} {s : Shared} {a C dx : Addr} {f : Str} {y : V} {u : Value} {fs : List (Str × V)} {Q : Unit → Shared → Prop} {E : Value → Shared → Prop} {A : Around}
theorem own_over {K : PySem.W.Frag} {C N : Addr} {nm q : Str} {bs bm bmB : List Value} {sn : List Str} {sub : List Value} {ab : Bool} {col : Option Bool} {dd : Option Addr} {k0 k1 k2 k3 k5 : Option Value} {newId : String}
    (hC : K.lookup C = some (excClassObj nm q C N bs bm true sn sub ab col dd k0 k1 k2 k3 k5 newId)) (ht : PySem.W.excTail bmB bm = true) : PySem.W.excOver K C bmB = true ∧ PySem.W.hasDictIn K C = true := by
  have e : PySem.W.clsIn K C = some { name := nm, bases := bs, mro := .ref C :: bm, ns := N, qualname := q, hasDict := true, slotNames := sn, subclasses := sub, abstract := ab, collection := col, hasDel := false } := by
    unfold PySem.W.clsIn
    rw [hC] <;> rfl
  constructor
  · unfold PySem.W.excOver
    rw [e, Option.any_some]
    simp [ht]
  · unfold PySem.W.hasDictIn
    rw [e]
    rfl
theorem taker_none {K : PySem.W.Frag} {C : Addr} {f : Str} (h : PySem.W.findIn K (.ref C) f = some none) : PySem.W.takerIn K C f = some none := by
  unfold PySem.W.takerIn
  rw [h]
  rfl
/-- the first field -/
theorem ostG_new (T : OexG X.K C) (I : Inv X pins σ H s) (e : H a = some (exo a C none)) (hno : PySem.W.findIn X.K (.ref C) f = some none) (ry : RelV y u)
    (h : ∀ dx s', H dx = none → dx ≠ a → Inv X pins σ (upd (upd H dx (exd dx [(f, y)])) a (exo a C (some dx))) s' → Q () s') : wpAny (model X.prog X.w) A (setAttr (.ref a) f u) Q E s := by
  obtain ⟨B, newId, initId, bmB, nm, q, N, bs, bm, sn, sub, ab, col, dd, k0, k1, k2, k3, k5, O, hC, ht⟩ := T.cls
  obtain ⟨ov, hd⟩ := own_over hC ht
  obtain ⟨t1, at1⟩ := exo_at I.hok e
  obtain ⟨hh, gg, dr, tt, oo⟩ := s
  refine PySem.W.set_plain I.kIn (od := none) ⟨at1, rfl, rfl, trivial⟩ T.sa ?_
  refine PySem.W.osa_openX (od := none) O.S I.kIn ⟨at1, rfl, rfl, trivial⟩ ov (taker_none hno) fun b => ?_
  obtain ⟨cd, hcd, hdd⟩ := PySem.W.any_some hd
  have ax : a < hh.objs.size := Heap.lt_size at1
  have ne : a ≠ hh.objs.size := Nat.ne_of_lt ax
  refine wpAny_bind (wpAny_pure (wpAny_bind (PySem.W.instanceDict_exc at1 (PySem.W.looks_clsIn I.kIn hcd) hdd ?_)))
  show wpAny _ _ (storeInDict hh.objs.size _ _ _) _ _ _
  have at2 : ((hh.push (PySem.W.dictOf [] 0)).update a fun o => { o with dict := some hh.objs.size }).get? a = some { cls := .ref C, dict := some hh.objs.size, data := .fields #[.ref t1, .none, .none, .none, .bool false, .none] } := Heap.get?_update_self _ (Heap.get?_push_of_some _ at1) rfl
  refine PySem.HandSPX.store_in_new (dx := hh.objs.size) ⟨_, #[], _, (Heap.get?_update_ne _ _ _ _ ne.symm).trans (Heap.get?_push_at rfl rfl), rfl, fun z hz => absurd hz (by simp), fun _ => rfl⟩ ?_
  intro h2 tk2 ns2 same2
  -- the heap with the dict laid, the error as before
  have old : ∀ b u, b ≠ a → hh.get? b = some u → h2.get? b = some u := fun b u hb hu => (same2.2 b (Nat.ne_of_lt (Heap.lt_size hu))).trans ((Heap.get?_update_ne _ _ _ _ hb).trans (Heap.get?_push_of_some _ hu))
  have at3 : h2.get? a = some { cls := .ref C, dict := some hh.objs.size, data := .fields #[.ref t1, .none, .none, .none, .bool false, .none] } := (same2.2 a ne).trans at2
  have fr : H hh.objs.size = none := I.hok.fresh (Nat.le_refl _)
  have e1 : (h2.update a fun _ => { cls := .ref C, data := .fields #[.ref t1, .none, .none, .none, .bool false, .none] }).get? a = some { cls := .ref C, data := .fields #[.ref t1, .none, .none, .none, .bool false, .none] } := Heap.get?_update_self _ at3 rfl
  have e2 : ∀ b, b ≠ a → (h2.update a fun _ => { cls := .ref C, data := .fields #[.ref t1, .none, .none, .none, .bool false, .none] }).get? b = h2.get? b := fun b hb => Heap.get?_update_ne _ _ _ _ hb
  have J : Inv X pins σ (upd H hh.objs.size (exd hh.objs.size [(f, y)])) ⟨h2.update a fun _ => { cls := .ref C, data := .fields #[.ref t1, .none, .none, .none, .bool false, .none] }, gg, dr, tk2, oo⟩ := by
    refine I.laid (t' := tk2) (fun b u hu => ?_) (Nat.le_refl _) ?_
    · by_cases hb : b = a
      · rw [hb] at hu ⊢
        exact e1.trans (at1.symm.trans hu)
      · exact (e2 b hb).trans (old b u hb hu)
    · exact exd_ok (ns2.at fun o z => (e2 _ ne.symm).trans z) (relO_put (fs := []) ry fun _ => True.intro)
  refine h hh.objs.size _ fr ne.symm (J.write (t' := tk2) (x := a) (e := a) (h' := h2) (by rw [upd_ne ne, e]; exact True.intro) (.inl rfl) (fun b u hb hu => (e2 b hb).symm.trans hu) ⟨_, at3⟩ (exo_ok at3))
/-- a further field -/
theorem ostG_old (T : OexG X.K C) (I : Inv X pins σ H s) (e : H a = some (exo a C (some dx))) (ed : H dx = some (exd dx fs)) (hl : fs.length ≤ 900) (hno : PySem.W.findIn X.K (.ref C) f = some none) (ry : RelV y u)
    (h : ∀ s', Inv X pins σ (upd H dx (exd dx ((f, y) :: fs))) s' → Q () s') : wpAny (model X.prog X.w) A (setAttr (.ref a) f u) Q E s := by
  obtain ⟨B, newId, initId, bmB, nm, q, N, bs, bm, sn, sub, ab, col, dd, k0, k1, k2, k3, k5, O, hC, ht⟩ := T.cls
  obtain ⟨ov, hd⟩ := own_over hC ht
  obtain ⟨t1, at1⟩ := exo_at I.hok e
  obtain ⟨mD, nsD, relD⟩ := exd_at I.hok ed
  have wD := within_of relD
  obtain ⟨hh, gg, dr, tt, oo⟩ := s
  obtain ⟨oD, _, _, atD, _, _⟩ := nsD.count wD
  refine PySem.W.set_plain I.kIn (od := some oD) ⟨at1, rfl, rfl, atD⟩ T.sa ?_
  refine PySem.W.osa_openX (od := some oD) O.S I.kIn ⟨at1, rfl, rfl, atD⟩ ov (taker_none hno) fun b => ?_
  obtain ⟨cd, hcd, hdd⟩ := PySem.W.any_some hd
  refine wpAny_bind (wpAny_pure (wpAny_bind (wpAny_bind (wpAny_loadPart at1 (wpAny_bind ?_)))))
  have lk : PySem.W.Looks (model X.prog X.w) hh (classData C) cd := PySem.W.looks_clsIn I.kIn hcd
  refine lk.at ?_
  rw [hdd]
  refine wpAny_pure (a := some dx) ?_
  show wpAny _ _ (storeInDict dx _ _ _) _ _ _
  refine PySem.OEX.store_in_old nsD wD (by rw [List.length_map]; omega) fun h2 tk2 ns2 same2 => ?_
  obtain ⟨o2, _, _, at2, _⟩ := id ns2
  exact h _ (I.write (t' := tk2) (x := dx) (e := dx) (o := exd dx ((f, y) :: fs)) (by rw [ed]; exact True.intro) (.inl rfl) (fun b u hb hu => (same2.2 b hb).trans hu) ⟨o2, at2⟩ (exd_ok ns2 (relO_put ry relD)))
end
/-- self.f = e, in such an error -/
def tOstG (K : PySem.W.Frag) (f : Str) (to te : TE) : TS := fun D σ H => te σ H fun y H1 => to σ H1 fun x H2 => ∃ a C : Addr, x = .ref a ∧ OexG K C ∧ PySem.W.findIn K (.ref C) f = some none ∧
  ((H2 a = some (exo a C none) ∧ ∀ dx, H2 dx = none → dx ≠ a → D.nx σ (upd (upd H2 dx (exd dx [(f, y)])) a (exo a C (some dx)))) ∨
    ∃ (dx : Addr) (fs : List (Str × V)), H2 a = some (exo a C (some dx)) ∧ H2 dx = some (exd dx fs) ∧ fs.length ≤ 900 ∧ D.nx σ (upd H2 dx (exd dx ((f, y) :: fs))))
section
variable {X : Cx} {o e : Expr} {es : List Expr} {to te : TE} {ta : TA} {f : Str} {p p' pos : Pos}
theorem ps_ostG (ho : PE X o to) (he : PE X e te) (hs : swapsWith e (some (.Attribute o f p')) pos.line X.env = pure false := by rfl) : PS X (.Assign [.Attribute o f p'] e pos) (tOstG X.K f to te) := by
  constructor
  intro pins s0 σ H D I h
  refine plainObj_wpAny_Assign_Attribute (thn (he.run pins s0 σ H _ I h) fun v sA ⟨y, HA, IA, rA, qA⟩ => thn (ho.run pins sA σ HA _ IA qA) fun u sB ⟨x, HB, IB, rB, a, C, ex, T, hno, qB⟩ => ?_) hs
  subst ex
  cases (show u = Value.ref a from rB)
  rcases qB with ⟨ea, qB⟩ | ⟨dx, fs, ea, ed, hl, qB⟩
  · exact ostG_new T IB ea hno rA fun dx s' n ne J => ⟨σ, _, J, qB dx n ne⟩
  · exact ostG_old T IB ea ed hl hno rA fun s' J => ⟨σ, _, J, qB⟩
end
/-! ### such an error with one field and its code -/
/-! ### a def that may raise, where it does not -/
end TL
namespace PySem.W
open PySem PySem.Spec PySem.Calls PyProof.Rows
section
variable {prog : Program} {w : World} {A : Around} {E : Value → Shared → Prop} {s : Shared} {K : Frag} {x C L : Addr} {h₀ : Heap} {m : Str → Option Value} {ox : Obj} {od : Option Obj} {f : Addr} {b tb : Value} {name : Str} {id : String}
theorem ifBound_KB {M : Model} {args : List Value} {Q : Option Value → Shared → Prop} (X : K.In s.heap) (I : InstAt s.heap x ox C od) (hs : findIn K (.ref C) name = some (some (.builtin id))) (hb : ∀ self, bindSpecial (.builtin id) self = pure (.builtin id, [self]))
    (h : wpAny M A (call (.builtin id) (.ref x :: args)) (fun v => Q (some v)) E s) : wpAny M A (callSpecialIfBound? (.ref x) name args) Q E s := by
  simp only [callSpecialIfBound?, bindSpecialIfBound?]
  refine wpAny_holding (wpAny_bind (wpAny_bind (wpAny_bind (I.type.here ((looks_findIn X hs).here ?_)))))
  refine wpAny_bind (wpAny_askSetting (wpAny_ite ?_))
  have fin : wpAny M A (call (.builtin id) ([.ref x] ++ args) >>= fun v => pure (some v)) Q E s := wpAny_bind (wpAny_mono h (fun v s' h' => wpAny_pure h') fun _ _ h' => h')
  split
  · exact wpAny_bind ((Looks.of_pure (hb _)).here (wpAny_pure (by exact fin)))
  · exact wpAny_tryCatch (wpAny_bind ((Looks.of_pure (hb _)).here (wpAny_pure (by exact fin))))
open Builtin in
end
end PySem.W
namespace TL
open PySem L2
section
variable {X : Cx} {C f : Addr} {k : Nat} {fd : FuncData} {ps : List Str} {sp : Sp} {CX : CXT} {E : XK}
end
end TL
set_option maxHeartbeats 2000000
namespace TL
open PySem PySem.Spec PyProof.Rows L2
/-! ### an object and itself, its class without an own __eq__ -/
section
variable {prog : Program} {w : World} {A : Around} {E : Value → Shared → Prop} {s : Shared} {K : PySem.W.Frag} {x C : Addr} {ox : Obj} {od : Option Obj}
theorem self_obj {Q : Value → Shared → Prop} (X : K.In s.heap) (I : PySem.W.InstAt s.heap x ox C od) (hm : PySem.W.mroIn K C (.type "object") = some true) (h : Q (.bool true) s) : wpAny (model prog w) A (call (.builtin "object.__eq__") [.ref x, .ref x]) Q E s :=
  wpAny_call (codeAny_call_builtin PySem.F.cmp_object.eq.plain PySem.F.cmpEntry_eq (PySem.W.check_slot (i := "object.__eq__") (owner := "object") (n := "__eq__") (by decide +kernel) (by decide +kernel) (I.type.andThen (PySem.W.looks_mroIn X hm)) (PySem.F.cmpArgs_eq _ _) (objEq_entry_same h)))
theorem self_rich {Q : Value → Shared → Prop} (hu : A.units < cLine) (X : K.In s.heap) (I : PySem.W.InstAt s.heap x ox C od) (hm : PySem.W.mroIn K C (.type "object") = some true) (hs : PySem.W.findIn K (.ref C) "__eq__" = some (some (.builtin "object.__eq__"))) (h : Q (.bool true) s) :
    wpAny (model prog w) A (richCompare .Eq (.ref x) (.ref x)) Q E s := by
  have one : wpAny (model prog w) A (tryCompare (.ref x) (cmpInfo .Eq).2.1 (.ref x)) (fun r t => r = some (.bool true) ∧ t = s) E s := by
    unfold tryCompare
    exact wpAny_bind (PySem.W.ifBound_KB X I hs PySem.F.cmp_object.eq.bind (self_obj X I hm (wpAny_pure ⟨rfl, rfl⟩)))
  unfold richCompare
  simp only [oneThing_ref]
  refine wpAny_holding (wpAny_bind (wpAny_cRoomFor hu (wpAny_bind (I.type.here (wpAny_bind (I.type.here ?_))))))
  split
  · rename_i q
    simp at q
  · refine wpAny_bind (wpAny_pure ?_)
    simp only [Bool.false_eq_true, if_false]
    refine wpAny_bind (wpAny_mono one (fun r t z => ?_) fun _ _ e => e)
    obtain ⟨z1, z2⟩ := z
    subst z1 z2
    exact wpAny_pure h
end
section
variable {X : Cx} {k : Nat}
/-- x == x, an error whose class has no __eq__ -/
def rEqS (K : PySem.W.Frag) : R2 := fun x y H Q => ∃ a C, x = .ref a ∧ y = .ref a ∧ XAt H a C ∧ PySem.W.mroIn K C (.type "object") = some true ∧ PySem.W.findIn K (.ref C) "__eq__" = some (some (.builtin "object.__eq__")) ∧ Q (.bl true) H
theorem op_eqS (hr : Room k X.A) : OpR X (compareOp .Eq) (rEqS X.K) := by
  intro pins s σ H x y v u Q I rx ry h
  obtain ⟨a, C, rfl, rfl, hx, hm, hs, q⟩ := h
  cases (show v = Value.ref a from rx)
  cases (show u = Value.ref a from ry)
  obtain ⟨oe, od, J⟩ := xat_get I hx
  exact self_rich hr.units0 I.kIn J hm hs ⟨.bl true, H, I, rfl, q⟩
theorem op_or {op : Value → Value → Sem Value} {r1 r2 : R2} (h1 : OpR X op r1) (h2 : OpR X op r2) : OpR X op (fun x y H Q => r1 x y H Q ∨ r2 x y H Q) := fun pins s σ H x y v u Q I rx ry h => h.elim (h1 pins s σ H x y v u Q I rx ry) (h2 pins s σ H x y v u Q I rx ry)
end
end TL
namespace TL
open PySem PySem.Spec PyProof.Rows L2
section
variable {X : Cx} {CX : CXT} {k : Nat} {C f : Addr} {fd : FuncData} {ps : List Str} {sp : Sp} {E : XK}
/-! ### str(x), x an instance with its own __str__ -/
/-! ### repr(x), x an instance with its own __repr__ -/
/-! ### o.m(k = v, ..), a method called by names alone -/
/-! ### C.m(..), m a staticmethod of C: its record at p, its def at f -/
structure SMet (K : PySem.W.Frag) (C : Addr) (m : Str) (p f : Addr) : Prop where
  at_ : PySem.W.findCls K (.ref C) (.type "type") m = some (.get (.builtin "staticmethod.__get__") (.ref p) .none (.ref C))
  rc : ∃ rest, PySem.W.recIn K p "staticmethod" = some (.ref f :: rest)
  kp : PySem.W.keepIn K (.ref f) = true
/-! ### x == y, x an instance with its own __eq__, y something else -/
end
end TL
namespace TL
open PySem L2
/-! ### how keywords bind: one value by place and one by name, or one by name alone -/
def g11 {α : Type} : List α → List α → List α
  | [a], [b] => [a, b]
  | _, _ => []
theorem vals_g11 {vs zs : List V} {us ws : List Value} (r : Vals vs us) (q : Vals zs ws) : Vals (g11 vs zs) (g11 us ws) := by
  rcases r with _ | ⟨h1, _ | ⟨_, _⟩⟩ <;> rcases q with _ | ⟨h2, _ | ⟨_, _⟩⟩ <;> first | exact .nil | exact .cons h1 (.cons h2 .nil)
theorem g11_two {α : Type} {us ws : List α} (h : (g11 us ws).length = 2) : ∃ a b, us = [a] ∧ ws = [b] := by
  match us, ws, h with
  | [a], [b], _ => exact ⟨a, b, rfl, rfl⟩
  | [], _, h => simp [g11] at h
  | _ :: _ :: _, _, h => simp [g11] at h
  | [_], [], h => simp [g11] at h
  | [_], _ :: _ :: _, h => simp [g11] at h
theorem Fun.kb11 {K : PySem.W.Frag} {x qual : Str} {st : Stmt} {f : Addr} {fd : FuncData} {p1 p2 : Str} (F : L2.Fun K x qual st f fd)
    (h : ∀ (kV doc pm : Value) (an : Option Addr) (cdv ct a b : Value), bindArgs (PySem.W.fnOf x qual (defArgs st) (defBody st) (defScope st) .none kV doc pm an cdv ct) ⟨[a], [(p2, b)]⟩ = pure [(p1, a), (p2, b)]) : KBinds K fd [p1, p2] [p2] g11 g11 := by
  obtain ⟨oc, od, kV, doc, pm, an, cdv, ct, osl, rfl, lk, hcd⟩ := F.ex
  refine ⟨fun s us ws X hl => ?_, vals_g11⟩
  obtain ⟨a, b, rfl, rfl⟩ := g11_two hl
  exact .of_eq (h _ _ _ _ _ _ a b)
end TL
namespace TL
open PySem L2
/-! ### a def called by names alone -/
section
variable {X : Cx} {CX : CXT} {k : Nat} {x : Str} {f : Addr} {fd : FuncData} {ps ks : List Str} {sp : Sp} {E : XK} {tk : TA} {kws : List Keyword} {p pos : Pos} {g : List Value → List Value → List Value} {gV : List V → List V → List V}
end
end TL
namespace TL
open PySem L2
end TL
namespace TL
open PySem L2
/-- self by place, two values by name, the second parameter first -/
def g12s {α : Type} : List α → List α → List α
  | [a], [b, c] => [a, c, b]
  | _, _ => []
theorem vals_g12s {vs zs : List V} {us ws : List Value} (r : Vals vs us) (q : Vals zs ws) : Vals (g12s vs zs) (g12s us ws) := by
  rcases r with _ | ⟨h1, _ | ⟨_, _⟩⟩ <;> rcases q with _ | ⟨h2, _ | ⟨h3, _ | ⟨_, _⟩⟩⟩ <;> first | exact .nil | exact .cons h1 (.cons h3 (.cons h2 .nil))
theorem g12s_three {α : Type} {us ws : List α} (h : (g12s us ws).length = 3) : ∃ a b c, us = [a] ∧ ws = [b, c] := by
  match us, ws, h with
  | [a], [b, c], _ => exact ⟨a, b, c, rfl, rfl⟩
  | [], _, h => simp [g12s] at h
  | _ :: _ :: _, _, h => simp [g12s] at h
  | [_], [], h => simp [g12s] at h
  | [_], [_], h => simp [g12s] at h
  | [_], _ :: _ :: _ :: _, h => simp [g12s] at h
theorem Fun.kb12s {K : PySem.W.Frag} {x qual : Str} {st : Stmt} {f : Addr} {fd : FuncData} {p1 p2 p3 : Str} (F : L2.Fun K x qual st f fd)
    (h : ∀ (kV doc pm : Value) (an : Option Addr) (cdv ct a b c : Value), bindArgs (PySem.W.fnOf x qual (defArgs st) (defBody st) (defScope st) .none kV doc pm an cdv ct) ⟨[a], [(p3, c), (p2, b)]⟩ = pure [(p1, a), (p2, b), (p3, c)]) : KBinds K fd [p1, p2, p3] [p3, p2] g12s g12s := by
  obtain ⟨oc, od, kV, doc, pm, an, cdv, ct, osl, rfl, lk, hcd⟩ := F.ex
  refine ⟨fun s us ws X hl => ?_, vals_g12s⟩
  obtain ⟨a, b, c, rfl, rfl⟩ := g12s_three hl
  exact .of_eq (h _ _ _ _ _ _ a c b)
end TL
namespace TL
open PySem PySem.Spec PyProof.Rows L2
/-! ### max and min of a tuple of ints -/
section
variable {prog : Program} {w : World} {A : Around} {E : Value → Shared → Prop} {s : Shared} {l : Addr} {xs : Array (Int × Tok)}
end
section
variable {prog : Program} {w : World} {A : Around} {E : Value → Shared → Prop} {s : Shared} {l : Addr} {its : List Value} {ns : List Int} {Q : Value → Shared → Prop}
end
section
variable {X : Cx}
end
end TL
set_option maxHeartbeats 4000000
namespace TL
open PySem PySem.Spec PyProof.Rows L2
/-! ### own errors made by names -/
section
variable {M : Model} {prog : Program} {w : World} {A : Around} {E : Value → Shared → Prop} {R : Result → Shared → Prop} {h : Heap} {g : Array GenState} {d : Drawn} {t : Nat} {os : OsState}
variable {nm qn : Str} {C N : Addr} {bs bm bmB : List Value} {hd : Bool} {sn : List Str} {sub : List Value} {ab : Bool} {col : Option Bool} {dd : Option Addr} {k0 k1 k2 k3 k5 : Option Value} {B newId initId : String} {us : List Value} {kw : List (Str × Value)}
theorem kw_checkNew (O : ExcBaseFacts B newId initId bmB) (eq : ∀ X : String, bm.contains (.type X) = bmB.contains (.type X)) {Q : Unit → Shared → Prop}
    (at_ : h.get? C = some (excClassObj nm qn C N bs bm hd sn sub ab col dd k0 k1 k2 k3 k5 newId)) (q : Q () ⟨h, g, d, t, os⟩) : wpAny M A (checkBuiltinCall newId ⟨.ref C :: us, kw⟩) Q E ⟨h, g, d, t, os⟩ := by
  have below : (Value.ref C :: bm).contains (.type B) = true := by
    rw [List.contains_cons, eq, O.hasB, Bool.or_true]
  have noStar := O.noStar
  simp only [checkBuiltinCall, O.newKind, O.newSplit, O.newRow]
  repeat (first
    | refine wpAny_loadPart_at at_ ?_
    | (refine wpAny_isSubtype_exc at_ ?_; rw [below])
    | refine wpAny_staticBase_exc at_ ?_
    | refine wpAny_madeBy_exc at_ ?_
    | simp only [bne_self_eq_false, Bool.false_eq_true, if_false]
    | wp_step)
  exact q
theorem kw_new (O : ExcBaseFacts B newId initId bmB) (eq : ∀ X : String, bm.contains (.type X) = bmB.contains (.type X)) (at_ : h.get? C = some (excClassObj nm qn C N bs bm hd sn sub ab col dd k0 k1 k2 k3 k5 newId))
    (q : R (.ok (.ret (.ref (h.objs.size + 1)))) ⟨(h.push (W.kdv_tup us)).push (PySem.HandSPX.excO C h.objs.size), g, d, t, os⟩) (l : us.length ≤ sizeLine) :
    codeAny (model prog w) A (.builtin newId ⟨.ref C :: us, kw⟩) R ⟨h, g, d, t, os⟩ := by
  have hends := O.ends
  have below : (Value.ref C :: bm).contains (.type B) = true := by
    rw [List.contains_cons, eq, O.hasB, Bool.or_true]
  have nAttr : (Value.ref C :: bm).contains (.type "AttributeError") = false := by
    rw [List.contains_cons, eq, O.noAttr]
    rfl
  have nName : (Value.ref C :: bm).contains (.type "NameError") = false := by
    rw [List.contains_cons, eq, O.noName]
    rfl
  refine codeAny_builtinAt O.entry (?_)
  unfold Builtin.«BaseException.__new__»
  refine PySem.wpAt_bind ?_
  show PySem.wpAt _ _ _ (stack >>= _) _ _ _
  refine PySem.wpAt_bind (PySem.wpAt_stack fun p below' => PySem.wpAt_of_wpAny ?_)
  wp_walk
  refine PySem.wpAt_of_wpAny ?_
  rw [O.owner]
  repeat (first
    | with_reducible refine wpAny_madeHere_exc O.canon at_ ?_
    | with_reducible refine wpAny_loadPart_at at_ ?_
    | (with_reducible refine wpAny_isSubtype_exc at_ ?_
       first | rw [below] | rw [nAttr] | rw [nName])
    | wp_step)
  show R _ _
  rw [Heap.size_push]
  exact q
theorem kw_typeCall (O : ExcBaseFacts B newId initId bmB) (eq : ∀ X : String, bm.contains (.type X) = bmB.contains (.type X)) {fI : Addr} {Q : Fin → Shared → Prop} (at_ : h.get? C = some (excClassObj nm qn C N bs bm hd sn sub ab col dd k0 k1 k2 k3 k5 newId))
    (ini : W.Looks (model prog w) h (typeLookup (.ref C) "__init__") (some (.ref fI))) (bnd : ∀ me, W.Looks (model prog w) h (bindSpecial (.ref fI) me) (.ref fI, [me])) (l : us.length ≤ sizeLine)
    (q : codeAny (model prog w) A (.call (.ref fI) ⟨.ref (h.objs.size + 1) :: us, kw⟩) (fun r u => match r with | .ok (.ret v) => v = .none ∧ Q (.done (.ret (.ref (h.objs.size + 1)))) u | .ok _ => False | .error e => E e u)
      ⟨(h.push (W.kdv_tup us)).push (PySem.HandSPX.excO C h.objs.size), g, d, t, os⟩) :
    wpAny (model prog w) A (Builtin.«type.__call__» ⟨.ref C :: us, kw⟩) Q E ⟨h, g, d, t, os⟩ := by
  repeat (first
    | with_reducible refine wpAny_loadPart_at at_ ?_
    | with_reducible refine wpAny_madeBy_exc at_ ?_
    | wp_step)
  refine codeAny_call_builtin_code (Code.quiet_builtin _ O.quiet) (kw_checkNew O eq at_ ?_)
  refine kw_new O eq at_ ?_ l
  show wpAny _ _ _ _ _ _
  have kp : ∀ b o, h.get? b = some o → ((h.push (W.kdv_tup us)).push (PySem.HandSPX.excO C h.objs.size)).get? b = some o := fun b o z => Heap.get?_push_of_some _ (Heap.get?_push_of_some _ z)
  have at1 := kp _ _ at_
  have me_ : ((h.push (W.kdv_tup us)).push (PySem.HandSPX.excO C h.objs.size)).get? (h.objs.size + 1) = some (PySem.HandSPX.excO C h.objs.size) := by
    heap_get
  have inC : (Value.ref C :: bm).contains (.ref C) = true := by
    simp
  have ini1 := ini.keeps kp
  have bnd1 := (bnd (.ref (h.objs.size + 1))).keeps kp
  unfold isInstance
  repeat (first
    | with_reducible refine wpAny_loadPart_at me_ ?_
    | (with_reducible refine wpAny_isSubtype_exc at1 ?_
       rw [inC])
    | wp_step)
  show wpAny _ _ (typeLookup (.ref C) _) _ _ _
  refine ini1.at (?_)
  refine wpAny_holding (wpAny_bind (bnd1.at (?_)))
  refine wpAny_bind (wpAny_call (codeAny_mono q fun r u z => ?_))
  cases r with
  | error e => exact z
  | ok fl =>
    cases fl with
    | ret v =>
      obtain ⟨rfl, z⟩ := z
      first
        | exact wpAny_pure (wpAny_pure z)
        | (wp_walk
           exact z)
    | next => exact z.elim
    | brk => exact z.elim
    | cont => exact z.elim
theorem kw_check (at_ : h.get? C = some (excClassObj nm qn C N bs bm hd sn sub ab col dd k0 k1 k2 k3 k5 newId)) {Q : Unit → Shared → Prop} (q : Q () ⟨h, g, d, t, os⟩) : wpAny M A (checkBuiltinCall "type.__call__" ⟨.ref C :: us, kw⟩) Q E ⟨h, g, d, t, os⟩ := by
  have z3 := tc_sub
  have ty : (⟨h, g, d, t, os⟩ : Shared).TypeIs (.ref C) "type" := ⟨_, at_, rfl⟩
  simp only [checkBuiltinCall, tc_kind, tc_split]
  repeat (any_goals (first
    | assumption
    | with_reducible refine wpAny_loadPart_at at_ ?_
    | with_reducible refine wpAny_onRaise ?_
    | with_reducible refine wpAny_map ?_
    | wp_step))
theorem kw_call (O : ExcBaseFacts B newId initId bmB) (eq : ∀ X : String, bm.contains (.type X) = bmB.contains (.type X)) {fI : Addr} (at_ : h.get? C = some (excClassObj nm qn C N bs bm hd sn sub ab col dd k0 k1 k2 k3 k5 newId))
    (ini : W.Looks (model prog w) h (typeLookup (.ref C) "__init__") (some (.ref fI))) (bnd : ∀ me, W.Looks (model prog w) h (bindSpecial (.ref fI) me) (.ref fI, [me])) (l : us.length ≤ sizeLine)
    (q : codeAny (model prog w) (A.under (.builtin "type.__call__" ⟨.ref C :: us, kw⟩)) (.call (.ref fI) ⟨.ref (h.objs.size + 1) :: us, kw⟩) (W.InitBack (h.objs.size + 1) R) ⟨(h.push (W.kdv_tup us)).push (PySem.HandSPX.excO C h.objs.size), g, d, t, os⟩) :
    codeAny (model prog w) A (.call (.ref C) ⟨us, kw⟩) R ⟨h, g, d, t, os⟩ := by
  have z1 := tc_lookup
  have z2 := tc_bind (.ref C)
  have ty : (⟨h, g, d, t, os⟩ : Shared).TypeIs (.ref C) "type" := ⟨_, at_, rfl⟩
  refine codeAny_of_tree (?_)
  show wpAny _ _ (callAny (.ref C) _) _ _ _
  repeat (any_goals (first
    | assumption
    | with_reducible refine wpAny_loadPart_at at_ ?_
    | wp_step))
  refine ⟨rfl, (?_)⟩
  refine codeAny_call_builtin_at (Code.quiet_builtin _ (by decide +kernel)) entry_typeCall (kw_check at_ (kw_typeCall O eq at_ ini bnd l ?_))
  refine codeAny_mono q fun r u z => ?_
  cases r with
  | error e => exact z
  | ok fl => cases fl <;> exact z
end
/-- self by place, two values by name, in the parameters' order -/
def g12 {α : Type} : List α → List α → List α
  | [a], [b, c] => [a, b, c]
  | _, _ => []
theorem vals_g12 {vs zs : List V} {us ws : List Value} (r : Vals vs us) (q : Vals zs ws) : Vals (g12 vs zs) (g12 us ws) := by
  rcases r with _ | ⟨h1, _ | ⟨_, _⟩⟩ <;> rcases q with _ | ⟨h2, _ | ⟨h3, _ | ⟨_, _⟩⟩⟩ <;> first | exact .nil | exact .cons h1 (.cons h2 (.cons h3 .nil))
theorem g12_three {α : Type} {us ws : List α} (h : (g12 us ws).length = 3) : ∃ a b c, us = [a] ∧ ws = [b, c] := by
  match us, ws, h with
  | [a], [b, c], _ => exact ⟨a, b, c, rfl, rfl⟩
  | [], _, h => simp [g12] at h
  | _ :: _ :: _, _, h => simp [g12] at h
  | [_], [], h => simp [g12] at h
  | [_], [_], h => simp [g12] at h
  | [_], _ :: _ :: _ :: _, h => simp [g12] at h
theorem Fun.kb12 {K : PySem.W.Frag} {x qual : Str} {st : Stmt} {f : Addr} {fd : FuncData} {p1 p2 p3 : Str} (F : L2.Fun K x qual st f fd)
    (h : ∀ (kV doc pm : Value) (an : Option Addr) (cdv ct a b c : Value), bindArgs (PySem.W.fnOf x qual (defArgs st) (defBody st) (defScope st) .none kV doc pm an cdv ct) ⟨[a], [(p2, b), (p3, c)]⟩ = pure [(p1, a), (p2, b), (p3, c)]) : KBinds K fd [p1, p2, p3] [p2, p3] g12 g12 := by
  obtain ⟨oc, od, kV, doc, pm, an, cdv, ct, osl, rfl, lk, hcd⟩ := F.ex
  refine ⟨fun s us ws X hl => ?_, vals_g12⟩
  obtain ⟨a, b, c, rfl, rfl⟩ := g12_three hl
  exact .of_eq (h _ _ _ _ _ _ a b c)
end TL
set_option maxHeartbeats 4000000
namespace TL
open PySem PySem.Spec PyProof.Rows L2
/-! ### C(..), an error of an own class: as a value, raised; its values by place or by name -/
theorem binds_kb {K : PySem.W.Frag} {fd : FuncData} {ps : List Str} (b : Binds K fd ps []) : KBinds K fd ps [] (fun us _ => us) (fun vs _ => vs) :=
  ⟨fun s us ws X hl => by
    have z := b s us X (by rw [List.append_nil]; exact hl)
    rw [List.append_nil] at z
    exact z, fun r _ => r⟩
/-- what a new error of the class at C is, its __init__ keeping sp -/
def tEr (C : Addr) (sp : Sp) (gV : List V → List V → List V) (ta tk : TA) : TE := fun σ H Q => ta σ H fun vs H1 => tk σ H1 fun zs H2 => vs.length ≤ 1000 ∧ ∀ a, H2 a = none → sp (gV (.ref a :: vs) zs) (upd H2 a (exo a C none)) (fun v H3 => v = .non ∧ Q (.ref a) H3) E0
def tErX (C : Addr) (sp : Sp) (gV : List V → List V → List V) (ta tk : TA) : L2.St → Hp → XK → Prop := fun σ H Q => ta σ H fun vs H1 => tk σ H1 fun zs H2 => vs.length ≤ 1000 ∧ ∀ a, H2 a = none → sp (gV (.ref a :: vs) zs) (upd H2 a (exo a C none))
  (fun v H3 => v = .non ∧ ∃ (d : Addr) (fs : List (Str × V)), H3 a = some (exo a C (some d)) ∧ H3 d = some (exd d fs) ∧ H2 d = none ∧ Q (.ref C) (some d) (upd (del H3 a) d (.xd fs))) E0
section
variable {X : Cx} {CX : CXT} {x : Str} {C fI : Addr} {k : Nat} {fd : FuncData} {ps ks : List Str} {sp : Sp} {g : List Value → List Value → List Value} {gV : List V → List V → List V} {p pos : Pos} {e : Expr} {es : List Expr} {kws : List Keyword} {ta tk : TA}
variable {pins : List (Addr × Obj)} {σ : L2.St} {H : Hp} {s : Shared} {us ws : List Value} {vs zs : List V}
theorem run_er {Q : VK} (T : OexG X.K C) (iC : PySem.W.findIn X.K (.ref C) "__init__" = some (some (.ref fI))) (tI : PySem.W.typeIn X.K (.ref fI) = some (.type "function")) (F1 : FnOk X.prog X.w X.K X.mg X.base CX k fI fd ps sp) (hr : Room (k + 1) X.A) (hb : KBinds X.K fd ps ks g gV)
    (hx : Passes CX X E0) (I : Inv X pins σ H s) (r : Vals vs us) (rz : Vals zs ws) (lv : vs.length ≤ 1000) (h : ∀ a, H a = none → sp (gV (.ref a :: vs) zs) (upd H a (exo a C none)) (fun v H2 => v = .non ∧ Q (.ref a) H2) E0) :
    wpAny (model X.prog X.w) X.A (call (.ref C) us (ks.zip ws)) (EP X pins σ Q) X.xe s := by
  obtain ⟨B, newId, initId, bmB, nm, q, N, bs, bm, sn, sub, ab, col, dd, k0, k1, k2, k3, k5, O, hC, ht⟩ := T.cls
  obtain ⟨hh, gg, dr, tt, oo⟩ := s
  have lz : hh.objs.size ≤ hh.objs.size + 1 := Nat.le_succ _
  have qB := h (hh.objs.size + 1) (I.hok.fresh lz)
  have stay : ∀ b u, hh.get? b = some u → ((hh.push (PySem.W.kdv_tup us)).push (PySem.HandSPX.excO C hh.objs.size)).get? b = some u := fun b u hu => Heap.get?_push_of_some _ (Heap.get?_push_of_some _ hu)
  have made : ((hh.push (PySem.W.kdv_tup us)).push (PySem.HandSPX.excO C hh.objs.size)).get? (hh.objs.size + 1) = some (PySem.HandSPX.excO C hh.objs.size) := by heap_get
  have IB : Inv X pins σ (upd H (hh.objs.size + 1) (exo (hh.objs.size + 1) C none)) ⟨(hh.push (PySem.W.kdv_tup us)).push (PySem.HandSPX.excO C hh.objs.size), gg, dr, tt, oo⟩ := I.laid (t' := tt) stay lz (exo_ok made)
  have r2 := hb.rel (show Vals (V.ref (hh.objs.size + 1) :: vs) (Value.ref (hh.objs.size + 1) :: us) from .cons rfl r) rz
  have lw : us.length ≤ sizeLine := by
    rw [← Paired.length r, sizeLine_eq]
    omega
  have lp : (g (Value.ref (hh.objs.size + 1) :: us) ws).length = ps.length := by
    rw [← r2.length]
    exact F1.len _ _ _ _ qB
  refine wpAny_call (kw_call O.F (fun Y => PySem.W.excTail_contains Y bm ht) (I.kIn _ _ hC) (PySem.W.looks_findIn I.kIn iC) (fun me => PySem.W.bind_fn I.kIn me tI) lw
    (codeAny_mono (F1.run _ X.stack _ _ ⟨Value.ref (hh.objs.size + 1) :: us, ks.zip ws⟩ (g (Value.ref (hh.objs.size + 1) :: us) ws) _ _ E0 (hr.make C us (ks.zip ws)) (IB.env0.make C us (ks.zip ws)) (hb.to _ (Value.ref (hh.objs.size + 1) :: us) ws IB.kIn lp) r2 qB) fun fl u hq => ?_))
  match fl, hq with
  | .error er, hq => exact hx pins σ _ _ er u IB hq
  | .ok (.ret v), hq =>
    obtain ⟨z, HC, IC, rv, ev, qC⟩ := IB.after hq
    subst ev
    exact ⟨rv, .ref (hh.objs.size + 1), HC, IC, rfl, qC⟩
  | .ok .next, hq => exact False.elim hq
  | .ok .brk, hq => exact False.elim hq
  | .ok .cont, hq => exact False.elim hq
theorem run_erX {Q : XK} (T : OexG X.K C) (iC : PySem.W.findIn X.K (.ref C) "__init__" = some (some (.ref fI))) (tI : PySem.W.typeIn X.K (.ref fI) = some (.type "function")) (F1 : FnOk X.prog X.w X.K X.mg X.base CX k fI fd ps sp) (hr : Room (k + 1) X.A) (hb : KBinds X.K fd ps ks g gV)
    (hx : Passes CX X E0) (I : Inv X pins σ H s) (r : Vals vs us) (rz : Vals zs ws) (lv : vs.length ≤ 1000) (h : ∀ a, H a = none → sp (gV (.ref a :: vs) zs) (upd H a (exo a C none)) (fun v H3 => v = .non ∧ ∃ (d : Addr) (fs : List (Str × V)), H3 a = some (exo a C (some d)) ∧ H3 d = some (exd d fs) ∧ H d = none ∧ Q (.ref C) (some d) (upd (del H3 a) d (.xd fs))) E0) :
    wpAny (model X.prog X.w) X.A (call (.ref C) us (ks.zip ws)) (MkP X pins σ Q) X.xe s := by
  obtain ⟨B, newId, initId, bmB, nm, q, N, bs, bm, sn, sub, ab, col, dd, k0, k1, k2, k3, k5, O, hC, ht⟩ := T.cls
  obtain ⟨hh, gg, dr, tt, oo⟩ := s
  have lz : hh.objs.size ≤ hh.objs.size + 1 := Nat.le_succ _
  have qB := h (hh.objs.size + 1) (I.hok.fresh lz)
  have stay : ∀ b u, hh.get? b = some u → ((hh.push (PySem.W.kdv_tup us)).push (PySem.HandSPX.excO C hh.objs.size)).get? b = some u := fun b u hu => Heap.get?_push_of_some _ (Heap.get?_push_of_some _ hu)
  have made : ((hh.push (PySem.W.kdv_tup us)).push (PySem.HandSPX.excO C hh.objs.size)).get? (hh.objs.size + 1) = some (PySem.HandSPX.excO C hh.objs.size) := by heap_get
  have IB : Inv X pins σ (upd H (hh.objs.size + 1) (exo (hh.objs.size + 1) C none)) ⟨(hh.push (PySem.W.kdv_tup us)).push (PySem.HandSPX.excO C hh.objs.size), gg, dr, tt, oo⟩ := I.laid (t' := tt) stay lz (exo_ok made)
  have r2 := hb.rel (show Vals (V.ref (hh.objs.size + 1) :: vs) (Value.ref (hh.objs.size + 1) :: us) from .cons rfl r) rz
  have lw : us.length ≤ sizeLine := by
    rw [← Paired.length r, sizeLine_eq]
    omega
  have lp : (g (Value.ref (hh.objs.size + 1) :: us) ws).length = ps.length := by
    rw [← r2.length]
    exact F1.len _ _ _ _ qB
  refine wpAny_call (kw_call O.F (fun Y => PySem.W.excTail_contains Y bm ht) (I.kIn _ _ hC) (PySem.W.looks_findIn I.kIn iC) (fun me => PySem.W.bind_fn I.kIn me tI) lw
    (codeAny_mono (F1.run _ X.stack _ _ ⟨Value.ref (hh.objs.size + 1) :: us, ks.zip ws⟩ (g (Value.ref (hh.objs.size + 1) :: us) ws) _ _ E0 (hr.make C us (ks.zip ws)) (IB.env0.make C us (ks.zip ws)) (hb.to _ (Value.ref (hh.objs.size + 1) :: us) ws IB.kIn lp) r2 qB) fun fl u hq => ?_))
  match fl, hq with
  | .error er, hq => exact hx pins σ _ _ er u IB hq
  | .ok (.ret v), hq =>
    obtain ⟨z, HC, osC, bareC, unC, hokC, rv, ev, d, fs, ea, ed, hd1, qC⟩ := hq
    subst ev
    obtain ⟨hc, gc, dc, tc, oc⟩ := u
    exact ⟨rv, mk_end (raises_own T.exC T.tyC) I lz stay unC hokC osC bareC ea ed hd1 qC⟩
  | .ok .next, hq => exact False.elim hq
  | .ok .brk, hq => exact False.elim hq
  | .ok .cont, hq => exact False.elim hq
section
variable (T : OexG X.K C) (iC : PySem.W.findIn X.K (.ref C) "__init__" = some (some (.ref fI))) (tI : PySem.W.typeIn X.K (.ref fI) = some (.type "function")) (F1 : FnOk X.prog X.w X.K X.mg X.base CX k fI fd ps sp) (hr : Room (k + 1) X.A) (hx : Passes CX X E0) (hg : Gl X x) (hm : X.mg x = some (.ref C))
include T iC tI F1 hr hx hg hm
/-- C() -/
theorem pe_er0 (hb : Binds X.K fd ps []) (hdb : (x == ("__debug__" : Str)) = false := by decide) : PE X (.Call (.Name x p) [] [] pos) (tEr C sp (fun vs _ => vs) tNil tNil) := by
  constructor
  intro pins s σ H Q I h
  refine wpAny_Call_Name_kw (ld_glob I hg hm ?_ hdb)
  refine PySem.W.callWith_K0 I.kIn T.kC ?_
  exact run_er (us := []) (ws := []) T iC tI F1 hr (binds_kb hb) hx I .nil .nil h.1 h.2
theorem pmk_er0 (hb : Binds X.K fd ps []) (hdb : (x == ("__debug__" : Str)) = false := by decide) : PMk X (.Call (.Name x p) [] [] pos) (tErX C sp (fun vs _ => vs) tNil tNil) := by
  intro pins s σ H Q I h
  refine wpAny_Call_Name_kw (ld_glob I hg hm ?_ hdb)
  refine PySem.W.callWith_K0 I.kIn T.kC ?_
  exact run_erX (us := []) (ws := []) T iC tI F1 hr (binds_kb hb) hx I .nil .nil h.1 h.2
/-- C(e, ..) -/
theorem pe_erA (hb : Binds X.K fd ps []) (ha : PA X (e :: es) ta) (hdb : (x == ("__debug__" : Str)) = false := by decide) (he : starEach (e :: es) X.env = (false, eval e X.env) :: starEach es X.env := by rfl) (hpl : (backTo pos (starEach es X.env)).any (·.1) = false := by rfl) :
    PE X (.Call (.Name x p) (e :: es) [] pos) (tEr C sp (fun vs _ => vs) ta tNil) := by
  constructor
  intro pins s σ H Q I h
  refine wpAny_Call_Name_kw (ld_glob I hg hm ?_ hdb)
  refine PySem.W.callWith_K (h₀ := X.base) I.ok.mod.kin T.kC (thn (ha.run pos pins s σ H _ I h) fun us s1 ⟨vs, H1, I1, r1, lv, q1⟩ => ⟨I1.kIn, ?_⟩) he hpl
  exact run_er (ws := []) T iC tI F1 hr (binds_kb hb) hx I1 r1 .nil lv q1
theorem pmk_erA (hb : Binds X.K fd ps []) (ha : PA X (e :: es) ta) (hdb : (x == ("__debug__" : Str)) = false := by decide) (he : starEach (e :: es) X.env = (false, eval e X.env) :: starEach es X.env := by rfl) (hpl : (backTo pos (starEach es X.env)).any (·.1) = false := by rfl) :
    PMk X (.Call (.Name x p) (e :: es) [] pos) (tErX C sp (fun vs _ => vs) ta tNil) := by
  intro pins s σ H Q I h
  refine wpAny_Call_Name_kw (ld_glob I hg hm ?_ hdb)
  refine PySem.W.callWith_K (h₀ := X.base) I.ok.mod.kin T.kC (thn (ha.run pos pins s σ H _ I h) fun us s1 ⟨vs, H1, I1, r1, lv, q1⟩ => ⟨I1.kIn, ?_⟩) he hpl
  exact run_erX (ws := []) T iC tI F1 hr (binds_kb hb) hx I1 r1 .nil lv q1
/-- C(k = e, ..) -/
theorem pe_erK (hb : KBinds X.K fd ps ks g gV) (hkw : PK X kws tk) (hall : (backToKw pos (keywordEach kws X.env)).all (·.1.isSome) = true := by rfl) (hks : (backToKw pos (keywordEach kws X.env)).filterMap (·.1) = ks := by rfl) (hdb : (x == ("__debug__" : Str)) = false := by decide)
    (hpl : ((backTo pos (starEach [] X.env)).any (·.1) || (backToKw pos (keywordEach kws X.env)).any (·.1.isNone)) = false := by rfl) : PE X (.Call (.Name x p) [] kws pos) (tEr C sp gV tNil tk) := by
  constructor
  intro pins s σ H Q I h
  refine wpAny_Call_Name_kw (ld_glob I hg hm ?_ hdb)
  refine PySem.W.callWith_KW0 (first := []) (h₀ := X.base) I.ok.mod.kin T.kC hall (thn (hkw.run pos pins s σ H _ I h) fun ws s1 ⟨zs, H1, I1, rz, lv, q1⟩ => ⟨I1.kIn, ?_⟩) hpl
  rw [hks]
  exact run_er (us := []) T iC tI F1 hr hb hx I1 .nil rz lv q1
theorem pmk_erK (hb : KBinds X.K fd ps ks g gV) (hkw : PK X kws tk) (hall : (backToKw pos (keywordEach kws X.env)).all (·.1.isSome) = true := by rfl) (hks : (backToKw pos (keywordEach kws X.env)).filterMap (·.1) = ks := by rfl) (hdb : (x == ("__debug__" : Str)) = false := by decide)
    (hpl : ((backTo pos (starEach [] X.env)).any (·.1) || (backToKw pos (keywordEach kws X.env)).any (·.1.isNone)) = false := by rfl) : PMk X (.Call (.Name x p) [] kws pos) (tErX C sp gV tNil tk) := by
  intro pins s σ H Q I h
  refine wpAny_Call_Name_kw (ld_glob I hg hm ?_ hdb)
  refine PySem.W.callWith_KW0 (first := []) (h₀ := X.base) I.ok.mod.kin T.kC hall (thn (hkw.run pos pins s σ H _ I h) fun ws s1 ⟨zs, H1, I1, rz, lv, q1⟩ => ⟨I1.kIn, ?_⟩) hpl
  rw [hks]
  exact run_erX (us := []) T iC tI F1 hr hb hx I1 .nil rz lv q1
end
/-- e.f, e an error as a value -/
def tXv (K : PySem.W.Frag) (te : TE) (f : Str) : TE := fun σ H Q => te σ H fun v H1 => ∃ (a C dd : Addr) (fs : List (Str × V)) (y : V), v = .ref a ∧ XfC K C ∧ PySem.W.findIn K (.ref C) f = some none ∧ H1 a = some (exo a C (some dd)) ∧ H1 dd = some (exd dd fs) ∧ fs.lookup f = some y ∧ Q y H1
theorem pe_xv {te : TE} {n : Str} (he : PE X e te) (hb : attributeBase e n X.env (eval e X.env) = eval e X.env := by rfl) : PE X (.Attribute e n pos) (tXv X.K te n) := by
  constructor
  intro ps t τ G Q J h
  refine attr_of hb (thn (he.run ps t τ G _ J h) fun u r hh => ?_)
  obtain ⟨v, G1, J1, rv, a, C, dd, fs, y, rfl, T, no, ha, hd, lf, q⟩ := hh
  cases (show u = Value.ref a from rv)
  obtain ⟨t1, at1⟩ := exo_at J1.hok ha
  obtain ⟨mA, nsD, told⟩ := exd_at J1.hok hd
  obtain ⟨od, look, same⟩ := lookIn_ns nsD
  obtain ⟨z, ey, ry⟩ := RelO.some_of (v := y) (o := mA n) (lf ▸ told n)
  have inst : PySem.W.InstAt r.heap a _ C (some od) := ⟨at1, rfl, rfl, look⟩
  exact HandSPX.exc_get J1.kIn inst T.ga T.gg T.exC (PySem.W.findObj_own T.hdC no rfl ((same n).trans (congrArg some ey))) (handed_of ry) ⟨y, G1, J1.tok _, ry, q⟩
end
end TL
namespace TL
open PySem PySem.Spec PyProof.Rows L2
/-! ### a value known through and through: numbers, truths, texts, None, lists and tuples, ratios, errors -/
inductive Dv (K : PySem.W.Frag) (C CE g : Addr) (H : Hp) : Nat → V → Prop
  | i {m : Nat} (n : Int) : Dv K C CE g H m (.int n)
  | b {m : Nat} (x : Bool) : Dv K C CE g H m (.bl x)
  | s {m : Nat} (x : Str) : Dv K C CE g H m (.str x)
  | n {m : Nat} : Dv K C CE g H m .non
  | l {m : Nat} {a : Addr} {xs : List V} (h : H a = some (.lst xs)) (ne : a ≠ g) (hz : xs.length ≤ 1000) (hx : ∀ x ∈ xs, Dv K C CE g H m x) : Dv K C CE g H (m + 1) (.ref a)
  | t {m : Nat} {a : Addr} {xs : List V} (h : SqT K H a xs) (hz : xs.length ≤ 1000) (hx : ∀ x ∈ xs, Dv K C CE g H m x) : Dv K C CE g H (m + 1) (.ref a)
  | o {m : Nat} {a dx : Addr} {fs : List (Str × V)} {n k : Int} (h : H a = some (.ins C dx fs)) (ho : fs.lookup ("over" : Str) = some (.int n)) (hu : fs.lookup ("under" : Str) = some (.int k)) : Dv K C CE g H m (.ref a)
  | x {m : Nat} {a : Addr} (h : XAt H a CE) : Dv K C CE g H m (.ref a)
section
variable {K : PySem.W.Frag} {C CE g : Addr} {H H' : Hp} {v : V} {m : Nat}
theorem Dv.same (h : Dv K C CE g H m v) (s : Same H H') : Dv K C CE g H' m v := by
  induction h with
  | i n => exact .i n
  | b x => exact .b x
  | s x => exact .s x
  | n => exact .n
  | l h ne hz _ ih => exact .l (s _ _ h) ne hz ih
  | t h hz _ ih => exact .t (seqT s h) hz ih
  | o h ho hu => exact .o (s _ _ h) ho hu
  | x h => exact .x (h.same s)
theorem Dv.kb {B : Bg} (h : Dv K C CE B.b H m v) (hB : Bag B H) (s : Kb B.b H H') : Dv K C CE B.b H' m v := by
  obtain ⟨i, r, z, c, e, _⟩ := id hB.ex
  induction h with
  | i n => exact .i n
  | b x => exact .b x
  | s x => exact .s x
  | n => exact .n
  | l h ne hz _ ih => exact .l (s _ _ h ne) ne hz ih
  | t h hz _ ih => exact .t (seqT_kb e s h) hz ih
  | o h ho hu => exact .o (s _ _ h (ne_of h e (by intro z; cases z))) ho hu
  | x h => exact .x (h.kb e s)
theorem Dv.it (h : Dv K C CE g H m v) : ∃ k, It2 K C CE g H v k := by
  cases h with
  | i n => exact ⟨_, .i n⟩
  | b x => exact ⟨_, .b x⟩
  | s x => exact ⟨_, .s x⟩
  | n => exact ⟨_, .n⟩
  | l h ne hz _ => exact ⟨_, .l h ne⟩
  | t h hz _ => exact ⟨_, .t h⟩
  | o h ho hu => exact ⟨_, .o h ho hu⟩
  | x h => exact ⟨_, .x h⟩
theorem Dv.up {n : Nat} (h : Dv K C CE g H m v) (l : m ≤ n) : Dv K C CE g H n v := by
  induction h generalizing n with
  | i k => exact .i k
  | b x => exact .b x
  | s x => exact .s x
  | n => exact .n
  | l h ne hz _ ih => exact match n, l with
    | n + 1, l => .l h ne hz fun x hx => ih x hx (by omega)
  | t h hz _ ih => exact match n, l with
    | n + 1, l => .t h hz fun x hx => ih x hx (by omega)
  | o h ho hu => exact .o h ho hu
  | x h => exact .x h
end
/-! ### what stays beside a bag and the tables -/
section
variable {K : PySem.W.Frag} {C CE g : Addr} {H H' : Hp} {v : V} {m : Nat} {B : Bg}
end
end TL
namespace TL
open PySem L2
/-! ### what evaluates to what -/
def Ev (te : TE) (σ : L2.St) (H : Hp) (R : Hp → V → Prop) : Prop := ∀ H1, Same H H1 → ∀ Q : VK, (∀ v H2, Same H1 H2 → R H2 v → Q v H2) → te σ H1 Q
def Mono (R : Hp → V → Prop) : Prop := ∀ H H' v, Same H H' → R H v → R H' v
def EvH (ta : TA) (σ : L2.St) (H : Hp) (n : Nat) (R : Hp → V → Prop) : Prop := ∀ H1, Same H H1 → ∀ Q : List V → Hp → Prop, (∀ vs H2, Same H1 H2 → vs.length = n → (∀ v ∈ vs, R H2 v) → Q vs H2) → ta σ H1 Q
def AllR (H : Hp) : List (Hp → V → Prop) → List V → Prop
  | [], [] => True
  | R :: Rs, v :: vs => R H v ∧ AllR H Rs vs
  | _, _ => False
def Monos : List (Hp → V → Prop) → Prop
  | [] => True
  | R :: Rs => Mono R ∧ Monos Rs
theorem AllR.same {H H' : Hp} (s : Same H H') : ∀ {Rs : List (Hp → V → Prop)} {vs : List V}, Monos Rs → AllR H Rs vs → AllR H' Rs vs
  | [], [], _, _ => trivial
  | _ :: _, _ :: _, m, h => ⟨m.1 _ _ _ s h.1, AllR.same s m.2 h.2⟩
  | [], _ :: _, _, h => h.elim
  | _ :: _, [], _, h => h.elim
theorem AllR.len {H : Hp} : ∀ {Rs : List (Hp → V → Prop)} {vs : List V}, AllR H Rs vs → vs.length = Rs.length
  | [], [], _ => rfl
  | _ :: _, _ :: _, h => congrArg Nat.succ (AllR.len h.2)
  | [], _ :: _, h => h.elim
  | _ :: _, [], h => h.elim
theorem AllR.get {H : Hp} : ∀ {Rs : List (Hp → V → Prop)} {vs : List V}, AllR H Rs vs → ∀ (i : Nat) v, vs[i]? = some v → ∃ R, Rs[i]? = some R ∧ R H v
  | R :: _, _ :: _, h, 0, v, e => by cases e; exact ⟨R, rfl, h.1⟩
  | _ :: _, _ :: _, h, i + 1, v, e => AllR.get h.2 i v e
  | [], [], _, i, v, e => by cases e
  | [], _ :: _, h, _, _, _ => h.elim
  | _ :: _, [], h, _, _, _ => h.elim
def Evs (ta : TA) (σ : L2.St) (H : Hp) (Rs : List (Hp → V → Prop)) : Prop := ∀ H1, Same H H1 → ∀ Q : List V → Hp → Prop, (∀ vs H2, Same H1 H2 → AllR H2 Rs vs → Q vs H2) → ta σ H1 Q
def LstR (Rs : List (Hp → V → Prop)) : Hp → V → Prop := fun H v => ∃ p vs, v = .ref p ∧ H p = some (.lst vs) ∧ AllR H Rs vs
def TupR (Rs : List (Hp → V → Prop)) : Hp → V → Prop := fun H v => ∃ p vs, v = .ref p ∧ H p = some (.tup vs) ∧ AllR H Rs vs
def IsV (u : V) : Hp → V → Prop := fun _ v => v = u
theorem mIsV {u : V} : Mono (IsV u) := fun _ _ _ _ h => h
theorem LstR.mono {Rs : List (Hp → V → Prop)} (m : Monos Rs) : Mono (LstR Rs) := fun H H' v s ⟨p, vs, e1, e2, e3⟩ => ⟨p, vs, e1, s _ _ e2, e3.same s m⟩
theorem TupR.mono {Rs : List (Hp → V → Prop)} (m : Monos Rs) : Mono (TupR Rs) := fun H H' v s ⟨p, vs, e1, e2, e3⟩ => ⟨p, vs, e1, s _ _ e2, e3.same s m⟩
section
variable {σ : L2.St} {H : Hp} {te ta tb : TE} {tr : TA} {R A B : Hp → V → Prop} {Rs Ss : List (Hp → V → Prop)} {C : Addr} {E : XK} {n : Nat}
theorem evs_nil : Evs tNil σ H [] := fun H1 _ Q q => q [] H1 (Same.refl _) trivial
theorem evs_cons (h : Ev te σ H R) (m : Mono R) (hr : Evs tr σ H Rs) : Evs (tCons te tr) σ H (R :: Rs) := fun H1 s1 Q q =>
  h H1 s1 _ fun v H2 s2 hv => hr H2 (s1.trans s2) _ fun vs H3 s3 hvs => q (v :: vs) H3 (s2.trans s3) ⟨m _ _ _ s3 hv, hvs⟩
theorem ev_lst (h : Evs tr σ H Rs) (m : Monos Rs) (hz : Rs.length ≤ 1000) : Ev (tLst tr) σ H (LstR Rs) := fun H1 s1 Q q =>
  h H1 s1 _ fun vs H2 s2 hvs => ⟨by rw [hvs.len]; exact Nat.le_of_lt (Nat.lt_of_le_of_lt hz (by decide)), fun p hp =>
    have s3 := Same.new (o := .lst vs) hp
    q _ _ (s2.trans s3) ⟨p, vs, rfl, upd_same, hvs.same s3 m⟩⟩
theorem ev_tup (h : Evs tr σ H Rs) (m : Monos Rs) (hz : Rs.length ≤ 1000) : Ev (tTup tr) σ H (TupR Rs) := fun H1 s1 Q q =>
  h H1 s1 _ fun vs H2 s2 hvs => ⟨by rw [hvs.len]; exact Nat.le_of_lt (Nat.lt_of_le_of_lt hz (by decide)), fun p hp =>
    have s3 := Same.new (o := .tup vs) hp
    q _ _ (s2.trans s3) ⟨p, vs, rfl, upd_same, hvs.same s3 m⟩⟩
theorem ev_var {i : Nat} {v : V} (h : σ[i]? = some (some v)) (hv : ∀ H', Same H H' → R H' v) : Ev (tVar i) σ H R := fun H1 s1 Q q => ⟨_, h, q v H1 (Same.refl _) (hv H1 s1)⟩
theorem ev_c {v : V} (hv : ∀ H', Same H H' → R H' v) : Ev (tC v) σ H R := fun H1 s1 Q q => q v H1 (Same.refl _) (hv H1 s1)
theorem ev_neg {i : Int} (hv : ∀ H', R H' (.int (-i))) : Ev (tUn (rU fun i => V.int (-i)) (tC (.int i))) σ H R := fun H1 _ Q q => ⟨_, rfl, q _ H1 (Same.refl _) (hv H1)⟩
theorem evh_nil : EvH tNil σ H 0 R := fun H1 _ Q q => q [] H1 (Same.refl _) rfl (fun v h => by cases h)
theorem evh_cons (m : Mono R) (h : Ev te σ H R) (hr : EvH tr σ H n R) : EvH (tCons te tr) σ H (n + 1) R := fun H1 s1 Q q =>
  h H1 s1 _ fun v H2 s2 hv => hr H2 (s1.trans s2) _ fun vs H3 s3 hl hvs => q (v :: vs) H3 (s2.trans s3) (congrArg Nat.succ hl) fun u hu => by
    rcases List.mem_cons.mp hu with rfl | hu
    · exact m _ _ _ s3 hv
    · exact hvs u hu
theorem AllR.app {H : Hp} : ∀ {Rs Ss : List (Hp → V → Prop)} {vs us : List V}, AllR H Rs vs → AllR H Ss us → AllR H (Rs ++ Ss) (vs ++ us)
  | [], _, [], _, _, k => k
  | _ :: _, _, _ :: _, _, h, k => ⟨h.1, AllR.app h.2 k⟩
  | [], _, _ :: _, _, h, _ => h.elim
  | _ :: _, _, [], _, h, _ => h.elim
theorem Monos.app : ∀ {Rs Ss : List (Hp → V → Prop)}, Monos Rs → Monos Ss → Monos (Rs ++ Ss)
  | [], _, _, k => k
  | _ :: _, _, h, k => ⟨h.1, Monos.app h.2 k⟩
theorem ev_cat (h1 : Ev ta σ H (LstR Rs)) (m1 : Monos Rs) (h2 : Ev tb σ H (LstR Ss)) (m2 : Monos Ss) (hz : Rs.length + Ss.length ≤ 1000) : Ev (tOp rCat ta tb) σ H (LstR (Rs ++ Ss)) := fun H1 s1 Q q =>
  h1 H1 s1 _ fun v H2 s2 hv => h2 H2 (s1.trans s2) _ fun u H3 s3 hu => by
    obtain ⟨p, vs, rfl, e2, e3⟩ := LstR.mono m1 _ _ _ s3 hv
    obtain ⟨r, us, rfl, g2, g3⟩ := hu
    refine ⟨p, r, vs, us, rfl, rfl, e2, g2, by rw [e3.len, g3.len]; exact Nat.le_of_lt (Nat.lt_of_le_of_lt hz (by decide)), fun t ht => ?_⟩
    have s4 := Same.new (o := .lst (vs ++ us)) ht
    exact q _ _ ((s2.trans s3).trans s4) ⟨t, vs ++ us, rfl, upd_same, (e3.same s4 m1).app (g3.same s4 m2)⟩
theorem asg_ev {rest : TS} {D : Ends} {i : Nat} (h : Ev te σ H R) (k : ∀ v H', Same H H' → R H' v → rest D (σ.set i (some v)) H') : tSeq (tAsg te (gName i)) rest D σ H :=
  h H (Same.refl _) _ fun v H1 s1 hv => k v H1 s1 hv
end
end TL
namespace TL
open PySem PySem.Spec PyProof.Rows L2
/-! ### many classes of errors, told by a table -/
/-- the built-in class below, by its number -/
def erBelow : Nat → List Value × String
  | 0 => ([.type "ValueError", .type "Exception", .type "BaseException", .type "object"], "ValueError.__new__")
  | 1 => ([.type "LookupError", .type "Exception", .type "BaseException", .type "object"], "LookupError.__new__")
  | 2 => ([.type "ArithmeticError", .type "Exception", .type "BaseException", .type "object"], "ArithmeticError.__new__")
  | _ => ([.type "IndexError", .type "LookupError", .type "Exception", .type "BaseException", .type "object"], "IndexError.__new__")
theorem erOver (n : Nat) : ∃ B newId initId, Over B newId initId (erBelow n).1 ∧ newId = (erBelow n).2 := match n with
  | 0 => ⟨_, _, _, over_Value, rfl⟩
  | 1 => ⟨_, _, _, over_Lookup, rfl⟩
  | 2 => ⟨_, _, _, over_Arith, rfl⟩
  | _ + 3 => ⟨_, _, _, over_Index, rfl⟩
/-- what is asked of a class: its address, the number of the class below, its attributes -/
def erOne (K : PySem.W.Frag) (C : Addr) (n : Nat) (fl : List String) : Bool :=
  PySem.W.excInitIn K C (erBelow n).1 (erBelow n).2 && PySem.W.hasDictIn K C && decide (PySem.W.findIn K (.ref C) "__setattr__" = some (some (.builtin "object.__setattr__"))) && decide (PySem.W.subIn K (.ref C) (.type "BaseException") = some true) &&
  decide (PySem.W.typeIn K (.ref C) = some (.type "type")) && PySem.W.keepIn K (.ref C) && decide (PySem.W.findIn K (.ref C) "__getattribute__" = some (some (.builtin "BaseException.__getattribute__"))) && decide (PySem.W.findIn K (.ref C) "__getattr__" = some none) &&
  decide (PySem.W.findIn K (.ref C) "__class__" = some (some (.builtin "object.__class__"))) && decide (PySem.W.mroIn K C (.type "object") = some true) && (["int", "bool", "str", "list", "tuple"].all fun t => decide (PySem.W.mroIn K C (.type t) = some false)) &&
  fl.all fun f => decide (PySem.W.findIn K (.ref C) (Str.ofString f) = some none)
structure ErOk (K : PySem.W.Frag) (C : Addr) (fl : List String) : Prop where
  ox : OexG K C
  xf : XfC K C
  cls : PySem.W.findIn K (.ref C) "__class__" = some (some (.builtin "object.__class__"))
  obj : PySem.W.mroIn K C (.type "object") = some true
  no : NoCls K C
  nf : ∀ f ∈ fl, PySem.W.findIn K (.ref C) (Str.ofString f) = some none
theorem init_in {K : PySem.W.Frag} {C : Addr} {bmB : List Value} {newId : String} (e : PySem.W.excInitIn K C bmB newId = true) (hd : PySem.W.hasDictIn K C = true) :
    ∃ nm qn N bs bm sn sub ab col dd k0 k1 k2 k3 k5, K.lookup C = some (excClassObj nm qn C N bs bm true sn sub ab col dd k0 k1 k2 k3 k5 newId) ∧ PySem.W.excTail bmB bm = true := by
  unfold PySem.W.hasDictIn PySem.W.clsIn at hd
  unfold PySem.W.excInitIn at e
  split at e
  · rename_i dd cd sl ho
    rw [ho] at hd
    split at e
    · rename_i C' bm k0 k1 k2 k3 n k5 hm hs
      obtain ⟨nm, bs, mro, ns, qn, hdct, sn, sub, ab, col, del⟩ := cd
      obtain ⟨l⟩ := sl
      simp only [Bool.and_eq_true, beq_iff_eq, Bool.not_eq_true'] at e hm hs
      obtain ⟨⟨⟨rfl, rfl⟩, rfl⟩, ht⟩ := e
      subst hm hs
      have hdt : hdct = true := hd
      subst hdt
      exact ⟨nm, qn, ns, bs, bm, sn, sub, ab, col, dd, k0, k1, k2, k3, k5, ho, ht⟩
    · cases e
  · cases e
theorem erOne_ok {K : PySem.W.Frag} {C : Addr} {n : Nat} {fl : List String} (h : erOne K C n fl = true) : ErOk K C fl := by
  unfold erOne at h
  simp only [Bool.and_eq_true, decide_eq_true_eq, List.all_cons, List.all_nil, List.all_eq_true] at h
  obtain ⟨⟨⟨⟨⟨⟨⟨⟨⟨⟨⟨h1, h2⟩, h3⟩, h4⟩, h5⟩, h6⟩, h7⟩, h8⟩, h9⟩, h10⟩, j1, j2, j3, j4, j5, _⟩, h12⟩ := h
  obtain ⟨nm, qn, N, bs, bm, sn, sub, ab, col, dd, k0, k1, k2, k3, k5, hl, ht⟩ := init_in h1 h2
  obtain ⟨B, nw, ini, O, e⟩ := erOver n
  rw [← e] at hl
  exact ⟨⟨⟨B, nw, ini, _, nm, qn, N, bs, bm, sn, sub, ab, col, dd, k0, k1, k2, k3, k5, O, hl, ht⟩, h3, h4, h5, h6⟩, ⟨h7, h8, h4, h2⟩, h9, h10, ⟨j1, j2, j3, j4, j5⟩, h12⟩
/-- all classes of a table -/
def erAll (K : PySem.W.Frag) : List Addr → List Nat → List (List String) → Bool
  | C :: cs, n :: ns, f :: fs => erOne K C n f && erAll K cs ns fs
  | [], _, _ => true
  | _, _, _ => false
theorem erAll_get {K : PySem.W.Frag} : ∀ {cs : List Addr} {ns : List Nat} {fs : List (List String)}, erAll K cs ns fs = true → ∀ {j : Nat} {C : Addr}, cs[j]? = some C → ∃ f, fs[j]? = some f ∧ ErOk K C f
  | C :: cs, n :: ns, f :: fs, h, 0, D, e => by
    cases e
    exact ⟨f, rfl, erOne_ok (Bool.and_eq_true_iff.mp h).1⟩
  | C :: cs, n :: ns, f :: fs, h, j + 1, D, e => erAll_get (cs := cs) (ns := ns) (fs := fs) (Bool.and_eq_true_iff.mp h).2 e
  | [], _, _, _, j, D, e => by cases e
  | C :: cs, [], _, h, j, D, e => by cases h
  | C :: cs, _ :: _, [], h, j, D, e => by cases h
/-- a row of truths of isinstance(e, c), e of the class at C -/
def kitRow (K : PySem.W.Frag) (C : Addr) : List Value → List Bool → Bool
  | c :: cs, b :: bs => decide (PySem.W.kitOne K (.ref C) c = some b) && kitRow K C cs bs
  | [], [] => true
  | _, _ => false
theorem kitRow_get {K : PySem.W.Frag} {C : Addr} : ∀ {cs : List Value} {bs : List Bool}, kitRow K C cs bs = true → ∀ {i : Nat} {c : Value} {b : Bool}, cs[i]? = some c → bs[i]? = some b → PySem.W.kitOne K (.ref C) c = some b
  | c :: cs, b :: bs, h, 0, d, x, e1, e2 => by
    cases e1
    cases e2
    exact of_decide_eq_true (Bool.and_eq_true_iff.mp h).1
  | c :: cs, b :: bs, h, i + 1, d, x, e1, e2 => kitRow_get (cs := cs) (bs := bs) (Bool.and_eq_true_iff.mp h).2 e1 e2
  | [], [], _, i, d, x, e1, e2 => by cases e1
  | [], _ :: _, h, _, _, _, _, _ => by cases h
  | _ :: _, [], h, _, _, _, _, _ => by cases h
/-- such a row for each class of a table -/
def kitAll (K : PySem.W.Frag) (us : List Value) : List Addr → List (List Bool) → Bool
  | C :: cs, r :: rs => kitRow K C us r && kitAll K us cs rs
  | [], _ => true
  | _, _ => false
theorem kitAll_get {K : PySem.W.Frag} {us : List Value} : ∀ {cs : List Addr} {rs : List (List Bool)}, kitAll K us cs rs = true → ∀ {j : Nat} {C : Addr}, cs[j]? = some C → ∃ r, rs[j]? = some r ∧ kitRow K C us r = true
  | C :: cs, r :: rs, h, 0, D, e => by
    cases e
    exact ⟨r, rfl, (Bool.and_eq_true_iff.mp h).1⟩
  | C :: cs, r :: rs, h, j + 1, D, e => kitAll_get (cs := cs) (rs := rs) (Bool.and_eq_true_iff.mp h).2 e
  | [], _, _, j, D, e => by cases e
  | C :: cs, [], h, j, D, e => by cases h
/-- a row of truths: whether a clause takes an error of the class at C -/
def exmRow (K : PySem.W.Frag) (C : Addr) : List Value → List Bool → Bool
  | c :: cs, b :: bs => decide (PySem.W.exmOne K (.ref C) c = some b) && exmRow K C cs bs
  | [], [] => true
  | _, _ => false
def exmAll (K : PySem.W.Frag) (us : List Value) : List Addr → List (List Bool) → Bool
  | C :: cs, r :: rs => exmRow K C us r && exmAll K us cs rs
  | [], _ => true
  | _, _ => false
theorem exmRow_get {K : PySem.W.Frag} {C : Addr} : ∀ {cs : List Value} {bs : List Bool}, exmRow K C cs bs = true → ∀ {i : Nat} {c : Value} {b : Bool}, cs[i]? = some c → bs[i]? = some b → PySem.W.exmOne K (.ref C) c = some b
  | c :: cs, b :: bs, h, 0, d, x, e1, e2 => by
    cases e1
    cases e2
    exact of_decide_eq_true (Bool.and_eq_true_iff.mp h).1
  | c :: cs, b :: bs, h, i + 1, d, x, e1, e2 => exmRow_get (cs := cs) (bs := bs) (Bool.and_eq_true_iff.mp h).2 e1 e2
  | [], [], _, i, d, x, e1, e2 => by cases e1
  | [], _ :: _, h, _, _, _, _, _ => by cases h
  | _ :: _, [], h, _, _, _, _, _ => by cases h
theorem exmAll_get {K : PySem.W.Frag} {us : List Value} : ∀ {cs : List Addr} {rs : List (List Bool)}, exmAll K us cs rs = true → ∀ {j : Nat} {C : Addr}, cs[j]? = some C → ∃ r, rs[j]? = some r ∧ exmRow K C us r = true
  | C :: cs, r :: rs, h, 0, D, e => by
    cases e
    exact ⟨r, rfl, (Bool.and_eq_true_iff.mp h).1⟩
  | C :: cs, r :: rs, h, j + 1, D, e => exmAll_get (cs := cs) (rs := rs) (Bool.and_eq_true_iff.mp h).2 e
  | [], _, _, j, D, e => by cases e
  | C :: cs, [], h, j, D, e => by cases h
/-! ### what a new error is -/
/-- the attributes behind __init__: the values by their names, then the code -/
def erFs (code : String) (fs : List String) (us : List V) : List (Str × V) := (Str.ofString "code", .str (Str.ofString code)) :: ((fs.map Str.ofString).zip us).reverse
def spEr (C : Addr) (code : String) (fs : List String) : Sp := fun vs H Q _ => ∃ (a : Addr) (us : List V), vs = .ref a :: us ∧ us.length = fs.length ∧ H a = some (exo a C none) ∧ ∀ (dx : Addr) (H' : Hp), H dx = none → dx ≠ a → (∀ b, b ≠ a → b ≠ dx → H' b = H b) → H' a = some (exo a C (some dx)) → H' dx = some (exd dx (erFs code fs us)) → Q .non H'
/-- an error of the class at C with its attributes -/
def ErR (C : Addr) (fs : List (Str × V)) : Hp → V → Prop := fun H v => ∃ a d, v = .ref a ∧ H a = some (exo a C (some d)) ∧ H d = some (exd d fs)
theorem ErR.mono {C : Addr} {fs : List (Str × V)} : Mono (ErR C fs) := fun H H' v s ⟨a, d, e, h1, h2⟩ => ⟨a, d, e, s _ _ h1, s _ _ h2⟩
section
variable {C : Addr} {code : String} {fs : List String} {σ : L2.St} {H : Hp} {ta tk : TA} {gV : List V → List V → List V} {us : List V}
theorem er_ends {a dx : Addr} {H1 H2 : Hp} (ha : H1 a = none) (hd : upd H1 a (exo a C none) dx = none) (hne : dx ≠ a) (hs : ∀ b, b ≠ a → b ≠ dx → H2 b = upd H1 a (exo a C none) b) : Same H1 H2 := fun b o h => by
  rw [upd_ne hne] at hd
  have h1 : b ≠ a := ne_of_none h ha
  have h2 : b ≠ dx := ne_of_none h hd
  rw [hs b h1 h2, upd_ne h1]
  exact h
theorem ev_er (hl : us.length = fs.length) (hz : us.length ≤ 1000) (ha : ∀ H1, Same H H1 → ∀ Q : List V → List V → Hp → Prop, (∀ vs zs H2, Same H1 H2 → vs.length ≤ 1000 → (∀ a, gV (.ref a :: vs) zs = .ref a :: us) → Q vs zs H2) → ta σ H1 fun vs H2 => tk σ H2 fun zs H3 => Q vs zs H3) : Ev (tEr C (spEr C code fs) gV ta tk) σ H (ErR C (erFs code fs us)) := fun H1 s1 Q q =>
  ha H1 s1 _ fun vs zs H2 s2 hv hg => ⟨hv, fun a hn => ⟨a, us, hg a, hl, upd_same, fun dx H3 hd hne hs h1 h2 => ⟨rfl, q _ _ (s2.trans (er_ends hn hd hne hs)) ⟨a, dx, rfl, h1, h2⟩⟩⟩⟩
theorem ev_er0 : Ev (tEr C (spEr C code []) (fun vs _ => vs) tNil tNil) σ H (ErR C (erFs code [] [])) := ev_er rfl (Nat.zero_le _) fun H1 _ Q q => q [] [] H1 (Same.refl _) (Nat.zero_le _) fun _ => rfl
theorem erX_ends {a dx : Addr} {H1 H2 : Hp} {fs : List (Str × V)} (ha : H1 a = none) (hd : upd H1 a (exo a C none) dx = none) (hne : dx ≠ a) (hs : ∀ b, b ≠ a → b ≠ dx → H2 b = upd H1 a (exo a C none) b) : Same H1 (upd (del H2 a) dx (.xd fs)) := fun b o h => by
  rw [upd_ne hne] at hd
  have h1 : b ≠ a := ne_of_none h ha
  have h2 : b ≠ dx := ne_of_none h hd
  rw [upd_ne h2, del_ne h1, hs b h1 h2, upd_ne h1]
  exact h
/-- such an error, raised -/
theorem erx_run (hl : us.length = fs.length) (hz : us.length ≤ 1000) (ha : ∀ Q : List V → List V → Hp → Prop, (∀ vs zs, vs.length ≤ 1000 → (∀ a, gV (.ref a :: vs) zs = .ref a :: us) → Q vs zs H) → ta σ H fun vs H2 => tk σ H2 fun zs H3 => Q vs zs H3) {Q : XK}
    (q : ∀ d H', Same H H' → H d = none → H' d = some (.xd (erFs code fs us)) → Q (.ref C) (some d) H') : tErX C (spEr C code fs) gV ta tk σ H Q :=
  ha _ fun vs zs hv hg => ⟨hv, fun a hn => ⟨a, us, hg a, hl, upd_same, fun dx H3 hd hne hs h1 h2 => ⟨rfl, dx, _, h1, h2, by rw [upd_ne hne] at hd; exact hd, q dx _ (erX_ends hn hd hne hs) (by rw [upd_ne hne] at hd; exact hd) upd_same⟩⟩⟩
end
end TL
namespace TL
open PySem L2

def top (i : Nat) : Stmt := PySem.Challenge.pw_turnsleft_k00_errors_by_themselves.main.body.getD i (.Pass ⟨0, 0, 0, 0⟩)
abbrev s_BadRatio_init : Stmt := inClass (top 2) 0
abbrev N_BadRatio_init : List Str := ["self"]
theorem sc_BadRatio_init : FnScope N_BadRatio_init ["self"] (defScope s_BadRatio_init) := ⟨rfl, rfl, rfl, by decide +kernel, rfl, by decide +kernel, by decide +kernel⟩
abbrev s_BadText_init : Stmt := inClass (top 3) 0
abbrev N_BadText_init : List Str := ["self"]
theorem sc_BadText_init : FnScope N_BadText_init ["self"] (defScope s_BadText_init) := ⟨rfl, rfl, rfl, by decide +kernel, rfl, by decide +kernel, by decide +kernel⟩
abbrev s_BadLine_init : Stmt := inClass (top 4) 0
abbrev N_BadLine_init : List Str := ["self", "line"]
theorem sc_BadLine_init : FnScope N_BadLine_init ["self", "line"] (defScope s_BadLine_init) := ⟨rfl, rfl, rfl, by decide +kernel, rfl, by decide +kernel, by decide +kernel⟩
abbrev s_BadTop_init : Stmt := inClass (top 5) 0
abbrev N_BadTop_init : List Str := ["self"]
theorem sc_BadTop_init : FnScope N_BadTop_init ["self"] (defScope s_BadTop_init) := ⟨rfl, rfl, rfl, by decide +kernel, rfl, by decide +kernel, by decide +kernel⟩
abbrev s_BadStart_init : Stmt := inClass (top 6) 0
abbrev N_BadStart_init : List Str := ["self"]
theorem sc_BadStart_init : FnScope N_BadStart_init ["self"] (defScope s_BadStart_init) := ⟨rfl, rfl, rfl, by decide +kernel, rfl, by decide +kernel, by decide +kernel⟩
abbrev s_BadLength_init : Stmt := inClass (top 7) 0
abbrev N_BadLength_init : List Str := ["self", "at"]
theorem sc_BadLength_init : FnScope N_BadLength_init ["self", "at"] (defScope s_BadLength_init) := ⟨rfl, rfl, rfl, by decide +kernel, rfl, by decide +kernel, by decide +kernel⟩
abbrev s_BadOrder_init : Stmt := inClass (top 8) 0
abbrev N_BadOrder_init : List Str := ["self"]
theorem sc_BadOrder_init : FnScope N_BadOrder_init ["self"] (defScope s_BadOrder_init) := ⟨rfl, rfl, rfl, by decide +kernel, rfl, by decide +kernel, by decide +kernel⟩
abbrev s_BadRow_init : Stmt := inClass (top 9) 0
abbrev N_BadRow_init : List Str := ["self", "at"]
theorem sc_BadRow_init : FnScope N_BadRow_init ["self", "at"] (defScope s_BadRow_init) := ⟨rfl, rfl, rfl, by decide +kernel, rfl, by decide +kernel, by decide +kernel⟩
abbrev s_OffLine_init : Stmt := inClass (top 10) 0
abbrev N_OffLine_init : List Str := ["self", "at"]
theorem sc_OffLine_init : FnScope N_OffLine_init ["self", "at"] (defScope s_OffLine_init) := ⟨rfl, rfl, rfl, by decide +kernel, rfl, by decide +kernel, by decide +kernel⟩
abbrev s_Overlap_init : Stmt := inClass (top 11) 0
abbrev N_Overlap_init : List Str := ["self", "one", "other"]
theorem sc_Overlap_init : FnScope N_Overlap_init ["self", "one", "other"] (defScope s_Overlap_init) := ⟨rfl, rfl, rfl, by decide +kernel, rfl, by decide +kernel, by decide +kernel⟩
abbrev s_NotFilled_init : Stmt := inClass (top 12) 0
abbrev N_NotFilled_init : List Str := ["self", "missing"]
theorem sc_NotFilled_init : FnScope N_NotFilled_init ["self", "missing"] (defScope s_NotFilled_init) := ⟨rfl, rfl, rfl, by decide +kernel, rfl, by decide +kernel, by decide +kernel⟩
abbrev s_OtherLine_init : Stmt := inClass (top 13) 0
abbrev N_OtherLine_init : List Str := ["self"]
theorem sc_OtherLine_init : FnScope N_OtherLine_init ["self"] (defScope s_OtherLine_init) := ⟨rfl, rfl, rfl, by decide +kernel, rfl, by decide +kernel, by decide +kernel⟩
abbrev s_BadRoom_init : Stmt := inClass (top 14) 0
abbrev N_BadRoom_init : List Str := ["self"]
theorem sc_BadRoom_init : FnScope N_BadRoom_init ["self"] (defScope s_BadRoom_init) := ⟨rfl, rfl, rfl, by decide +kernel, rfl, by decide +kernel, by decide +kernel⟩
abbrev s_BadSwap_init : Stmt := inClass (top 15) 0
abbrev N_BadSwap_init : List Str := ["self", "at"]
theorem sc_BadSwap_init : FnScope N_BadSwap_init ["self", "at"] (defScope s_BadSwap_init) := ⟨rfl, rfl, rfl, by decide +kernel, rfl, by decide +kernel, by decide +kernel⟩
abbrev s_Meet_init : Stmt := inClass (top 16) 0
abbrev N_Meet_init : List Str := ["self"]
theorem sc_Meet_init : FnScope N_Meet_init ["self"] (defScope s_Meet_init) := ⟨rfl, rfl, rfl, by decide +kernel, rfl, by decide +kernel, by decide +kernel⟩
abbrev s_BadWedge_init : Stmt := inClass (top 17) 0
abbrev N_BadWedge_init : List Str := ["self"]
theorem sc_BadWedge_init : FnScope N_BadWedge_init ["self"] (defScope s_BadWedge_init) := ⟨rfl, rfl, rfl, by decide +kernel, rfl, by decide +kernel, by decide +kernel⟩
abbrev s_BadReading_init : Stmt := inClass (top 18) 0
abbrev N_BadReading_init : List Str := ["self"]
theorem sc_BadReading_init : FnScope N_BadReading_init ["self"] (defScope s_BadReading_init) := ⟨rfl, rfl, rfl, by decide +kernel, rfl, by decide +kernel, by decide +kernel⟩
abbrev s_BadWindow_init : Stmt := inClass (top 19) 0
abbrev N_BadWindow_init : List Str := ["self"]
theorem sc_BadWindow_init : FnScope N_BadWindow_init ["self"] (defScope s_BadWindow_init) := ⟨rfl, rfl, rfl, by decide +kernel, rfl, by decide +kernel, by decide +kernel⟩
abbrev s_BadName_init : Stmt := inClass (top 20) 0
abbrev N_BadName_init : List Str := ["self", "value"]
theorem sc_BadName_init : FnScope N_BadName_init ["self", "value"] (defScope s_BadName_init) := ⟨rfl, rfl, rfl, by decide +kernel, rfl, by decide +kernel, by decide +kernel⟩
abbrev s_BadNumber_init : Stmt := inClass (top 21) 0
abbrev N_BadNumber_init : List Str := ["self", "value"]
theorem sc_BadNumber_init : FnScope N_BadNumber_init ["self", "value"] (defScope s_BadNumber_init) := ⟨rfl, rfl, rfl, by decide +kernel, rfl, by decide +kernel, by decide +kernel⟩
abbrev s_BadDeed_init : Stmt := inClass (top 22) 0
abbrev N_BadDeed_init : List Str := ["self", "at"]
theorem sc_BadDeed_init : FnScope N_BadDeed_init ["self", "at"] (defScope s_BadDeed_init) := ⟨rfl, rfl, rfl, by decide +kernel, rfl, by decide +kernel, by decide +kernel⟩
abbrev s_BadExchange_init : Stmt := inClass (top 23) 0
abbrev N_BadExchange_init : List Str := ["self"]
theorem sc_BadExchange_init : FnScope N_BadExchange_init ["self"] (defScope s_BadExchange_init) := ⟨rfl, rfl, rfl, by decide +kernel, rfl, by decide +kernel, by decide +kernel⟩
abbrev s_BadLimit_init : Stmt := inClass (top 24) 0
abbrev N_BadLimit_init : List Str := ["self", "value"]
theorem sc_BadLimit_init : FnScope N_BadLimit_init ["self", "value"] (defScope s_BadLimit_init) := ⟨rfl, rfl, rfl, by decide +kernel, rfl, by decide +kernel, by decide +kernel⟩
abbrev s_Double_init : Stmt := inClass (top 25) 0
abbrev N_Double_init : List Str := ["self", "name"]
theorem sc_Double_init : FnScope N_Double_init ["self", "name"] (defScope s_Double_init) := ⟨rfl, rfl, rfl, by decide +kernel, rfl, by decide +kernel, by decide +kernel⟩
abbrev s_TooMany_init : Stmt := inClass (top 26) 0
abbrev N_TooMany_init : List Str := ["self", "most"]
theorem sc_TooMany_init : FnScope N_TooMany_init ["self", "most"] (defScope s_TooMany_init) := ⟨rfl, rfl, rfl, by decide +kernel, rfl, by decide +kernel, by decide +kernel⟩
abbrev s_Unlike_init : Stmt := inClass (top 27) 0
abbrev N_Unlike_init : List Str := ["self", "colour"]
theorem sc_Unlike_init : FnScope N_Unlike_init ["self", "colour"] (defScope s_Unlike_init) := ⟨rfl, rfl, rfl, by decide +kernel, rfl, by decide +kernel, by decide +kernel⟩
abbrev s_OtherSteps_init : Stmt := inClass (top 28) 0
abbrev N_OtherSteps_init : List Str := ["self"]
theorem sc_OtherSteps_init : FnScope N_OtherSteps_init ["self"] (defScope s_OtherSteps_init) := ⟨rfl, rfl, rfl, by decide +kernel, rfl, by decide +kernel, by decide +kernel⟩
abbrev s_NothingLeft_init : Stmt := inClass (top 29) 0
abbrev N_NothingLeft_init : List Str := ["self"]
theorem sc_NothingLeft_init : FnScope N_NothingLeft_init ["self"] (defScope s_NothingLeft_init) := ⟨rfl, rfl, rfl, by decide +kernel, rfl, by decide +kernel, by decide +kernel⟩
abbrev s_OwesMore_init : Stmt := inClass (top 30) 0
abbrev N_OwesMore_init : List Str := ["self", "name"]
theorem sc_OwesMore_init : FnScope N_OwesMore_init ["self", "name"] (defScope s_OwesMore_init) := ⟨rfl, rfl, rfl, by decide +kernel, rfl, by decide +kernel, by decide +kernel⟩
abbrev s_NotOnLine_init : Stmt := inClass (top 32) 0
abbrev N_NotOnLine_init : List Str := ["self", "tone"]
theorem sc_NotOnLine_init : FnScope N_NotOnLine_init ["self", "tone"] (defScope s_NotOnLine_init) := ⟨rfl, rfl, rfl, by decide +kernel, rfl, by decide +kernel, by decide +kernel⟩
abbrev s_NoPrime_init : Stmt := inClass (top 33) 0
abbrev N_NoPrime_init : List Str := ["self", "value"]
theorem sc_NoPrime_init : FnScope N_NoPrime_init ["self", "value"] (defScope s_NoPrime_init) := ⟨rfl, rfl, rfl, by decide +kernel, rfl, by decide +kernel, by decide +kernel⟩
abbrev s_UnknownName_init : Stmt := inClass (top 34) 0
abbrev N_UnknownName_init : List Str := ["self", "name"]
theorem sc_UnknownName_init : FnScope N_UnknownName_init ["self", "name"] (defScope s_UnknownName_init) := ⟨rfl, rfl, rfl, by decide +kernel, rfl, by decide +kernel, by decide +kernel⟩
abbrev s_NotIn_init : Stmt := inClass (top 35) 0
abbrev N_NotIn_init : List Str := ["self"]
theorem sc_NotIn_init : FnScope N_NotIn_init ["self"] (defScope s_NotIn_init) := ⟨rfl, rfl, rfl, by decide +kernel, rfl, by decide +kernel, by decide +kernel⟩
abbrev s_NotFair_init : Stmt := inClass (top 37) 0
abbrev N_NotFair_init : List Str := ["self", "first", "second"]
theorem sc_NotFair_init : FnScope N_NotFair_init ["self", "first", "second"] (defScope s_NotFair_init) := ⟨rfl, rfl, rfl, by decide +kernel, rfl, by decide +kernel, by decide +kernel⟩
abbrev s_NotKept_init : Stmt := inClass (top 38) 0
abbrev N_NotKept_init : List Str := ["self"]
theorem sc_NotKept_init : FnScope N_NotKept_init ["self"] (defScope s_NotKept_init) := ⟨rfl, rfl, rfl, by decide +kernel, rfl, by decide +kernel, by decide +kernel⟩
abbrev s_Odd_init : Stmt := inClass (top 39) 0
abbrev N_Odd_init : List Str := ["self", "prime"]
theorem sc_Odd_init : FnScope N_Odd_init ["self", "prime"] (defScope s_Odd_init) := ⟨rfl, rfl, rfl, by decide +kernel, rfl, by decide +kernel, by decide +kernel⟩
abbrev s_NoRoot_init : Stmt := inClass (top 40) 0
abbrev N_NoRoot_init : List Str := ["self", "first", "second"]
theorem sc_NoRoot_init : FnScope N_NoRoot_init ["self", "first", "second"] (defScope s_NoRoot_init) := ⟨rfl, rfl, rfl, by decide +kernel, rfl, by decide +kernel, by decide +kernel⟩
abbrev s_Unfit_init : Stmt := inClass (top 41) 0
abbrev N_Unfit_init : List Str := ["self", "counts"]
theorem sc_Unfit_init : FnScope N_Unfit_init ["self", "counts"] (defScope s_Unfit_init) := ⟨rfl, rfl, rfl, by decide +kernel, rfl, by decide +kernel, by decide +kernel⟩
abbrev s_Unmade_init : Stmt := inClass (top 42) 0
abbrev N_Unmade_init : List Str := ["self", "reading"]
theorem sc_Unmade_init : FnScope N_Unmade_init ["self", "reading"] (defScope s_Unmade_init) := ⟨rfl, rfl, rfl, by decide +kernel, rfl, by decide +kernel, by decide +kernel⟩
abbrev s_TooLong_init : Stmt := inClass (top 43) 0
abbrev N_TooLong_init : List Str := ["self", "most"]
theorem sc_TooLong_init : FnScope N_TooLong_init ["self", "most"] (defScope s_TooLong_init) := ⟨rfl, rfl, rfl, by decide +kernel, rfl, by decide +kernel, by decide +kernel⟩
abbrev s_Level_init : Stmt := inClass (top 44) 0
abbrev N_Level_init : List Str := ["self"]
theorem sc_Level_init : FnScope N_Level_init ["self"] (defScope s_Level_init) := ⟨rfl, rfl, rfl, by decide +kernel, rfl, by decide +kernel, by decide +kernel⟩
abbrev s_NoEntry_init : Stmt := inClass (top 45) 0
abbrev N_NoEntry_init : List Str := ["self"]
theorem sc_NoEntry_init : FnScope N_NoEntry_init ["self"] (defScope s_NoEntry_init) := ⟨rfl, rfl, rfl, by decide +kernel, rfl, by decide +kernel, by decide +kernel⟩
abbrev s_l_bag : Stmt := top 47
abbrev N_l_bag : List Str := ["_law_script", "_law_seed", "_law_cell"]
theorem sc_l_bag : FnScope N_l_bag ["_law_script"] (defScope s_l_bag) := ⟨rfl, rfl, rfl, by decide +kernel, rfl, by decide +kernel, by decide +kernel⟩
abbrev s_l_draw : Stmt := top 48
abbrev N_l_draw : List Str := ["_law_bag_here", "_law_sides", "_law_cell", "_law_digit", "_law_seed"]
theorem sc_l_draw : FnScope N_l_draw ["_law_bag_here", "_law_sides"] (defScope s_l_draw) := ⟨rfl, rfl, rfl, by decide +kernel, rfl, by decide +kernel, by decide +kernel⟩
abbrev s_l_of : Stmt := top 49
abbrev N_l_of : List Str := ["_law_bag_here", "_law_things"]
theorem sc_l_of : FnScope N_l_of ["_law_bag_here", "_law_things"] (defScope s_l_of) := ⟨rfl, rfl, rfl, by decide +kernel, rfl, by decide +kernel, by decide +kernel⟩
abbrev s_l_same : Stmt := top 50
abbrev N_l_same : List Str := ["_law_found", "_law_due_here", "_law_x", "_law_y"]
theorem sc_l_same : FnScope N_l_same ["_law_found", "_law_due_here"] (defScope s_l_same) := ⟨rfl, rfl, rfl, by decide +kernel, rfl, by decide +kernel, by decide +kernel⟩
abbrev s_l_told : Stmt := top 51
abbrev N_l_told : List Str := ["_law_fault"]
theorem sc_l_told : FnScope N_l_told ["_law_fault"] (defScope s_l_told) := ⟨rfl, rfl, rfl, by decide +kernel, rfl, by decide +kernel, by decide +kernel⟩
abbrev s_l_first_kinds : Stmt := top 52
abbrev N_l_first_kinds : List Str := ["_law_fault", "_law_found"]
theorem sc_l_first_kinds : FnScope N_l_first_kinds ["_law_fault"] (defScope s_l_first_kinds) := ⟨rfl, rfl, rfl, by decide +kernel, rfl, by decide +kernel, by decide +kernel⟩
abbrev s_l_second_kinds : Stmt := top 53
abbrev N_l_second_kinds : List Str := ["_law_fault", "_law_found"]
theorem sc_l_second_kinds : FnScope N_l_second_kinds ["_law_fault"] (defScope s_l_second_kinds) := ⟨rfl, rfl, rfl, by decide +kernel, rfl, by decide +kernel, by decide +kernel⟩
abbrev s_l_by_place : Stmt := top 54
abbrev N_l_by_place : List Str := ["_law_a", "_law_b", "_law_found"]
theorem sc_l_by_place : FnScope N_l_by_place ["_law_a", "_law_b"] (defScope s_l_by_place) := ⟨rfl, rfl, rfl, by decide +kernel, rfl, by decide +kernel, by decide +kernel⟩
abbrev s_l_by_name : Stmt := top 55
abbrev N_l_by_name : List Str := ["_law_a", "_law_b", "_law_found"]
theorem sc_l_by_name : FnScope N_l_by_name ["_law_a", "_law_b"] (defScope s_l_by_name) := ⟨rfl, rfl, rfl, by decide +kernel, rfl, by decide +kernel, by decide +kernel⟩
abbrev s_l_codes : Stmt := top 56
abbrev N_l_codes : List Str := ["_law_found"]
theorem sc_l_codes : FnScope N_l_codes [] (defScope s_l_codes) := ⟨rfl, rfl, rfl, by decide +kernel, rfl, by decide +kernel, by decide +kernel⟩
abbrev s_l_due : Stmt := top 57
abbrev N_l_due : List Str := ["_law_code", "_law_a", "_law_b"]
theorem sc_l_due : FnScope N_l_due ["_law_code", "_law_a", "_law_b"] (defScope s_l_due) := ⟨rfl, rfl, rfl, by decide +kernel, rfl, by decide +kernel, by decide +kernel⟩
abbrev s_l_raise : Stmt := top 58
abbrev N_l_raise : List Str := ["_law_j", "_law_a", "_law_b"]
theorem sc_l_raise : FnScope N_l_raise ["_law_j", "_law_a", "_law_b"] (defScope s_l_raise) := ⟨rfl, rfl, rfl, by decide +kernel, rfl, by decide +kernel, by decide +kernel⟩
abbrev s_l_caught : Stmt := top 59
abbrev N_l_caught : List Str := ["_law_j", "_law_a", "_law_b", "_law_fault", "absent", "barred", "empty"]
theorem sc_l_caught : FnScope N_l_caught ["_law_j", "_law_a", "_law_b"] (defScope s_l_caught) := ⟨rfl, rfl, rfl, by decide +kernel, rfl, by decide +kernel, by decide +kernel⟩
abbrev s_l_thing : Stmt := top 60
abbrev N_l_thing : List Str := ["_law_bag_here", "_law_things"]
theorem sc_l_thing : FnScope N_l_thing ["_law_bag_here"] (defScope s_l_thing) := ⟨rfl, rfl, rfl, by decide +kernel, rfl, by decide +kernel, by decide +kernel⟩
abbrev s_l_made_so : Stmt := top 61
abbrev N_l_made_so : List Str := ["_law_made", "_law_a", "_law_b", "_law_codes_here", "_law_j", "_law_fault", "_law_found", "_law_head", "_law_middle", "_law_last", "_law_i"]
theorem sc_l_made_so : FnScope N_l_made_so ["_law_made", "_law_a", "_law_b"] (defScope s_l_made_so) := ⟨rfl, rfl, rfl, by decide +kernel, rfl, by decide +kernel, by decide +kernel⟩
abbrev s_law : Stmt := top 62
abbrev N_law : List Str := ["_law_script", "_law_bag_here", "_law_left", "_law_right", "_law_placed", "_law_named", "_law_j", "_law_a", "_law_b", "_law_dues"]
theorem sc_law : FnScope N_law ["_law_script"] (defScope s_law) := ⟨rfl, rfl, rfl, by decide +kernel, rfl, by decide +kernel, by decide +kernel⟩
/-- the classes' codes, attributes, classes below -/
def ERCODE : List String := ["BadRatio", "BadText", "BadLine", "BadTop", "BadStart", "BadLength", "BadOrder", "BadRow", "OffLine", "Overlap", "NotFilled", "OtherLine", "BadRoom", "BadSwap", "Meet", "BadWedge", "BadReading", "BadWindow", "BadName", "BadNumber", "BadDeed", "BadExchange", "BadLimit", "Double", "TooMany", "Unlike", "OtherSteps", "NothingLeft", "OwesMore", "NotOnLine", "NoPrime", "UnknownName", "NotIn", "NotFair", "NotKept", "Odd", "NoRoot", "Unfit", "Unmade", "TooLong", "Level", "NoEntry"]
def ERF : List (List String) := [[], [], ["line"], [], [], ["at"], [], ["at"], ["at"], ["one", "other"], ["missing"], [], [], ["at"], [], [], [], [], ["value"], ["value"], ["at"], [], ["value"], ["name"], ["most"], ["colour"], [], [], ["name"], ["tone"], ["value"], ["name"], [], ["first", "second"], [], ["prime"], ["first", "second"], ["counts"], ["reading"], ["most"], [], []]
def ERN : List Nat := [0, 0, 0, 0, 0, 0, 0, 0, 0, 0, 0, 0, 0, 0, 0, 0, 0, 0, 0, 0, 0, 0, 0, 0, 0, 0, 0, 0, 0, 1, 1, 1, 1, 2, 2, 2, 2, 2, 2, 2, 2, 3]
def ERK : List (List Bool) := (List.range 42).map fun j => (List.range 42).map fun i => j == i
def ERB : List (List Bool) := [[true, true, false, false, false, false, false, false, false], [true, true, false, false, false, false, false, false, false], [true, true, false, false, false, false, false, false, false], [true, true, false, false, false, false, false, false, false], [true, true, false, false, false, false, false, false, false], [true, true, false, false, false, false, false, false, false], [true, true, false, false, false, false, false, false, false], [true, true, false, false, false, false, false, false, false], [true, true, false, false, false, false, false, false, false], [true, true, false, false, false, false, false, false, false], [true, true, false, false, false, false, false, false, false], [true, true, false, false, false, false, false, false, false], [true, true, false, false, false, false, false, false, false], [true, true, false, false, false, false, false, false, false], [true, true, false, false, false, false, false, false, false], [true, true, false, false, false, false, false, false, false], [true, true, false, false, false, false, false, false, false], [true, true, false, false, false, false, false, false, false], [true, true, false, false, false, false, false, false, false], [true, true, false, false, false, false, false, false, false], [true, true, false, false, false, false, false, false, false], [true, true, false, false, false, false, false, false, false], [true, true, false, false, false, false, false, false, false], [true, true, false, false, false, false, false, false, false], [true, true, false, false, false, false, false, false, false], [true, true, false, false, false, false, false, false, false], [true, true, false, false, false, false, false, false, false], [true, true, false, false, false, false, false, false, false], [true, true, false, false, false, false, false, false, false], [false, false, true, true, false, false, false, false, false], [false, false, true, true, false, false, false, false, false], [false, false, true, true, false, false, false, false, false], [false, false, true, true, false, false, false, false, false], [false, false, false, false, true, true, false, false, false], [false, false, false, false, true, true, false, false, false], [false, false, false, false, true, true, false, false, false], [false, false, false, false, true, true, false, false, false], [false, false, false, false, true, true, false, false, false], [false, false, false, false, true, true, false, false, false], [false, false, false, false, true, true, false, false, false], [false, false, false, false, true, true, false, false, false], [false, false, false, true, false, false, true, false, false]]
def ERX : List (List Bool) := [[true, false, false, false], [true, false, false, false], [true, false, false, false], [true, false, false, false], [true, false, false, false], [false, true, false, false], [false, true, false, false], [false, true, false, false], [false, false, true, false], [false, false, true, false], [false, false, true, false], [false, false, false, true]]
set_option maxHeartbeats 0 in
structure Tx (K : PySem.W.Frag) (mg : Str → Option Value) : Type where
  z_len : mg "len" = none
  z_abs : mg "abs" = none
  z_int : mg "int" = none
  z_isinstance : mg "isinstance" = none
  z_list : mg "list" = none
  z_tuple : mg "tuple" = none
  z_bool : mg "bool" = none
  z_str : mg "str" = none
  z_all : mg "all" = none
  z_zip : mg "zip" = none
  z_range : mg "range" = none
  z_ValueError : mg "ValueError" = none
  z_LookupError : mg "LookupError" = none
  z_ArithmeticError : mg "ArithmeticError" = none
  z_IndexError : mg "IndexError" = none
  z_KeyError : mg "KeyError" = none
  z_ZeroDivisionError : mg "ZeroDivisionError" = none
  C_TurnError : Addr
  g_TurnError : mg "TurnError" = some (.ref C_TurnError)
  C_NotThere : Addr
  g_NotThere : mg "NotThere" = some (.ref C_NotThere)
  C_Impossible : Addr
  g_Impossible : mg "Impossible" = some (.ref C_Impossible)
  C_BadRatio : Addr
  g_BadRatio : mg "BadRatio" = some (.ref C_BadRatio)
  C_BadText : Addr
  g_BadText : mg "BadText" = some (.ref C_BadText)
  C_BadLine : Addr
  g_BadLine : mg "BadLine" = some (.ref C_BadLine)
  C_BadTop : Addr
  g_BadTop : mg "BadTop" = some (.ref C_BadTop)
  C_BadStart : Addr
  g_BadStart : mg "BadStart" = some (.ref C_BadStart)
  C_BadLength : Addr
  g_BadLength : mg "BadLength" = some (.ref C_BadLength)
  C_BadOrder : Addr
  g_BadOrder : mg "BadOrder" = some (.ref C_BadOrder)
  C_BadRow : Addr
  g_BadRow : mg "BadRow" = some (.ref C_BadRow)
  C_OffLine : Addr
  g_OffLine : mg "OffLine" = some (.ref C_OffLine)
  C_Overlap : Addr
  g_Overlap : mg "Overlap" = some (.ref C_Overlap)
  C_NotFilled : Addr
  g_NotFilled : mg "NotFilled" = some (.ref C_NotFilled)
  C_OtherLine : Addr
  g_OtherLine : mg "OtherLine" = some (.ref C_OtherLine)
  C_BadRoom : Addr
  g_BadRoom : mg "BadRoom" = some (.ref C_BadRoom)
  C_BadSwap : Addr
  g_BadSwap : mg "BadSwap" = some (.ref C_BadSwap)
  C_Meet : Addr
  g_Meet : mg "Meet" = some (.ref C_Meet)
  C_BadWedge : Addr
  g_BadWedge : mg "BadWedge" = some (.ref C_BadWedge)
  C_BadReading : Addr
  g_BadReading : mg "BadReading" = some (.ref C_BadReading)
  C_BadWindow : Addr
  g_BadWindow : mg "BadWindow" = some (.ref C_BadWindow)
  C_BadName : Addr
  g_BadName : mg "BadName" = some (.ref C_BadName)
  C_BadNumber : Addr
  g_BadNumber : mg "BadNumber" = some (.ref C_BadNumber)
  C_BadDeed : Addr
  g_BadDeed : mg "BadDeed" = some (.ref C_BadDeed)
  C_BadExchange : Addr
  g_BadExchange : mg "BadExchange" = some (.ref C_BadExchange)
  C_BadLimit : Addr
  g_BadLimit : mg "BadLimit" = some (.ref C_BadLimit)
  C_Double : Addr
  g_Double : mg "Double" = some (.ref C_Double)
  C_TooMany : Addr
  g_TooMany : mg "TooMany" = some (.ref C_TooMany)
  C_Unlike : Addr
  g_Unlike : mg "Unlike" = some (.ref C_Unlike)
  C_OtherSteps : Addr
  g_OtherSteps : mg "OtherSteps" = some (.ref C_OtherSteps)
  C_NothingLeft : Addr
  g_NothingLeft : mg "NothingLeft" = some (.ref C_NothingLeft)
  C_OwesMore : Addr
  g_OwesMore : mg "OwesMore" = some (.ref C_OwesMore)
  C_NotOnLine : Addr
  g_NotOnLine : mg "NotOnLine" = some (.ref C_NotOnLine)
  C_NoPrime : Addr
  g_NoPrime : mg "NoPrime" = some (.ref C_NoPrime)
  C_UnknownName : Addr
  g_UnknownName : mg "UnknownName" = some (.ref C_UnknownName)
  C_NotIn : Addr
  g_NotIn : mg "NotIn" = some (.ref C_NotIn)
  C_NotFair : Addr
  g_NotFair : mg "NotFair" = some (.ref C_NotFair)
  C_NotKept : Addr
  g_NotKept : mg "NotKept" = some (.ref C_NotKept)
  C_Odd : Addr
  g_Odd : mg "Odd" = some (.ref C_Odd)
  C_NoRoot : Addr
  g_NoRoot : mg "NoRoot" = some (.ref C_NoRoot)
  C_Unfit : Addr
  g_Unfit : mg "Unfit" = some (.ref C_Unfit)
  C_Unmade : Addr
  g_Unmade : mg "Unmade" = some (.ref C_Unmade)
  C_TooLong : Addr
  g_TooLong : mg "TooLong" = some (.ref C_TooLong)
  C_Level : Addr
  g_Level : mg "Level" = some (.ref C_Level)
  C_NoEntry : Addr
  g_NoEntry : mg "NoEntry" = some (.ref C_NoEntry)
  f_BadRatio_init : Addr
  d_BadRatio_init : FuncData
  F_BadRatio_init : Fun K "__init__" "BadRatio.__init__" s_BadRatio_init f_BadRatio_init d_BadRatio_init
  b_BadRatio_init : Binds K d_BadRatio_init ["self"] []
  iC_BadRatio : PySem.W.findIn K (.ref C_BadRatio) "__init__" = some (some (.ref f_BadRatio_init))
  tI_BadRatio : PySem.W.typeIn K (.ref f_BadRatio_init) = some (.type "function")
  f_BadText_init : Addr
  d_BadText_init : FuncData
  F_BadText_init : Fun K "__init__" "BadText.__init__" s_BadText_init f_BadText_init d_BadText_init
  b_BadText_init : Binds K d_BadText_init ["self"] []
  iC_BadText : PySem.W.findIn K (.ref C_BadText) "__init__" = some (some (.ref f_BadText_init))
  tI_BadText : PySem.W.typeIn K (.ref f_BadText_init) = some (.type "function")
  f_BadLine_init : Addr
  d_BadLine_init : FuncData
  F_BadLine_init : Fun K "__init__" "BadLine.__init__" s_BadLine_init f_BadLine_init d_BadLine_init
  b_BadLine_init : Binds K d_BadLine_init ["self", "line"] []
  iC_BadLine : PySem.W.findIn K (.ref C_BadLine) "__init__" = some (some (.ref f_BadLine_init))
  tI_BadLine : PySem.W.typeIn K (.ref f_BadLine_init) = some (.type "function")
  f_BadTop_init : Addr
  d_BadTop_init : FuncData
  F_BadTop_init : Fun K "__init__" "BadTop.__init__" s_BadTop_init f_BadTop_init d_BadTop_init
  b_BadTop_init : Binds K d_BadTop_init ["self"] []
  iC_BadTop : PySem.W.findIn K (.ref C_BadTop) "__init__" = some (some (.ref f_BadTop_init))
  tI_BadTop : PySem.W.typeIn K (.ref f_BadTop_init) = some (.type "function")
  f_BadStart_init : Addr
  d_BadStart_init : FuncData
  F_BadStart_init : Fun K "__init__" "BadStart.__init__" s_BadStart_init f_BadStart_init d_BadStart_init
  b_BadStart_init : Binds K d_BadStart_init ["self"] []
  iC_BadStart : PySem.W.findIn K (.ref C_BadStart) "__init__" = some (some (.ref f_BadStart_init))
  tI_BadStart : PySem.W.typeIn K (.ref f_BadStart_init) = some (.type "function")
  f_BadLength_init : Addr
  d_BadLength_init : FuncData
  F_BadLength_init : Fun K "__init__" "BadLength.__init__" s_BadLength_init f_BadLength_init d_BadLength_init
  b_BadLength_init : Binds K d_BadLength_init ["self", "at"] []
  iC_BadLength : PySem.W.findIn K (.ref C_BadLength) "__init__" = some (some (.ref f_BadLength_init))
  tI_BadLength : PySem.W.typeIn K (.ref f_BadLength_init) = some (.type "function")
  f_BadOrder_init : Addr
  d_BadOrder_init : FuncData
  F_BadOrder_init : Fun K "__init__" "BadOrder.__init__" s_BadOrder_init f_BadOrder_init d_BadOrder_init
  b_BadOrder_init : Binds K d_BadOrder_init ["self"] []
  iC_BadOrder : PySem.W.findIn K (.ref C_BadOrder) "__init__" = some (some (.ref f_BadOrder_init))
  tI_BadOrder : PySem.W.typeIn K (.ref f_BadOrder_init) = some (.type "function")
  f_BadRow_init : Addr
  d_BadRow_init : FuncData
  F_BadRow_init : Fun K "__init__" "BadRow.__init__" s_BadRow_init f_BadRow_init d_BadRow_init
  b_BadRow_init : Binds K d_BadRow_init ["self", "at"] []
  iC_BadRow : PySem.W.findIn K (.ref C_BadRow) "__init__" = some (some (.ref f_BadRow_init))
  tI_BadRow : PySem.W.typeIn K (.ref f_BadRow_init) = some (.type "function")
  f_OffLine_init : Addr
  d_OffLine_init : FuncData
  F_OffLine_init : Fun K "__init__" "OffLine.__init__" s_OffLine_init f_OffLine_init d_OffLine_init
  b_OffLine_init : Binds K d_OffLine_init ["self", "at"] []
  iC_OffLine : PySem.W.findIn K (.ref C_OffLine) "__init__" = some (some (.ref f_OffLine_init))
  tI_OffLine : PySem.W.typeIn K (.ref f_OffLine_init) = some (.type "function")
  f_Overlap_init : Addr
  d_Overlap_init : FuncData
  F_Overlap_init : Fun K "__init__" "Overlap.__init__" s_Overlap_init f_Overlap_init d_Overlap_init
  b_Overlap_init : Binds K d_Overlap_init ["self", "one", "other"] []
  iC_Overlap : PySem.W.findIn K (.ref C_Overlap) "__init__" = some (some (.ref f_Overlap_init))
  tI_Overlap : PySem.W.typeIn K (.ref f_Overlap_init) = some (.type "function")
  f_NotFilled_init : Addr
  d_NotFilled_init : FuncData
  F_NotFilled_init : Fun K "__init__" "NotFilled.__init__" s_NotFilled_init f_NotFilled_init d_NotFilled_init
  b_NotFilled_init : Binds K d_NotFilled_init ["self", "missing"] []
  iC_NotFilled : PySem.W.findIn K (.ref C_NotFilled) "__init__" = some (some (.ref f_NotFilled_init))
  tI_NotFilled : PySem.W.typeIn K (.ref f_NotFilled_init) = some (.type "function")
  f_OtherLine_init : Addr
  d_OtherLine_init : FuncData
  F_OtherLine_init : Fun K "__init__" "OtherLine.__init__" s_OtherLine_init f_OtherLine_init d_OtherLine_init
  b_OtherLine_init : Binds K d_OtherLine_init ["self"] []
  iC_OtherLine : PySem.W.findIn K (.ref C_OtherLine) "__init__" = some (some (.ref f_OtherLine_init))
  tI_OtherLine : PySem.W.typeIn K (.ref f_OtherLine_init) = some (.type "function")
  f_BadRoom_init : Addr
  d_BadRoom_init : FuncData
  F_BadRoom_init : Fun K "__init__" "BadRoom.__init__" s_BadRoom_init f_BadRoom_init d_BadRoom_init
  b_BadRoom_init : Binds K d_BadRoom_init ["self"] []
  iC_BadRoom : PySem.W.findIn K (.ref C_BadRoom) "__init__" = some (some (.ref f_BadRoom_init))
  tI_BadRoom : PySem.W.typeIn K (.ref f_BadRoom_init) = some (.type "function")
  f_BadSwap_init : Addr
  d_BadSwap_init : FuncData
  F_BadSwap_init : Fun K "__init__" "BadSwap.__init__" s_BadSwap_init f_BadSwap_init d_BadSwap_init
  b_BadSwap_init : Binds K d_BadSwap_init ["self", "at"] []
  iC_BadSwap : PySem.W.findIn K (.ref C_BadSwap) "__init__" = some (some (.ref f_BadSwap_init))
  tI_BadSwap : PySem.W.typeIn K (.ref f_BadSwap_init) = some (.type "function")
  f_Meet_init : Addr
  d_Meet_init : FuncData
  F_Meet_init : Fun K "__init__" "Meet.__init__" s_Meet_init f_Meet_init d_Meet_init
  b_Meet_init : Binds K d_Meet_init ["self"] []
  iC_Meet : PySem.W.findIn K (.ref C_Meet) "__init__" = some (some (.ref f_Meet_init))
  tI_Meet : PySem.W.typeIn K (.ref f_Meet_init) = some (.type "function")
  f_BadWedge_init : Addr
  d_BadWedge_init : FuncData
  F_BadWedge_init : Fun K "__init__" "BadWedge.__init__" s_BadWedge_init f_BadWedge_init d_BadWedge_init
  b_BadWedge_init : Binds K d_BadWedge_init ["self"] []
  iC_BadWedge : PySem.W.findIn K (.ref C_BadWedge) "__init__" = some (some (.ref f_BadWedge_init))
  tI_BadWedge : PySem.W.typeIn K (.ref f_BadWedge_init) = some (.type "function")
  f_BadReading_init : Addr
  d_BadReading_init : FuncData
  F_BadReading_init : Fun K "__init__" "BadReading.__init__" s_BadReading_init f_BadReading_init d_BadReading_init
  b_BadReading_init : Binds K d_BadReading_init ["self"] []
  iC_BadReading : PySem.W.findIn K (.ref C_BadReading) "__init__" = some (some (.ref f_BadReading_init))
  tI_BadReading : PySem.W.typeIn K (.ref f_BadReading_init) = some (.type "function")
  f_BadWindow_init : Addr
  d_BadWindow_init : FuncData
  F_BadWindow_init : Fun K "__init__" "BadWindow.__init__" s_BadWindow_init f_BadWindow_init d_BadWindow_init
  b_BadWindow_init : Binds K d_BadWindow_init ["self"] []
  iC_BadWindow : PySem.W.findIn K (.ref C_BadWindow) "__init__" = some (some (.ref f_BadWindow_init))
  tI_BadWindow : PySem.W.typeIn K (.ref f_BadWindow_init) = some (.type "function")
  f_BadName_init : Addr
  d_BadName_init : FuncData
  F_BadName_init : Fun K "__init__" "BadName.__init__" s_BadName_init f_BadName_init d_BadName_init
  b_BadName_init : Binds K d_BadName_init ["self", "value"] []
  iC_BadName : PySem.W.findIn K (.ref C_BadName) "__init__" = some (some (.ref f_BadName_init))
  tI_BadName : PySem.W.typeIn K (.ref f_BadName_init) = some (.type "function")
  f_BadNumber_init : Addr
  d_BadNumber_init : FuncData
  F_BadNumber_init : Fun K "__init__" "BadNumber.__init__" s_BadNumber_init f_BadNumber_init d_BadNumber_init
  b_BadNumber_init : Binds K d_BadNumber_init ["self", "value"] []
  iC_BadNumber : PySem.W.findIn K (.ref C_BadNumber) "__init__" = some (some (.ref f_BadNumber_init))
  tI_BadNumber : PySem.W.typeIn K (.ref f_BadNumber_init) = some (.type "function")
  f_BadDeed_init : Addr
  d_BadDeed_init : FuncData
  F_BadDeed_init : Fun K "__init__" "BadDeed.__init__" s_BadDeed_init f_BadDeed_init d_BadDeed_init
  b_BadDeed_init : Binds K d_BadDeed_init ["self", "at"] []
  iC_BadDeed : PySem.W.findIn K (.ref C_BadDeed) "__init__" = some (some (.ref f_BadDeed_init))
  tI_BadDeed : PySem.W.typeIn K (.ref f_BadDeed_init) = some (.type "function")
  f_BadExchange_init : Addr
  d_BadExchange_init : FuncData
  F_BadExchange_init : Fun K "__init__" "BadExchange.__init__" s_BadExchange_init f_BadExchange_init d_BadExchange_init
  b_BadExchange_init : Binds K d_BadExchange_init ["self"] []
  iC_BadExchange : PySem.W.findIn K (.ref C_BadExchange) "__init__" = some (some (.ref f_BadExchange_init))
  tI_BadExchange : PySem.W.typeIn K (.ref f_BadExchange_init) = some (.type "function")
  f_BadLimit_init : Addr
  d_BadLimit_init : FuncData
  F_BadLimit_init : Fun K "__init__" "BadLimit.__init__" s_BadLimit_init f_BadLimit_init d_BadLimit_init
  b_BadLimit_init : Binds K d_BadLimit_init ["self", "value"] []
  iC_BadLimit : PySem.W.findIn K (.ref C_BadLimit) "__init__" = some (some (.ref f_BadLimit_init))
  tI_BadLimit : PySem.W.typeIn K (.ref f_BadLimit_init) = some (.type "function")
  f_Double_init : Addr
  d_Double_init : FuncData
  F_Double_init : Fun K "__init__" "Double.__init__" s_Double_init f_Double_init d_Double_init
  b_Double_init : Binds K d_Double_init ["self", "name"] []
  iC_Double : PySem.W.findIn K (.ref C_Double) "__init__" = some (some (.ref f_Double_init))
  tI_Double : PySem.W.typeIn K (.ref f_Double_init) = some (.type "function")
  f_TooMany_init : Addr
  d_TooMany_init : FuncData
  F_TooMany_init : Fun K "__init__" "TooMany.__init__" s_TooMany_init f_TooMany_init d_TooMany_init
  b_TooMany_init : Binds K d_TooMany_init ["self", "most"] []
  iC_TooMany : PySem.W.findIn K (.ref C_TooMany) "__init__" = some (some (.ref f_TooMany_init))
  tI_TooMany : PySem.W.typeIn K (.ref f_TooMany_init) = some (.type "function")
  f_Unlike_init : Addr
  d_Unlike_init : FuncData
  F_Unlike_init : Fun K "__init__" "Unlike.__init__" s_Unlike_init f_Unlike_init d_Unlike_init
  b_Unlike_init : Binds K d_Unlike_init ["self", "colour"] []
  iC_Unlike : PySem.W.findIn K (.ref C_Unlike) "__init__" = some (some (.ref f_Unlike_init))
  tI_Unlike : PySem.W.typeIn K (.ref f_Unlike_init) = some (.type "function")
  f_OtherSteps_init : Addr
  d_OtherSteps_init : FuncData
  F_OtherSteps_init : Fun K "__init__" "OtherSteps.__init__" s_OtherSteps_init f_OtherSteps_init d_OtherSteps_init
  b_OtherSteps_init : Binds K d_OtherSteps_init ["self"] []
  iC_OtherSteps : PySem.W.findIn K (.ref C_OtherSteps) "__init__" = some (some (.ref f_OtherSteps_init))
  tI_OtherSteps : PySem.W.typeIn K (.ref f_OtherSteps_init) = some (.type "function")
  f_NothingLeft_init : Addr
  d_NothingLeft_init : FuncData
  F_NothingLeft_init : Fun K "__init__" "NothingLeft.__init__" s_NothingLeft_init f_NothingLeft_init d_NothingLeft_init
  b_NothingLeft_init : Binds K d_NothingLeft_init ["self"] []
  iC_NothingLeft : PySem.W.findIn K (.ref C_NothingLeft) "__init__" = some (some (.ref f_NothingLeft_init))
  tI_NothingLeft : PySem.W.typeIn K (.ref f_NothingLeft_init) = some (.type "function")
  f_OwesMore_init : Addr
  d_OwesMore_init : FuncData
  F_OwesMore_init : Fun K "__init__" "OwesMore.__init__" s_OwesMore_init f_OwesMore_init d_OwesMore_init
  b_OwesMore_init : Binds K d_OwesMore_init ["self", "name"] []
  iC_OwesMore : PySem.W.findIn K (.ref C_OwesMore) "__init__" = some (some (.ref f_OwesMore_init))
  tI_OwesMore : PySem.W.typeIn K (.ref f_OwesMore_init) = some (.type "function")
  f_NotOnLine_init : Addr
  d_NotOnLine_init : FuncData
  F_NotOnLine_init : Fun K "__init__" "NotOnLine.__init__" s_NotOnLine_init f_NotOnLine_init d_NotOnLine_init
  b_NotOnLine_init : Binds K d_NotOnLine_init ["self", "tone"] []
  iC_NotOnLine : PySem.W.findIn K (.ref C_NotOnLine) "__init__" = some (some (.ref f_NotOnLine_init))
  tI_NotOnLine : PySem.W.typeIn K (.ref f_NotOnLine_init) = some (.type "function")
  f_NoPrime_init : Addr
  d_NoPrime_init : FuncData
  F_NoPrime_init : Fun K "__init__" "NoPrime.__init__" s_NoPrime_init f_NoPrime_init d_NoPrime_init
  b_NoPrime_init : Binds K d_NoPrime_init ["self", "value"] []
  iC_NoPrime : PySem.W.findIn K (.ref C_NoPrime) "__init__" = some (some (.ref f_NoPrime_init))
  tI_NoPrime : PySem.W.typeIn K (.ref f_NoPrime_init) = some (.type "function")
  f_UnknownName_init : Addr
  d_UnknownName_init : FuncData
  F_UnknownName_init : Fun K "__init__" "UnknownName.__init__" s_UnknownName_init f_UnknownName_init d_UnknownName_init
  b_UnknownName_init : Binds K d_UnknownName_init ["self", "name"] []
  iC_UnknownName : PySem.W.findIn K (.ref C_UnknownName) "__init__" = some (some (.ref f_UnknownName_init))
  tI_UnknownName : PySem.W.typeIn K (.ref f_UnknownName_init) = some (.type "function")
  f_NotIn_init : Addr
  d_NotIn_init : FuncData
  F_NotIn_init : Fun K "__init__" "NotIn.__init__" s_NotIn_init f_NotIn_init d_NotIn_init
  b_NotIn_init : Binds K d_NotIn_init ["self"] []
  iC_NotIn : PySem.W.findIn K (.ref C_NotIn) "__init__" = some (some (.ref f_NotIn_init))
  tI_NotIn : PySem.W.typeIn K (.ref f_NotIn_init) = some (.type "function")
  f_NotFair_init : Addr
  d_NotFair_init : FuncData
  F_NotFair_init : Fun K "__init__" "NotFair.__init__" s_NotFair_init f_NotFair_init d_NotFair_init
  b_NotFair_init : Binds K d_NotFair_init ["self", "first", "second"] []
  iC_NotFair : PySem.W.findIn K (.ref C_NotFair) "__init__" = some (some (.ref f_NotFair_init))
  tI_NotFair : PySem.W.typeIn K (.ref f_NotFair_init) = some (.type "function")
  f_NotKept_init : Addr
  d_NotKept_init : FuncData
  F_NotKept_init : Fun K "__init__" "NotKept.__init__" s_NotKept_init f_NotKept_init d_NotKept_init
  b_NotKept_init : Binds K d_NotKept_init ["self"] []
  iC_NotKept : PySem.W.findIn K (.ref C_NotKept) "__init__" = some (some (.ref f_NotKept_init))
  tI_NotKept : PySem.W.typeIn K (.ref f_NotKept_init) = some (.type "function")
  f_Odd_init : Addr
  d_Odd_init : FuncData
  F_Odd_init : Fun K "__init__" "Odd.__init__" s_Odd_init f_Odd_init d_Odd_init
  b_Odd_init : Binds K d_Odd_init ["self", "prime"] []
  iC_Odd : PySem.W.findIn K (.ref C_Odd) "__init__" = some (some (.ref f_Odd_init))
  tI_Odd : PySem.W.typeIn K (.ref f_Odd_init) = some (.type "function")
  f_NoRoot_init : Addr
  d_NoRoot_init : FuncData
  F_NoRoot_init : Fun K "__init__" "NoRoot.__init__" s_NoRoot_init f_NoRoot_init d_NoRoot_init
  b_NoRoot_init : Binds K d_NoRoot_init ["self", "first", "second"] []
  iC_NoRoot : PySem.W.findIn K (.ref C_NoRoot) "__init__" = some (some (.ref f_NoRoot_init))
  tI_NoRoot : PySem.W.typeIn K (.ref f_NoRoot_init) = some (.type "function")
  f_Unfit_init : Addr
  d_Unfit_init : FuncData
  F_Unfit_init : Fun K "__init__" "Unfit.__init__" s_Unfit_init f_Unfit_init d_Unfit_init
  b_Unfit_init : Binds K d_Unfit_init ["self", "counts"] []
  iC_Unfit : PySem.W.findIn K (.ref C_Unfit) "__init__" = some (some (.ref f_Unfit_init))
  tI_Unfit : PySem.W.typeIn K (.ref f_Unfit_init) = some (.type "function")
  f_Unmade_init : Addr
  d_Unmade_init : FuncData
  F_Unmade_init : Fun K "__init__" "Unmade.__init__" s_Unmade_init f_Unmade_init d_Unmade_init
  b_Unmade_init : Binds K d_Unmade_init ["self", "reading"] []
  iC_Unmade : PySem.W.findIn K (.ref C_Unmade) "__init__" = some (some (.ref f_Unmade_init))
  tI_Unmade : PySem.W.typeIn K (.ref f_Unmade_init) = some (.type "function")
  f_TooLong_init : Addr
  d_TooLong_init : FuncData
  F_TooLong_init : Fun K "__init__" "TooLong.__init__" s_TooLong_init f_TooLong_init d_TooLong_init
  b_TooLong_init : Binds K d_TooLong_init ["self", "most"] []
  iC_TooLong : PySem.W.findIn K (.ref C_TooLong) "__init__" = some (some (.ref f_TooLong_init))
  tI_TooLong : PySem.W.typeIn K (.ref f_TooLong_init) = some (.type "function")
  f_Level_init : Addr
  d_Level_init : FuncData
  F_Level_init : Fun K "__init__" "Level.__init__" s_Level_init f_Level_init d_Level_init
  b_Level_init : Binds K d_Level_init ["self"] []
  iC_Level : PySem.W.findIn K (.ref C_Level) "__init__" = some (some (.ref f_Level_init))
  tI_Level : PySem.W.typeIn K (.ref f_Level_init) = some (.type "function")
  f_NoEntry_init : Addr
  d_NoEntry_init : FuncData
  F_NoEntry_init : Fun K "__init__" "NoEntry.__init__" s_NoEntry_init f_NoEntry_init d_NoEntry_init
  b_NoEntry_init : Binds K d_NoEntry_init ["self"] []
  iC_NoEntry : PySem.W.findIn K (.ref C_NoEntry) "__init__" = some (some (.ref f_NoEntry_init))
  tI_NoEntry : PySem.W.typeIn K (.ref f_NoEntry_init) = some (.type "function")
  f_l_bag : Addr
  d_l_bag : FuncData
  F_l_bag : Fun K "_law_bag" "_law_bag" s_l_bag f_l_bag d_l_bag
  b_l_bag : Binds K d_l_bag ["_law_script"] []
  m_l_bag : mg "_law_bag" = some (.ref f_l_bag)
  f_l_draw : Addr
  d_l_draw : FuncData
  F_l_draw : Fun K "_law_draw" "_law_draw" s_l_draw f_l_draw d_l_draw
  b_l_draw : Binds K d_l_draw ["_law_bag_here", "_law_sides"] []
  m_l_draw : mg "_law_draw" = some (.ref f_l_draw)
  f_l_of : Addr
  d_l_of : FuncData
  F_l_of : Fun K "_law_of" "_law_of" s_l_of f_l_of d_l_of
  b_l_of : Binds K d_l_of ["_law_bag_here", "_law_things"] []
  m_l_of : mg "_law_of" = some (.ref f_l_of)
  f_l_same : Addr
  d_l_same : FuncData
  F_l_same : Fun K "_law_same" "_law_same" s_l_same f_l_same d_l_same
  b_l_same : Binds K d_l_same ["_law_found", "_law_due_here"] []
  m_l_same : mg "_law_same" = some (.ref f_l_same)
  f_l_told : Addr
  d_l_told : FuncData
  F_l_told : Fun K "_law_told" "_law_told" s_l_told f_l_told d_l_told
  b_l_told : Binds K d_l_told ["_law_fault"] []
  m_l_told : mg "_law_told" = some (.ref f_l_told)
  f_l_first_kinds : Addr
  d_l_first_kinds : FuncData
  F_l_first_kinds : Fun K "_law_first_kinds" "_law_first_kinds" s_l_first_kinds f_l_first_kinds d_l_first_kinds
  b_l_first_kinds : Binds K d_l_first_kinds ["_law_fault"] []
  m_l_first_kinds : mg "_law_first_kinds" = some (.ref f_l_first_kinds)
  f_l_second_kinds : Addr
  d_l_second_kinds : FuncData
  F_l_second_kinds : Fun K "_law_second_kinds" "_law_second_kinds" s_l_second_kinds f_l_second_kinds d_l_second_kinds
  b_l_second_kinds : Binds K d_l_second_kinds ["_law_fault"] []
  m_l_second_kinds : mg "_law_second_kinds" = some (.ref f_l_second_kinds)
  f_l_by_place : Addr
  d_l_by_place : FuncData
  F_l_by_place : Fun K "_law_by_place" "_law_by_place" s_l_by_place f_l_by_place d_l_by_place
  b_l_by_place : Binds K d_l_by_place ["_law_a", "_law_b"] []
  m_l_by_place : mg "_law_by_place" = some (.ref f_l_by_place)
  f_l_by_name : Addr
  d_l_by_name : FuncData
  F_l_by_name : Fun K "_law_by_name" "_law_by_name" s_l_by_name f_l_by_name d_l_by_name
  b_l_by_name : Binds K d_l_by_name ["_law_a", "_law_b"] []
  m_l_by_name : mg "_law_by_name" = some (.ref f_l_by_name)
  f_l_codes : Addr
  d_l_codes : FuncData
  F_l_codes : Fun K "_law_codes" "_law_codes" s_l_codes f_l_codes d_l_codes
  b_l_codes : Binds K d_l_codes [] []
  m_l_codes : mg "_law_codes" = some (.ref f_l_codes)
  f_l_due : Addr
  d_l_due : FuncData
  F_l_due : Fun K "_law_due" "_law_due" s_l_due f_l_due d_l_due
  b_l_due : Binds K d_l_due ["_law_code", "_law_a", "_law_b"] []
  m_l_due : mg "_law_due" = some (.ref f_l_due)
  f_l_raise : Addr
  d_l_raise : FuncData
  F_l_raise : Fun K "_law_raise" "_law_raise" s_l_raise f_l_raise d_l_raise
  b_l_raise : Binds K d_l_raise ["_law_j", "_law_a", "_law_b"] []
  m_l_raise : mg "_law_raise" = some (.ref f_l_raise)
  f_l_caught : Addr
  d_l_caught : FuncData
  F_l_caught : Fun K "_law_caught" "_law_caught" s_l_caught f_l_caught d_l_caught
  b_l_caught : Binds K d_l_caught ["_law_j", "_law_a", "_law_b"] []
  m_l_caught : mg "_law_caught" = some (.ref f_l_caught)
  f_l_thing : Addr
  d_l_thing : FuncData
  F_l_thing : Fun K "_law_thing" "_law_thing" s_l_thing f_l_thing d_l_thing
  b_l_thing : Binds K d_l_thing ["_law_bag_here"] []
  m_l_thing : mg "_law_thing" = some (.ref f_l_thing)
  f_l_made_so : Addr
  d_l_made_so : FuncData
  F_l_made_so : Fun K "_law_made_so" "_law_made_so" s_l_made_so f_l_made_so d_l_made_so
  b_l_made_so : Binds K d_l_made_so ["_law_made", "_law_a", "_law_b"] []
  m_l_made_so : mg "_law_made_so" = some (.ref f_l_made_so)
  f_law : Addr
  d_law : FuncData
  F_law : Fun K "law" "law" s_law f_law d_law
  b_law : Binds K d_law ["_law_script"] []
  m_law : mg "law" = some (.ref f_law)
  kb_BadLine_line : KBinds K d_BadLine_init ["self", "line"] ["line"] g11 g11
  kb_BadLength_at : KBinds K d_BadLength_init ["self", "at"] ["at"] g11 g11
  kb_BadRow_at : KBinds K d_BadRow_init ["self", "at"] ["at"] g11 g11
  kb_NotFilled_missing : KBinds K d_NotFilled_init ["self", "missing"] ["missing"] g11 g11
  kb_NoPrime_value : KBinds K d_NoPrime_init ["self", "value"] ["value"] g11 g11
  kb_NotFair_second_first : KBinds K d_NotFair_init ["self", "first", "second"] ["second", "first"] g12s g12s
  kb_Unmade_reading : KBinds K d_Unmade_init ["self", "reading"] ["reading"] g11 g11
  kb_OffLine_at : KBinds K d_OffLine_init ["self", "at"] ["at"] g11 g11
  kb_Overlap_other_one : KBinds K d_Overlap_init ["self", "one", "other"] ["other", "one"] g12s g12s
  kb_BadSwap_at : KBinds K d_BadSwap_init ["self", "at"] ["at"] g11 g11
  kb_BadName_value : KBinds K d_BadName_init ["self", "value"] ["value"] g11 g11
  kb_BadNumber_value : KBinds K d_BadNumber_init ["self", "value"] ["value"] g11 g11
  kb_BadDeed_at : KBinds K d_BadDeed_init ["self", "at"] ["at"] g11 g11
  kb_BadLimit_value : KBinds K d_BadLimit_init ["self", "value"] ["value"] g11 g11
  kb_Double_name : KBinds K d_Double_init ["self", "name"] ["name"] g11 g11
  kb_TooMany_most : KBinds K d_TooMany_init ["self", "most"] ["most"] g11 g11
  kb_Unlike_colour : KBinds K d_Unlike_init ["self", "colour"] ["colour"] g11 g11
  kb_OwesMore_name : KBinds K d_OwesMore_init ["self", "name"] ["name"] g11 g11
  kb_NotOnLine_tone : KBinds K d_NotOnLine_init ["self", "tone"] ["tone"] g11 g11
  kb_UnknownName_name : KBinds K d_UnknownName_init ["self", "name"] ["name"] g11 g11
  kb_Odd_prime : KBinds K d_Odd_init ["self", "prime"] ["prime"] g11 g11
  kb_NoRoot_first_second : KBinds K d_NoRoot_init ["self", "first", "second"] ["first", "second"] g12 g12
  kb_Unfit_counts : KBinds K d_Unfit_init ["self", "counts"] ["counts"] g11 g11
  kb_TooLong_most : KBinds K d_TooLong_init ["self", "most"] ["most"] g11 g11
  erT : erAll K [C_BadRatio, C_BadText, C_BadLine, C_BadTop, C_BadStart, C_BadLength, C_BadOrder, C_BadRow, C_OffLine, C_Overlap, C_NotFilled, C_OtherLine, C_BadRoom, C_BadSwap, C_Meet, C_BadWedge, C_BadReading, C_BadWindow, C_BadName, C_BadNumber, C_BadDeed, C_BadExchange, C_BadLimit, C_Double, C_TooMany, C_Unlike, C_OtherSteps, C_NothingLeft, C_OwesMore, C_NotOnLine, C_NoPrime, C_UnknownName, C_NotIn, C_NotFair, C_NotKept, C_Odd, C_NoRoot, C_Unfit, C_Unmade, C_TooLong, C_Level, C_NoEntry] ERN (ERF.map fun f => "code" :: f) = true
  kiT : kitAll K ([C_BadRatio, C_BadText, C_BadLine, C_BadTop, C_BadStart, C_BadLength, C_BadOrder, C_BadRow, C_OffLine, C_Overlap, C_NotFilled, C_OtherLine, C_BadRoom, C_BadSwap, C_Meet, C_BadWedge, C_BadReading, C_BadWindow, C_BadName, C_BadNumber, C_BadDeed, C_BadExchange, C_BadLimit, C_Double, C_TooMany, C_Unlike, C_OtherSteps, C_NothingLeft, C_OwesMore, C_NotOnLine, C_NoPrime, C_UnknownName, C_NotIn, C_NotFair, C_NotKept, C_Odd, C_NoRoot, C_Unfit, C_Unmade, C_TooLong, C_Level, C_NoEntry].map Value.ref) [C_BadRatio, C_BadText, C_BadLine, C_BadTop, C_BadStart, C_BadLength, C_BadOrder, C_BadRow, C_OffLine, C_Overlap, C_NotFilled, C_OtherLine, C_BadRoom, C_BadSwap, C_Meet, C_BadWedge, C_BadReading, C_BadWindow, C_BadName, C_BadNumber, C_BadDeed, C_BadExchange, C_BadLimit, C_Double, C_TooMany, C_Unlike, C_OtherSteps, C_NothingLeft, C_OwesMore, C_NotOnLine, C_NoPrime, C_UnknownName, C_NotIn, C_NotFair, C_NotKept, C_Odd, C_NoRoot, C_Unfit, C_Unmade, C_TooLong, C_Level, C_NoEntry] ERK = true
  kbT : kitAll K [.ref C_TurnError, .type "ValueError", .ref C_NotThere, .type "LookupError", .ref C_Impossible, .type "ArithmeticError", .type "IndexError", .type "KeyError", .type "ZeroDivisionError"] [C_BadRatio, C_BadText, C_BadLine, C_BadTop, C_BadStart, C_BadLength, C_BadOrder, C_BadRow, C_OffLine, C_Overlap, C_NotFilled, C_OtherLine, C_BadRoom, C_BadSwap, C_Meet, C_BadWedge, C_BadReading, C_BadWindow, C_BadName, C_BadNumber, C_BadDeed, C_BadExchange, C_BadLimit, C_Double, C_TooMany, C_Unlike, C_OtherSteps, C_NothingLeft, C_OwesMore, C_NotOnLine, C_NoPrime, C_UnknownName, C_NotIn, C_NotFair, C_NotKept, C_Odd, C_NoRoot, C_Unfit, C_Unmade, C_TooLong, C_Level, C_NoEntry] ERB = true
  exT : exmAll K [.ref C_TurnError, .ref C_NotThere, .ref C_Impossible, .ref C_NoEntry] [C_BadRatio, C_Overlap, C_NotFilled, C_OwesMore, C_BadLine, C_NotOnLine, C_NoPrime, C_NotIn, C_NotFair, C_Level, C_Unmade, C_NoEntry] ERX = true
  eqA : PySem.W.findIn K (.ref C_BadTop) "__eq__" = some (some (.builtin "object.__eq__"))
  eqB : PySem.W.findIn K (.ref C_NoPrime) "__eq__" = some (some (.builtin "object.__eq__"))
  oN : PySem.W.specialIn K (.builtin "object.__class__") "__get__" = some (some (.builtin "getset_descriptor.__get__"))
  oT : PySem.W.takesIn K (.builtin "object.__class__") = some true
/-! ### steps of a reading -/
local macro_rules | `(tactic| walk_at "hp") => `(tactic| first | assumption | exact upd_same | (refine (upd_ne (by first | assumption | (exact Ne.symm (by assumption)))).trans ?_; walk_at "hp"))
local macro_rules | `(tactic| walk_at "ok") => `(tactic| first | (exact Or.inr ⟨by decide, by decide⟩) | (exact ⟨by decide, by decide⟩) | (exact ⟨by decide, by decide, by decide⟩) | (show _ ≠ _; omega) | (show _ ≠ _; decide) | (exact Or.inl ⟨by omega, by omega⟩) | decide)
local macro_rules | `(tactic| walk_at "sq") => `(tactic| first | assumption | exact SqL.of (by walk_at "hp") | exact SqT.of (by walk_at "hp"))
local macro_rules | `(tactic| walk_at "ty") => `(tactic| first | refine ⟨_, _, Value.type "int", Value.type "list", false, rfl, ClsV.ty _, TyX.base (TyOf.int _), kt_int_list, ?_⟩ | refine ⟨_, _, Value.type "bool", Value.type "list", false, rfl, ClsV.ty _, TyX.base (TyOf.bl _), kt_bool_list, ?_⟩ | refine ⟨_, _, Value.type "str", Value.type "list", false, rfl, ClsV.ty _, TyX.base (TyOf.str _), kt_str_list, ?_⟩ | refine ⟨_, _, Value.type "NoneType", Value.type "list", false, rfl, ClsV.ty _, TyX.base TyOf.non, kt_NoneType_list, ?_⟩ | refine ⟨_, _, Value.type "list", Value.type "list", true, rfl, ClsV.ty _, tyx_L (by walk_at "sq"), kt_list_list, ?_⟩ | refine ⟨_, _, Value.type "tuple", Value.type "list", false, rfl, ClsV.ty _, tyx_T (by walk_at "sq"), kt_tuple_list, ?_⟩ | refine ⟨_, _, Value.type "int", Value.type "tuple", false, rfl, ClsV.ty _, TyX.base (TyOf.int _), kt_int_tuple, ?_⟩ | refine ⟨_, _, Value.type "bool", Value.type "tuple", false, rfl, ClsV.ty _, TyX.base (TyOf.bl _), kt_bool_tuple, ?_⟩ | refine ⟨_, _, Value.type "str", Value.type "tuple", false, rfl, ClsV.ty _, TyX.base (TyOf.str _), kt_str_tuple, ?_⟩ | refine ⟨_, _, Value.type "NoneType", Value.type "tuple", false, rfl, ClsV.ty _, TyX.base TyOf.non, kt_NoneType_tuple, ?_⟩ | refine ⟨_, _, Value.type "list", Value.type "tuple", false, rfl, ClsV.ty _, tyx_L (by walk_at "sq"), kt_list_tuple, ?_⟩ | refine ⟨_, _, Value.type "tuple", Value.type "tuple", true, rfl, ClsV.ty _, tyx_T (by walk_at "sq"), kt_tuple_tuple, ?_⟩ | refine ⟨_, _, Value.type "int", Value.type "bool", false, rfl, ClsV.ty _, TyX.base (TyOf.int _), kt_int_bool, ?_⟩ | refine ⟨_, _, Value.type "bool", Value.type "bool", true, rfl, ClsV.ty _, TyX.base (TyOf.bl _), kt_bool_bool, ?_⟩ | refine ⟨_, _, Value.type "str", Value.type "bool", false, rfl, ClsV.ty _, TyX.base (TyOf.str _), kt_str_bool, ?_⟩ | refine ⟨_, _, Value.type "NoneType", Value.type "bool", false, rfl, ClsV.ty _, TyX.base TyOf.non, kt_NoneType_bool, ?_⟩ | refine ⟨_, _, Value.type "list", Value.type "bool", false, rfl, ClsV.ty _, tyx_L (by walk_at "sq"), kt_list_bool, ?_⟩ | refine ⟨_, _, Value.type "tuple", Value.type "bool", false, rfl, ClsV.ty _, tyx_T (by walk_at "sq"), kt_tuple_bool, ?_⟩ | refine ⟨_, _, Value.type "int", Value.type "int", true, rfl, ClsV.ty _, TyX.base (TyOf.int _), kt_int_int, ?_⟩ | refine ⟨_, _, Value.type "bool", Value.type "int", true, rfl, ClsV.ty _, TyX.base (TyOf.bl _), kt_bool_int, ?_⟩ | refine ⟨_, _, Value.type "str", Value.type "int", false, rfl, ClsV.ty _, TyX.base (TyOf.str _), kt_str_int, ?_⟩ | refine ⟨_, _, Value.type "NoneType", Value.type "int", false, rfl, ClsV.ty _, TyX.base TyOf.non, kt_NoneType_int, ?_⟩ | refine ⟨_, _, Value.type "list", Value.type "int", false, rfl, ClsV.ty _, tyx_L (by walk_at "sq"), kt_list_int, ?_⟩ | refine ⟨_, _, Value.type "tuple", Value.type "int", false, rfl, ClsV.ty _, tyx_T (by walk_at "sq"), kt_tuple_int, ?_⟩ | refine ⟨_, _, Value.type "int", Value.type "str", false, rfl, ClsV.ty _, TyX.base (TyOf.int _), kt_int_str, ?_⟩ | refine ⟨_, _, Value.type "bool", Value.type "str", false, rfl, ClsV.ty _, TyX.base (TyOf.bl _), kt_bool_str, ?_⟩ | refine ⟨_, _, Value.type "str", Value.type "str", true, rfl, ClsV.ty _, TyX.base (TyOf.str _), kt_str_str, ?_⟩ | refine ⟨_, _, Value.type "NoneType", Value.type "str", false, rfl, ClsV.ty _, TyX.base TyOf.non, kt_NoneType_str, ?_⟩ | refine ⟨_, _, Value.type "list", Value.type "str", false, rfl, ClsV.ty _, tyx_L (by walk_at "sq"), kt_list_str, ?_⟩ | refine ⟨_, _, Value.type "tuple", Value.type "str", false, rfl, ClsV.ty _, tyx_T (by walk_at "sq"), kt_tuple_str, ?_⟩)
local macro_rules | `(tactic| walk_at "go1") => `(tactic| first
  | (refine ⟨_, rfl, ?_⟩)
  | (refine ⟨_, _, rfl, rfl, ?_⟩)
  | (refine ⟨_, _, _, _, rfl, rfl, SqL.of (by walk_at "hp"), rfl, ?_⟩)
  | (refine Or.inl ⟨_, rfl, ?_⟩)
  | (refine ⟨rfl, ?_⟩)
  | (refine ⟨_, _, rfl, .inl (SqL.of (by walk_at "hp")), ?_⟩)
  | (refine ⟨_, _, rfl, Or.inl (by assumption), ?_⟩)
  | (refine ⟨_, _, rfl, Or.inr (by assumption), ?_⟩)
  | (refine ⟨(by walk_at "ok"), ?_⟩)
  | (refine ⟨_, _, _, _, rfl, rfl, (by walk_at "hp"), rfl, ?_⟩))
local macro_rules | `(tactic| walk_at "go") => `(tactic| repeat (walk_at "go1"))
local macro_rules | `(tactic| walk_at "gt") => `(tactic| repeat (first | walk_at "go1" | walk_at "ty"))

/-! ### the law's own helpers -/
section
variable {P : Program} {w : World} {K : PySem.W.Frag} {mg : Str → Option Value} {base : Heap}
def spDraw : Sp := fun vs H Q _ => ∃ (B : Bg) (n : Int), vs = [.ref B.b, .int n] ∧ 0 < n ∧ n.natAbs < 2 ^ 200 ∧ Bag B H ∧ ∀ (d : Int) (H' : Hp), 0 ≤ d → d < n → Bag B H' → Kb B.b H H' → Q (.int d) H'
theorem ok_draw (T : Tx K mg) : FnOk P w K mg base CX0 1 T.f_l_draw T.d_l_draw ["_law_bag_here", "_law_sides"] spDraw := by
  refine T.F_l_draw.ok sc_l_draw (fun vs H Q E h => ?_) (fun cdv A outer s H vs Q E hr h => ?_)
  · obtain ⟨g, n, rfl, _⟩ := h
    rfl
  obtain ⟨⟨g, L, ns⟩, n, rfl, hn, hn2, ⟨⟨i, r, z, c, hg, hi, hrr, hz, hz2⟩, hL, hne⟩, q⟩ := h
  dsimp only at hg hL hne q
  have nd := sc_l_draw.nd
  refine ⟨_, (pss_cut (ps_if (PW.pt (pw_and (pt_cmpR op_eq (pe_ix (show IxR _ (rIxL K) from ix_list) (pv 0) pe_int (fun _ _ => rfl)) pe_int (nomark _)) (pw_and1 (pt_cmpR op_lt (pe_ix (show IxR _ (rIxL K) from ix_list) (pv 0) pe_int (fun _ _ => rfl)) (pe_callB (show CallR _ _ (rLenSq K) from call_len_seq) (by rfl) T.z_len (by decide +kernel) (pa_cons (pe_ix (show IxR _ (rIxL K) from ix_list) (pv 0) pe_int (fun _ _ => rfl)) pa_nil)) (nomark _))))) (pss_cons (ps_set (i := 2) nd rfl (Or.inl rfl) (pe_callB call_abs (by rfl) T.z_abs (by decide +kernel) (pa_cons (pe_callTy call_int1 (by rfl) T.z_int (by decide +kernel) (pa_cons (pe_ix (show IxR _ (rIxL K) from ix_list) (pe_ix (show IxR _ (rIxL K) from ix_list) (pv 0) pe_int (fun _ _ => rfl)) (pe_ix (show IxR _ (rIxL K) from ix_list) (pv 0) pe_int (fun _ _ => rfl)) (fun _ _ => rfl)) pa_nil)) pa_nil)))
    (pss_cons (ps_asg (pe_op op_add (pe_ix (show IxR _ (rIxL K) from ix_list) (pv 0) pe_int (fun _ _ => rfl)) pe_int) (pg_sub (pv 0) pe_int set_list))
    (pss_one (ps_if (pt_cmpR op_ge (pv 2) (pe_op op_pow pe_int pe_int) (nomark _)) (pss_one (ps_asg (pv 2) (pg_sub (pv 0) pe_int set_list))) (pss_one (ps_asg (pe_op op_modN (pe_callTy call_int1 (by rfl) T.z_int (by decide +kernel) (pa_cons (pe_op op_add (pe_op op_add (pe_op op_mul (pe_ix (show IxR _ (rIxL K) from ix_list) (pv 0) pe_int (fun _ _ => rfl)) pe_int) (pe_op op_mul (pe_op op_modN (pv 2) pe_int) pe_int)) pe_int) pa_nil)) pe_int) (pg_sub (pv 0) pe_int set_list))))))) pss_nil)
    (pss_cons (ps_if (pt_cmpR op_gt (pe_ix (show IxR _ (rIxL K) from ix_list) (pv 0) pe_int (fun _ _ => rfl)) pe_int (nomark _)) (pss_cons (ps_set (i := 3) nd rfl (Or.inl rfl) (pe_op op_modN (pe_callTy call_int1 (by rfl) T.z_int (by decide +kernel) (pa_cons (pe_ix (show IxR _ (rIxL K) from ix_list) (pv 0) pe_int (fun _ _ => rfl)) pa_nil)) (pv 1)))
    (pss_cons (ps_asg (pe_op op_fdivW (pe_ix (show IxR _ (rIxL K) from ix_list) (pv 0) pe_int (fun _ _ => rfl)) (pv 1)) (pg_sub (pv 0) pe_int set_list))
    (pss_one (ps_ret (pv 3))))) pss_nil)
    (pss_cons (ps_asg (pe_op op_add (pe_ix (show IxR _ (rIxL K) from ix_list) (pv 0) pe_int (fun _ _ => rfl)) pe_int) (pg_sub (pv 0) pe_int set_list))
    (pss_cons (ps_set (i := 4) nd rfl (Or.inl rfl) (pe_callTy call_int1 (by rfl) T.z_int (by decide +kernel) (pa_cons (pe_ix (show IxR _ (rIxL K) from ix_list) (pv 0) pe_int (fun _ _ => rfl)) pa_nil)))
    (pss_cons (ps_asg (pe_op op_modN (pe_callTy call_int1 (by rfl) T.z_int (by decide +kernel) (pa_cons (pe_op op_add (pe_op op_add (pe_op op_add (pe_op op_mul (pe_op op_mul (pv 4) (pv 4)) pe_int) (pe_op op_mul (pv 4) pe_int)) (pe_op op_mul (pe_ix (show IxR _ (rIxL K) from ix_list) (pv 0) pe_int (fun _ _ => rfl)) pe_int)) pe_int) pa_nil)) pe_int) (pg_sub (pv 0) pe_int set_list))
    (pss_one (ps_ret (pe_op op_modN (pe_callTy call_int1 (by rfl) T.z_int (by decide +kernel) (pa_cons (pe_op op_add (pe_op op_fdivN (pe_ix (show IxR _ (rIxL K) from ix_list) (pv 0) pe_int (fun _ _ => rfl)) pe_int) (pe_op op_mul (pe_op op_modN (pe_callTy call_int1 (by rfl) T.z_int (by decide +kernel) (pa_cons (pe_ix (show IxR _ (rIxL K) from ix_list) (pv 0) pe_int (fun _ _ => rfl)) pa_nil)) pe_int) pe_int)) pa_nil)) (pv 1))))))))), ?_⟩
  refine ⟨fun σ' H' => (∃ a : Option V, σ' = [some (.ref g), some (.int n), a, none, none]) ∧ Bag ⟨g, L, ns⟩ H' ∧ Kb g H H', ?_, ?_⟩
  · walk_at "go"
    refine ite2 (fun c1 => ?_) (fun c1 => ?_)
    · walk_at "go"
      refine ite2 (fun c2 => ?_) (fun c2 => ?_)
      · have c2' : i < (((ns.map V.int).length : Nat) : Int) := of_decide_eq_true c2
        rw [List.length_map] at c2'
        have hk : i.toNat < ns.length := by omega
        walk_at "go"
        refine ⟨L, ns.map V.int, i, V.int ns[i.toNat], rfl, rfl, SqL.of hL, at_of (j := i.toNat) (by omega) (by rw [List.getElem?_map, List.getElem?_eq_getElem hk]; rfl), ?_⟩
        walk_at "go"
        have c3 : 0 ≤ (if ns[i.toNat] < 0 then -ns[i.toNat] else ns[i.toNat]) := by split <;> omega
        refine ite2 (fun _ => ?_) (fun _ => ?_)
        · walk_at "go"
          exact ⟨⟨_, rfl⟩, ⟨⟨i + 1, _, z, c, upd_same, by omega, c3, hz, hz2⟩, by rw [upd_ne hne, upd_ne hne]; exact hL, hne⟩, Kb.at.trans Kb.at⟩
        · walk_at "go"
          have m1 := fm (i := z * 69621 + (if ns[i.toNat] < 0 then -ns[i.toNat] else ns[i.toNat]).fmod 1000003 * 907 + 29) (j := 2147483629) (by decide)
          exact ⟨⟨_, rfl⟩, ⟨⟨i + 1, r, _, c, upd_same, by omega, hrr, m1.1, by omega⟩, by rw [upd_ne hne, upd_ne hne]; exact hL, hne⟩, Kb.at.trans Kb.at⟩
      · exact ⟨⟨_, rfl⟩, ⟨⟨i, r, z, c, hg, hi, hrr, hz, hz2⟩, hL, hne⟩, Kb.refl _ _⟩
    · walk_at "go"
      exact ⟨⟨_, rfl⟩, ⟨⟨i, r, z, c, hg, hi, hrr, hz, hz2⟩, hL, hne⟩, Kb.refl _ _⟩
  · clear hg hL hne hi hrr hz hz2
    rintro σ' H' ⟨⟨a, rfl⟩, ⟨⟨i, r, z, c, hg, hi, hrr, hz, hz2⟩, hL, hne⟩, kb⟩
    dsimp only at hg hL hne
    walk_at "go"
    refine ite2 (fun c1 => ?_) (fun c1 => ?_)
    · have m1 := fm (i := r) (j := n) hn
      walk_at "go"
      refine ⟨wide_div hn hn2 (by decide) (by decide), ?_⟩
      walk_at "go"
      exact q _ _ m1.1 m1.2 ⟨⟨i, _, z, c, upd_same, hi, Int.ediv_nonneg hrr (by omega), hz, hz2⟩, by rw [upd_ne hne]; exact hL, hne⟩ (kb.trans Kb.at)
    · walk_at "go"
      have m1 := fm (i := z * z * 19 + z * 50021 + (c + 1) * 7877 + 40009) (j := 2147483587) (by decide)
      have m2 := fm (i := ((z * z * 19 + z * 50021 + (c + 1) * 7877 + 40009).fmod 2147483587).fdiv 89 + ((z * z * 19 + z * 50021 + (c + 1) * 7877 + 40009).fmod 2147483587).fmod 9973 * 53) (j := n) hn
      exact q _ _ m2.1 m2.2 ⟨⟨i, r, _, _, upd_same, hi, hrr, m1.1, by omega⟩, by rw [upd_ne hne, upd_ne hne]; exact hL, hne⟩ ((kb.trans Kb.at).trans Kb.at)
/-- the law's bag of a script -/
def spBag (K : PySem.W.Frag) : Sp := fun vs H Q _ => ∃ (a : Addr) (ns : List Int), vs = [.ref a] ∧ SqL K H a (ns.map V.int) ∧ ns.length ≤ 63 ∧ ∀ (B : Bg) (H' : Hp), Same H H' → Bag B H' → H B.b = none → Q (.ref B.b) H'
theorem cut63 {xs : List V} (h : xs.length ≤ 63) : cutV xs none (some 63) = xs := by
  unfold cutV
  have e1 : HT.sIx xs.length 0 none = 0 := rfl
  have e2 : HT.sIx xs.length xs.length (some 63) = xs.length := by
    unfold HT.sIx
    simp
    omega
  rw [e1, e2]
  simp
theorem ok_bag (T : Tx K mg) : FnOk P w K mg base CX0 1 T.f_l_bag T.d_l_bag ["_law_script"] (spBag K) := by
  refine T.F_l_bag.ok sc_l_bag (fun vs H Q E h => ?_) (fun cdv A outer s H vs Q E hr h => ?_)
  · obtain ⟨a, ns, rfl, _⟩ := h
    rfl
  obtain ⟨a, ns, rfl, hS, h63, q⟩ := h
  have nd := sc_l_bag.nd
  have hc : cutV (ns.map V.int) none (some 63) = ns.map V.int := cut63 (by rw [List.length_map]; exact h63)
  refine ⟨_, (pss_cons (ps_set (i := 1) nd rfl (Or.inl rfl) pe_int)
    (pss_cons (ps_for PassesOwn.never rfl (show PI _ _ _ (iList K _) from pi_list (pe_slice (show SlR _ (rSlL K) from sl_list) (pv 0) po_none (po_some pe_int))) (pg_name (i := 2) nd rfl (Or.inl rfl)) (pss_one (ps_set (i := 1) nd rfl (Or.inl rfl) (pe_op op_modN (pe_callTy call_int1 (by rfl) T.z_int (by decide +kernel) (pa_cons (pe_op op_add (pe_op op_add (pe_op op_mul (pv 1) pe_int) (pe_op op_mul (pe_op op_modN (pe_callTy call_int1 (by rfl) T.z_int (by decide +kernel) (pa_cons (pv 2) pa_nil)) pe_int) pe_int)) pe_int) pa_nil)) pe_int))))
    (pss_one (ps_ret (pe_lst (pa_cons (pe_callTy (show CallR _ _ (rListOf K) from call_list_of) (by rfl) T.z_list (by decide +kernel) (pa_cons (pe_slice (show SlR _ (rSlL K) from sl_list) (pv 0) po_none (po_some pe_int)) pa_nil)) (pa_cons pe_int (pa_cons pe_int (pa_cons (pv 1) (pa_cons pe_int pa_nil)))))))))), ?_⟩
  refine ⟨_, rfl, _, rfl, a, _, rfl, hS, fun p hp => ?_⟩
  rw [hc]
  refine ⟨p, rfl, ⟨_, SqL.of upd_same⟩, for_list (K := K) (a := p) (xs := ns.map V.int) (fun i σ' H' => (∃ (z : Int) (v : Option V), σ' = [some (.ref a), some (.int z), v] ∧ 0 ≤ z ∧ z < 2147483648) ∧ H' = upd H p (.lst (ns.map V.int)))
    ⟨⟨7919, none, rfl, by decide, by decide⟩, rfl⟩ (fun i σ' H' _ h => by rw [h.2]; exact SqL.of upd_same) ?_ ?_⟩
  · rintro i y σ' H' hi ⟨⟨z, v, rfl, h1, h2⟩, rfl⟩
    obtain ⟨k, rfl⟩ : ∃ k, y = V.int k := by
      rw [List.getElem?_map] at hi
      cases e : ns[i]? with
      | none => rw [e] at hi; cases hi
      | some k => rw [e] at hi; exact ⟨k, (Option.some.inj hi).symm⟩
    walk_at "go"
    have m1 := fm (i := z * 48271 + k.fmod 1000003 * 401 + 13) (j := 2147483647) (by decide)
    exact ⟨⟨_, _, rfl, m1.1, by omega⟩, rfl⟩
  · rintro σ' H' ⟨⟨z, v, rfl, h1, h2⟩, rfl⟩
    have s1 : Same H (upd H p (.lst (ns.map V.int))) := Same.new hp
    refine ⟨_, rfl, _, rfl, a, _, rfl, s1.seq hS, fun p2 hp2 => ?_⟩
    rw [hc]
    have s2 := s1.trans (Same.new (o := .lst (ns.map V.int)) hp2)
    refine ⟨_, _, rfl, .inl (SqL.of upd_same), fun p3 hp3 => ?_⟩
    have s3 := s2.trans (Same.new (o := .lst (ns.map V.int)) hp3)
    walk_at "go"
    refine ⟨(by show 5 ≤ sizeLine; decide), fun p4 hp4 => ?_⟩
    have n4 : p3 ≠ p4 := ne_of_none upd_same hp4
    exact q ⟨p4, p3, ns⟩ _ (s3.trans (Same.new hp4)) ⟨⟨0, 0, z, 0, upd_same, by decide, by decide, h1, h2⟩, by rw [upd_ne n4]; exact upd_same, n4⟩ (s3.free hp4)
/-- one of some things -/
def spOf (K : PySem.W.Frag) : Sp := fun vs H Q _ => ∃ (B : Bg) (a : Addr) (xs : List V), vs = [.ref B.b, .ref a] ∧ SqL K H a xs ∧ a ≠ B.b ∧ 0 < xs.length ∧ xs.length ≤ 1000 ∧ Bag B H ∧ ∀ (i : Nat) (v : V) (H' : Hp), xs[i]? = some v → Bag B H' → Kb B.b H H' → Q v H'
theorem Kb.seq {g : Addr} {H H' : Hp} {a : Addr} {xs : List V} (e : Kb g H H') (n : a ≠ g) (h : SqL K H a xs) : SqL K H' a xs := by
  rcases h with (h | ⟨o, h⟩) | h
  · exact .inl (.inl (e _ _ h n))
  · exact .inl (.inr ⟨o, e _ _ h n⟩)
  · exact .inr h
theorem ok_of (T : Tx K mg) : FnOk P w K mg base CX0 2 T.f_l_of T.d_l_of ["_law_bag_here", "_law_things"] (spOf K) := by
  have G_l_draw := ok_draw (P := P) (w := w) (base := base) T
  refine T.F_l_of.ok sc_l_of (fun vs H Q E h => ?_) (fun cdv A outer s H vs Q E hr h => ?_)
  · obtain ⟨B, a, xs, rfl, _⟩ := h
    rfl
  obtain ⟨B, a, xs, rfl, hS, hne, h0, h1, hB, q⟩ := h
  have nd := sc_l_of.nd
  refine ⟨_, (pss_one (ps_ret (pe_ix (show IxR _ (rIxL K) from ix_list) (pv 1) (pe_call G_l_draw (hr.mono (by decide)) (by rfl) T.m_l_draw T.F_l_draw.kp T.b_l_draw .nil pass0 (pa_cons (pv 0) (pa_cons (pe_callB (show CallR _ _ (rLenSq K) from call_len_seq) (by rfl) T.z_len (by decide +kernel) (pa_cons (pv 1) pa_nil)) pa_nil))) (fun _ _ => rfl)))), ?_⟩
  refine ⟨_, rfl, _, rfl, _, rfl, _, _, rfl, .inl hS, B, _, rfl, by omega, Nat.lt_of_le_of_lt (by omega : ((xs.length : Int)).natAbs ≤ 1000) (by decide), hB, fun d H' d0 d1 hB' kb => ?_⟩
  have hk : d.toNat < xs.length := by omega
  refine ⟨_, _, _, xs[d.toNat], rfl, rfl, kb.seq hne hS, at_of (j := d.toNat) (by omega) (List.getElem?_eq_getElem hk), ?_⟩
  exact q d.toNat _ H' (List.getElem?_eq_getElem hk) hB' kb
/-! ### equal data -/
inductive DEq (K : PySem.W.Frag) (H : Hp) : Nat → V → V → Prop where
  | non {n : Nat} : DEq K H n .non .non
  | bl {n : Nat} (b : Bool) : DEq K H n (.bl b) (.bl b)
  | int {n : Nat} (i : Int) : DEq K H n (.int i) (.int i)
  | str {n : Nat} (x : Str) : DEq K H n (.str x) (.str x)
  | lst {n : Nat} {a b : Addr} {xs ys : List V} (h1 : SqL K H a xs) (h2 : SqL K H b ys) (hlen : xs.length ≤ 100000) (hl : xs.length = ys.length) (h : ∀ (i : Nat) (x y : V), xs[i]? = some x → ys[i]? = some y → DEq K H n x y) : DEq K H (n + 1) (.ref a) (.ref b)
  | tup {n : Nat} {a b : Addr} {xs ys : List V} (h1 : SqT K H a xs) (h2 : SqT K H b ys) (hlen : xs.length ≤ 100000) (hl : xs.length = ys.length) (h : ∀ (i : Nat) (x y : V), xs[i]? = some x → ys[i]? = some y → DEq K H n x y) : DEq K H (n + 1) (.ref a) (.ref b)
theorem DEq.same {n : Nat} {H H' : Hp} {x y : V} (h : DEq K H n x y) (s : Same H H') : DEq K H' n x y := by
  induction h with
  | non => exact .non
  | bl b => exact .bl b
  | int i => exact .int i
  | str x => exact .str x
  | lst h1 h2 hlen hl _ ih => exact .lst (s.seq h1) (s.seq h2) hlen hl ih
  | tup h1 h2 hlen hl _ ih => exact .tup (seqT s h1) (seqT s h2) hlen hl ih
end

end TL
namespace TL
open PySem L2

/-! ### steps of a reading -/
local macro_rules | `(tactic| walk_at "hp") => `(tactic| first | assumption | exact upd_same | (refine (upd_ne (by first | assumption | (exact Ne.symm (by assumption)))).trans ?_; walk_at "hp"))
local macro_rules | `(tactic| walk_at "ok") => `(tactic| first | (exact Or.inr ⟨by decide, by decide⟩) | (exact ⟨by decide, by decide⟩) | (exact ⟨by decide, by decide, by decide⟩) | (show _ ≠ _; omega) | (show _ ≠ _; decide) | (exact Or.inl ⟨by omega, by omega⟩) | decide)
local macro_rules | `(tactic| walk_at "sq") => `(tactic| first | assumption | exact SqL.of (by walk_at "hp") | exact SqT.of (by walk_at "hp"))
local macro_rules | `(tactic| walk_at "ty") => `(tactic| first | refine ⟨_, _, Value.type "int", Value.type "list", false, rfl, ClsV.ty _, TyX.base (TyOf.int _), kt_int_list, ?_⟩ | refine ⟨_, _, Value.type "bool", Value.type "list", false, rfl, ClsV.ty _, TyX.base (TyOf.bl _), kt_bool_list, ?_⟩ | refine ⟨_, _, Value.type "str", Value.type "list", false, rfl, ClsV.ty _, TyX.base (TyOf.str _), kt_str_list, ?_⟩ | refine ⟨_, _, Value.type "NoneType", Value.type "list", false, rfl, ClsV.ty _, TyX.base TyOf.non, kt_NoneType_list, ?_⟩ | refine ⟨_, _, Value.type "list", Value.type "list", true, rfl, ClsV.ty _, tyx_L (by walk_at "sq"), kt_list_list, ?_⟩ | refine ⟨_, _, Value.type "tuple", Value.type "list", false, rfl, ClsV.ty _, tyx_T (by walk_at "sq"), kt_tuple_list, ?_⟩ | refine ⟨_, _, Value.type "int", Value.type "tuple", false, rfl, ClsV.ty _, TyX.base (TyOf.int _), kt_int_tuple, ?_⟩ | refine ⟨_, _, Value.type "bool", Value.type "tuple", false, rfl, ClsV.ty _, TyX.base (TyOf.bl _), kt_bool_tuple, ?_⟩ | refine ⟨_, _, Value.type "str", Value.type "tuple", false, rfl, ClsV.ty _, TyX.base (TyOf.str _), kt_str_tuple, ?_⟩ | refine ⟨_, _, Value.type "NoneType", Value.type "tuple", false, rfl, ClsV.ty _, TyX.base TyOf.non, kt_NoneType_tuple, ?_⟩ | refine ⟨_, _, Value.type "list", Value.type "tuple", false, rfl, ClsV.ty _, tyx_L (by walk_at "sq"), kt_list_tuple, ?_⟩ | refine ⟨_, _, Value.type "tuple", Value.type "tuple", true, rfl, ClsV.ty _, tyx_T (by walk_at "sq"), kt_tuple_tuple, ?_⟩ | refine ⟨_, _, Value.type "int", Value.type "bool", false, rfl, ClsV.ty _, TyX.base (TyOf.int _), kt_int_bool, ?_⟩ | refine ⟨_, _, Value.type "bool", Value.type "bool", true, rfl, ClsV.ty _, TyX.base (TyOf.bl _), kt_bool_bool, ?_⟩ | refine ⟨_, _, Value.type "str", Value.type "bool", false, rfl, ClsV.ty _, TyX.base (TyOf.str _), kt_str_bool, ?_⟩ | refine ⟨_, _, Value.type "NoneType", Value.type "bool", false, rfl, ClsV.ty _, TyX.base TyOf.non, kt_NoneType_bool, ?_⟩ | refine ⟨_, _, Value.type "list", Value.type "bool", false, rfl, ClsV.ty _, tyx_L (by walk_at "sq"), kt_list_bool, ?_⟩ | refine ⟨_, _, Value.type "tuple", Value.type "bool", false, rfl, ClsV.ty _, tyx_T (by walk_at "sq"), kt_tuple_bool, ?_⟩ | refine ⟨_, _, Value.type "int", Value.type "int", true, rfl, ClsV.ty _, TyX.base (TyOf.int _), kt_int_int, ?_⟩ | refine ⟨_, _, Value.type "bool", Value.type "int", true, rfl, ClsV.ty _, TyX.base (TyOf.bl _), kt_bool_int, ?_⟩ | refine ⟨_, _, Value.type "str", Value.type "int", false, rfl, ClsV.ty _, TyX.base (TyOf.str _), kt_str_int, ?_⟩ | refine ⟨_, _, Value.type "NoneType", Value.type "int", false, rfl, ClsV.ty _, TyX.base TyOf.non, kt_NoneType_int, ?_⟩ | refine ⟨_, _, Value.type "list", Value.type "int", false, rfl, ClsV.ty _, tyx_L (by walk_at "sq"), kt_list_int, ?_⟩ | refine ⟨_, _, Value.type "tuple", Value.type "int", false, rfl, ClsV.ty _, tyx_T (by walk_at "sq"), kt_tuple_int, ?_⟩ | refine ⟨_, _, Value.type "int", Value.type "str", false, rfl, ClsV.ty _, TyX.base (TyOf.int _), kt_int_str, ?_⟩ | refine ⟨_, _, Value.type "bool", Value.type "str", false, rfl, ClsV.ty _, TyX.base (TyOf.bl _), kt_bool_str, ?_⟩ | refine ⟨_, _, Value.type "str", Value.type "str", true, rfl, ClsV.ty _, TyX.base (TyOf.str _), kt_str_str, ?_⟩ | refine ⟨_, _, Value.type "NoneType", Value.type "str", false, rfl, ClsV.ty _, TyX.base TyOf.non, kt_NoneType_str, ?_⟩ | refine ⟨_, _, Value.type "list", Value.type "str", false, rfl, ClsV.ty _, tyx_L (by walk_at "sq"), kt_list_str, ?_⟩ | refine ⟨_, _, Value.type "tuple", Value.type "str", false, rfl, ClsV.ty _, tyx_T (by walk_at "sq"), kt_tuple_str, ?_⟩)
local macro_rules | `(tactic| walk_at "go1") => `(tactic| first
  | (refine ⟨_, rfl, ?_⟩)
  | (refine ⟨_, _, rfl, rfl, ?_⟩)
  | (refine ⟨_, _, _, _, rfl, rfl, SqL.of (by walk_at "hp"), rfl, ?_⟩)
  | (refine Or.inl ⟨_, rfl, ?_⟩)
  | (refine ⟨rfl, ?_⟩)
  | (refine ⟨_, _, rfl, .inl (SqL.of (by walk_at "hp")), ?_⟩)
  | (refine ⟨_, _, rfl, Or.inl (by assumption), ?_⟩)
  | (refine ⟨_, _, rfl, Or.inr (by assumption), ?_⟩)
  | (refine ⟨(by walk_at "ok"), ?_⟩)
  | (refine ⟨_, _, _, _, rfl, rfl, (by walk_at "hp"), rfl, ?_⟩))
local macro_rules | `(tactic| walk_at "go") => `(tactic| repeat (walk_at "go1"))
local macro_rules | `(tactic| walk_at "gt") => `(tactic| repeat (first | walk_at "go1" | walk_at "ty"))

/-! ### the classes of errors -/
section
variable {P : Program} {w : World} {K : PySem.W.Frag} {mg : Str → Option Value} {base : Heap}
def erC (T : Tx K mg) : List Addr := [T.C_BadRatio, T.C_BadText, T.C_BadLine, T.C_BadTop, T.C_BadStart, T.C_BadLength, T.C_BadOrder, T.C_BadRow, T.C_OffLine, T.C_Overlap, T.C_NotFilled, T.C_OtherLine, T.C_BadRoom, T.C_BadSwap, T.C_Meet, T.C_BadWedge, T.C_BadReading, T.C_BadWindow, T.C_BadName, T.C_BadNumber, T.C_BadDeed, T.C_BadExchange, T.C_BadLimit, T.C_Double, T.C_TooMany, T.C_Unlike, T.C_OtherSteps, T.C_NothingLeft, T.C_OwesMore, T.C_NotOnLine, T.C_NoPrime, T.C_UnknownName, T.C_NotIn, T.C_NotFair, T.C_NotKept, T.C_Odd, T.C_NoRoot, T.C_Unfit, T.C_Unmade, T.C_TooLong, T.C_Level, T.C_NoEntry]
theorem er_ok (T : Tx K mg) {j : Nat} {C : Addr} {f : List String} (e : (erC T)[j]? = some C) (ef : ERF[j]? = some f) : ErOk K C ("code" :: f) := by
  obtain ⟨g, e1, h⟩ := erAll_get T.erT e
  rw [List.getElem?_map, ef] at e1
  cases e1
  exact h
theorem Tx.k_BadRatio (T : Tx K mg) : ErOk K T.C_BadRatio ["code"] := er_ok T (j := 0) rfl rfl
theorem Tx.x_BadRatio (T : Tx K mg) : OexG K T.C_BadRatio := T.k_BadRatio.ox
theorem Tx.k_BadText (T : Tx K mg) : ErOk K T.C_BadText ["code"] := er_ok T (j := 1) rfl rfl
theorem Tx.x_BadText (T : Tx K mg) : OexG K T.C_BadText := T.k_BadText.ox
theorem Tx.k_BadLine (T : Tx K mg) : ErOk K T.C_BadLine ["code", "line"] := er_ok T (j := 2) rfl rfl
theorem Tx.x_BadLine (T : Tx K mg) : OexG K T.C_BadLine := T.k_BadLine.ox
theorem Tx.k_BadTop (T : Tx K mg) : ErOk K T.C_BadTop ["code"] := er_ok T (j := 3) rfl rfl
theorem Tx.x_BadTop (T : Tx K mg) : OexG K T.C_BadTop := T.k_BadTop.ox
theorem Tx.k_BadStart (T : Tx K mg) : ErOk K T.C_BadStart ["code"] := er_ok T (j := 4) rfl rfl
theorem Tx.x_BadStart (T : Tx K mg) : OexG K T.C_BadStart := T.k_BadStart.ox
theorem Tx.k_BadLength (T : Tx K mg) : ErOk K T.C_BadLength ["code", "at"] := er_ok T (j := 5) rfl rfl
theorem Tx.x_BadLength (T : Tx K mg) : OexG K T.C_BadLength := T.k_BadLength.ox
theorem Tx.k_BadOrder (T : Tx K mg) : ErOk K T.C_BadOrder ["code"] := er_ok T (j := 6) rfl rfl
theorem Tx.x_BadOrder (T : Tx K mg) : OexG K T.C_BadOrder := T.k_BadOrder.ox
theorem Tx.k_BadRow (T : Tx K mg) : ErOk K T.C_BadRow ["code", "at"] := er_ok T (j := 7) rfl rfl
theorem Tx.x_BadRow (T : Tx K mg) : OexG K T.C_BadRow := T.k_BadRow.ox
theorem Tx.k_OffLine (T : Tx K mg) : ErOk K T.C_OffLine ["code", "at"] := er_ok T (j := 8) rfl rfl
theorem Tx.x_OffLine (T : Tx K mg) : OexG K T.C_OffLine := T.k_OffLine.ox
theorem Tx.k_Overlap (T : Tx K mg) : ErOk K T.C_Overlap ["code", "one", "other"] := er_ok T (j := 9) rfl rfl
theorem Tx.x_Overlap (T : Tx K mg) : OexG K T.C_Overlap := T.k_Overlap.ox
theorem Tx.k_NotFilled (T : Tx K mg) : ErOk K T.C_NotFilled ["code", "missing"] := er_ok T (j := 10) rfl rfl
theorem Tx.x_NotFilled (T : Tx K mg) : OexG K T.C_NotFilled := T.k_NotFilled.ox
theorem Tx.k_OtherLine (T : Tx K mg) : ErOk K T.C_OtherLine ["code"] := er_ok T (j := 11) rfl rfl
theorem Tx.x_OtherLine (T : Tx K mg) : OexG K T.C_OtherLine := T.k_OtherLine.ox
theorem Tx.k_BadRoom (T : Tx K mg) : ErOk K T.C_BadRoom ["code"] := er_ok T (j := 12) rfl rfl
theorem Tx.x_BadRoom (T : Tx K mg) : OexG K T.C_BadRoom := T.k_BadRoom.ox
theorem Tx.k_BadSwap (T : Tx K mg) : ErOk K T.C_BadSwap ["code", "at"] := er_ok T (j := 13) rfl rfl
theorem Tx.x_BadSwap (T : Tx K mg) : OexG K T.C_BadSwap := T.k_BadSwap.ox
theorem Tx.k_Meet (T : Tx K mg) : ErOk K T.C_Meet ["code"] := er_ok T (j := 14) rfl rfl
theorem Tx.x_Meet (T : Tx K mg) : OexG K T.C_Meet := T.k_Meet.ox
theorem Tx.k_BadWedge (T : Tx K mg) : ErOk K T.C_BadWedge ["code"] := er_ok T (j := 15) rfl rfl
theorem Tx.x_BadWedge (T : Tx K mg) : OexG K T.C_BadWedge := T.k_BadWedge.ox
theorem Tx.k_BadReading (T : Tx K mg) : ErOk K T.C_BadReading ["code"] := er_ok T (j := 16) rfl rfl
theorem Tx.x_BadReading (T : Tx K mg) : OexG K T.C_BadReading := T.k_BadReading.ox
theorem Tx.k_BadWindow (T : Tx K mg) : ErOk K T.C_BadWindow ["code"] := er_ok T (j := 17) rfl rfl
theorem Tx.x_BadWindow (T : Tx K mg) : OexG K T.C_BadWindow := T.k_BadWindow.ox
theorem Tx.k_BadName (T : Tx K mg) : ErOk K T.C_BadName ["code", "value"] := er_ok T (j := 18) rfl rfl
theorem Tx.x_BadName (T : Tx K mg) : OexG K T.C_BadName := T.k_BadName.ox
theorem Tx.k_BadNumber (T : Tx K mg) : ErOk K T.C_BadNumber ["code", "value"] := er_ok T (j := 19) rfl rfl
theorem Tx.x_BadNumber (T : Tx K mg) : OexG K T.C_BadNumber := T.k_BadNumber.ox
theorem Tx.k_BadDeed (T : Tx K mg) : ErOk K T.C_BadDeed ["code", "at"] := er_ok T (j := 20) rfl rfl
theorem Tx.x_BadDeed (T : Tx K mg) : OexG K T.C_BadDeed := T.k_BadDeed.ox
theorem Tx.k_BadExchange (T : Tx K mg) : ErOk K T.C_BadExchange ["code"] := er_ok T (j := 21) rfl rfl
theorem Tx.x_BadExchange (T : Tx K mg) : OexG K T.C_BadExchange := T.k_BadExchange.ox
theorem Tx.k_BadLimit (T : Tx K mg) : ErOk K T.C_BadLimit ["code", "value"] := er_ok T (j := 22) rfl rfl
theorem Tx.x_BadLimit (T : Tx K mg) : OexG K T.C_BadLimit := T.k_BadLimit.ox
theorem Tx.k_Double (T : Tx K mg) : ErOk K T.C_Double ["code", "name"] := er_ok T (j := 23) rfl rfl
theorem Tx.x_Double (T : Tx K mg) : OexG K T.C_Double := T.k_Double.ox
theorem Tx.k_TooMany (T : Tx K mg) : ErOk K T.C_TooMany ["code", "most"] := er_ok T (j := 24) rfl rfl
theorem Tx.x_TooMany (T : Tx K mg) : OexG K T.C_TooMany := T.k_TooMany.ox
theorem Tx.k_Unlike (T : Tx K mg) : ErOk K T.C_Unlike ["code", "colour"] := er_ok T (j := 25) rfl rfl
theorem Tx.x_Unlike (T : Tx K mg) : OexG K T.C_Unlike := T.k_Unlike.ox
theorem Tx.k_OtherSteps (T : Tx K mg) : ErOk K T.C_OtherSteps ["code"] := er_ok T (j := 26) rfl rfl
theorem Tx.x_OtherSteps (T : Tx K mg) : OexG K T.C_OtherSteps := T.k_OtherSteps.ox
theorem Tx.k_NothingLeft (T : Tx K mg) : ErOk K T.C_NothingLeft ["code"] := er_ok T (j := 27) rfl rfl
theorem Tx.x_NothingLeft (T : Tx K mg) : OexG K T.C_NothingLeft := T.k_NothingLeft.ox
theorem Tx.k_OwesMore (T : Tx K mg) : ErOk K T.C_OwesMore ["code", "name"] := er_ok T (j := 28) rfl rfl
theorem Tx.x_OwesMore (T : Tx K mg) : OexG K T.C_OwesMore := T.k_OwesMore.ox
theorem Tx.k_NotOnLine (T : Tx K mg) : ErOk K T.C_NotOnLine ["code", "tone"] := er_ok T (j := 29) rfl rfl
theorem Tx.x_NotOnLine (T : Tx K mg) : OexG K T.C_NotOnLine := T.k_NotOnLine.ox
theorem Tx.k_NoPrime (T : Tx K mg) : ErOk K T.C_NoPrime ["code", "value"] := er_ok T (j := 30) rfl rfl
theorem Tx.x_NoPrime (T : Tx K mg) : OexG K T.C_NoPrime := T.k_NoPrime.ox
theorem Tx.k_UnknownName (T : Tx K mg) : ErOk K T.C_UnknownName ["code", "name"] := er_ok T (j := 31) rfl rfl
theorem Tx.x_UnknownName (T : Tx K mg) : OexG K T.C_UnknownName := T.k_UnknownName.ox
theorem Tx.k_NotIn (T : Tx K mg) : ErOk K T.C_NotIn ["code"] := er_ok T (j := 32) rfl rfl
theorem Tx.x_NotIn (T : Tx K mg) : OexG K T.C_NotIn := T.k_NotIn.ox
theorem Tx.k_NotFair (T : Tx K mg) : ErOk K T.C_NotFair ["code", "first", "second"] := er_ok T (j := 33) rfl rfl
theorem Tx.x_NotFair (T : Tx K mg) : OexG K T.C_NotFair := T.k_NotFair.ox
theorem Tx.k_NotKept (T : Tx K mg) : ErOk K T.C_NotKept ["code"] := er_ok T (j := 34) rfl rfl
theorem Tx.x_NotKept (T : Tx K mg) : OexG K T.C_NotKept := T.k_NotKept.ox
theorem Tx.k_Odd (T : Tx K mg) : ErOk K T.C_Odd ["code", "prime"] := er_ok T (j := 35) rfl rfl
theorem Tx.x_Odd (T : Tx K mg) : OexG K T.C_Odd := T.k_Odd.ox
theorem Tx.k_NoRoot (T : Tx K mg) : ErOk K T.C_NoRoot ["code", "first", "second"] := er_ok T (j := 36) rfl rfl
theorem Tx.x_NoRoot (T : Tx K mg) : OexG K T.C_NoRoot := T.k_NoRoot.ox
theorem Tx.k_Unfit (T : Tx K mg) : ErOk K T.C_Unfit ["code", "counts"] := er_ok T (j := 37) rfl rfl
theorem Tx.x_Unfit (T : Tx K mg) : OexG K T.C_Unfit := T.k_Unfit.ox
theorem Tx.k_Unmade (T : Tx K mg) : ErOk K T.C_Unmade ["code", "reading"] := er_ok T (j := 38) rfl rfl
theorem Tx.x_Unmade (T : Tx K mg) : OexG K T.C_Unmade := T.k_Unmade.ox
theorem Tx.k_TooLong (T : Tx K mg) : ErOk K T.C_TooLong ["code", "most"] := er_ok T (j := 39) rfl rfl
theorem Tx.x_TooLong (T : Tx K mg) : OexG K T.C_TooLong := T.k_TooLong.ox
theorem Tx.k_Level (T : Tx K mg) : ErOk K T.C_Level ["code"] := er_ok T (j := 40) rfl rfl
theorem Tx.x_Level (T : Tx K mg) : OexG K T.C_Level := T.k_Level.ox
theorem Tx.k_NoEntry (T : Tx K mg) : ErOk K T.C_NoEntry ["code"] := er_ok T (j := 41) rfl rfl
theorem Tx.x_NoEntry (T : Tx K mg) : OexG K T.C_NoEntry := T.k_NoEntry.ox
theorem ok_BadRatio (T : Tx K mg) : FnOk P w K mg base CX0 1 T.f_BadRatio_init T.d_BadRatio_init ["self"] (spEr T.C_BadRatio "BadRatio" []) := by
  refine T.F_BadRatio_init.ok sc_BadRatio_init (fun vs H Q E h => ?_) (fun cdv A outer s H vs Q E hr h => ?_)
  · obtain ⟨a, us, rfl, hl, _⟩ := h
    exact congrArg Nat.succ hl
  obtain ⟨a, us, rfl, hl, ha, q⟩ := h
  match us, hl, q with
  | [], _, q =>
  refine ⟨_, (pss_one (ps_ostG (pv 0) pe_str)), ?_⟩
  refine ⟨_, rfl, _, T.C_BadRatio, rfl, T.x_BadRatio, T.k_BadRatio.nf "code" (by decide), .inl ⟨ha, fun dx hd hn => q dx _ hd hn (fun b h1 h2 => by rw [upd_ne h1, upd_ne h2]) upd_same (by rw [upd_ne hn]; exact upd_same)⟩⟩
theorem ok_BadText (T : Tx K mg) : FnOk P w K mg base CX0 1 T.f_BadText_init T.d_BadText_init ["self"] (spEr T.C_BadText "BadText" []) := by
  refine T.F_BadText_init.ok sc_BadText_init (fun vs H Q E h => ?_) (fun cdv A outer s H vs Q E hr h => ?_)
  · obtain ⟨a, us, rfl, hl, _⟩ := h
    exact congrArg Nat.succ hl
  obtain ⟨a, us, rfl, hl, ha, q⟩ := h
  match us, hl, q with
  | [], _, q =>
  refine ⟨_, (pss_one (ps_ostG (pv 0) pe_str)), ?_⟩
  refine ⟨_, rfl, _, T.C_BadText, rfl, T.x_BadText, T.k_BadText.nf "code" (by decide), .inl ⟨ha, fun dx hd hn => q dx _ hd hn (fun b h1 h2 => by rw [upd_ne h1, upd_ne h2]) upd_same (by rw [upd_ne hn]; exact upd_same)⟩⟩
theorem ok_BadLine (T : Tx K mg) : FnOk P w K mg base CX0 1 T.f_BadLine_init T.d_BadLine_init ["self", "line"] (spEr T.C_BadLine "BadLine" ["line"]) := by
  refine T.F_BadLine_init.ok sc_BadLine_init (fun vs H Q E h => ?_) (fun cdv A outer s H vs Q E hr h => ?_)
  · obtain ⟨a, us, rfl, hl, _⟩ := h
    exact congrArg Nat.succ hl
  obtain ⟨a, us, rfl, hl, ha, q⟩ := h
  match us, hl, q with
  | [u0], _, q =>
  refine ⟨_, (pss_cons (ps_ostG (pv 0) (pv 1))
    (pss_one (ps_ostG (pv 0) pe_str))), ?_⟩
  refine ⟨_, rfl, _, rfl, _, T.C_BadLine, rfl, T.x_BadLine, T.k_BadLine.nf "line" (by decide), .inl ⟨ha, fun dx hd hn => ?_⟩⟩
  refine ⟨_, rfl, _, T.C_BadLine, rfl, T.x_BadLine, T.k_BadLine.nf "code" (by decide), .inr ⟨dx, _, upd_same, by rw [upd_ne hn]; exact upd_same, by simp, ?_⟩⟩
  exact q dx _ hd hn (fun b h1 h2 => by rw [upd_ne h2, upd_ne h1, upd_ne h2]) (by rw [upd_ne hn.symm]; exact upd_same) upd_same
theorem ok_BadTop (T : Tx K mg) : FnOk P w K mg base CX0 1 T.f_BadTop_init T.d_BadTop_init ["self"] (spEr T.C_BadTop "BadTop" []) := by
  refine T.F_BadTop_init.ok sc_BadTop_init (fun vs H Q E h => ?_) (fun cdv A outer s H vs Q E hr h => ?_)
  · obtain ⟨a, us, rfl, hl, _⟩ := h
    exact congrArg Nat.succ hl
  obtain ⟨a, us, rfl, hl, ha, q⟩ := h
  match us, hl, q with
  | [], _, q =>
  refine ⟨_, (pss_one (ps_ostG (pv 0) pe_str)), ?_⟩
  refine ⟨_, rfl, _, T.C_BadTop, rfl, T.x_BadTop, T.k_BadTop.nf "code" (by decide), .inl ⟨ha, fun dx hd hn => q dx _ hd hn (fun b h1 h2 => by rw [upd_ne h1, upd_ne h2]) upd_same (by rw [upd_ne hn]; exact upd_same)⟩⟩
theorem ok_BadStart (T : Tx K mg) : FnOk P w K mg base CX0 1 T.f_BadStart_init T.d_BadStart_init ["self"] (spEr T.C_BadStart "BadStart" []) := by
  refine T.F_BadStart_init.ok sc_BadStart_init (fun vs H Q E h => ?_) (fun cdv A outer s H vs Q E hr h => ?_)
  · obtain ⟨a, us, rfl, hl, _⟩ := h
    exact congrArg Nat.succ hl
  obtain ⟨a, us, rfl, hl, ha, q⟩ := h
  match us, hl, q with
  | [], _, q =>
  refine ⟨_, (pss_one (ps_ostG (pv 0) pe_str)), ?_⟩
  refine ⟨_, rfl, _, T.C_BadStart, rfl, T.x_BadStart, T.k_BadStart.nf "code" (by decide), .inl ⟨ha, fun dx hd hn => q dx _ hd hn (fun b h1 h2 => by rw [upd_ne h1, upd_ne h2]) upd_same (by rw [upd_ne hn]; exact upd_same)⟩⟩
theorem ok_BadLength (T : Tx K mg) : FnOk P w K mg base CX0 1 T.f_BadLength_init T.d_BadLength_init ["self", "at"] (spEr T.C_BadLength "BadLength" ["at"]) := by
  refine T.F_BadLength_init.ok sc_BadLength_init (fun vs H Q E h => ?_) (fun cdv A outer s H vs Q E hr h => ?_)
  · obtain ⟨a, us, rfl, hl, _⟩ := h
    exact congrArg Nat.succ hl
  obtain ⟨a, us, rfl, hl, ha, q⟩ := h
  match us, hl, q with
  | [u0], _, q =>
  refine ⟨_, (pss_cons (ps_ostG (pv 0) (pv 1))
    (pss_one (ps_ostG (pv 0) pe_str))), ?_⟩
  refine ⟨_, rfl, _, rfl, _, T.C_BadLength, rfl, T.x_BadLength, T.k_BadLength.nf "at" (by decide), .inl ⟨ha, fun dx hd hn => ?_⟩⟩
  refine ⟨_, rfl, _, T.C_BadLength, rfl, T.x_BadLength, T.k_BadLength.nf "code" (by decide), .inr ⟨dx, _, upd_same, by rw [upd_ne hn]; exact upd_same, by simp, ?_⟩⟩
  exact q dx _ hd hn (fun b h1 h2 => by rw [upd_ne h2, upd_ne h1, upd_ne h2]) (by rw [upd_ne hn.symm]; exact upd_same) upd_same
theorem ok_BadOrder (T : Tx K mg) : FnOk P w K mg base CX0 1 T.f_BadOrder_init T.d_BadOrder_init ["self"] (spEr T.C_BadOrder "BadOrder" []) := by
  refine T.F_BadOrder_init.ok sc_BadOrder_init (fun vs H Q E h => ?_) (fun cdv A outer s H vs Q E hr h => ?_)
  · obtain ⟨a, us, rfl, hl, _⟩ := h
    exact congrArg Nat.succ hl
  obtain ⟨a, us, rfl, hl, ha, q⟩ := h
  match us, hl, q with
  | [], _, q =>
  refine ⟨_, (pss_one (ps_ostG (pv 0) pe_str)), ?_⟩
  refine ⟨_, rfl, _, T.C_BadOrder, rfl, T.x_BadOrder, T.k_BadOrder.nf "code" (by decide), .inl ⟨ha, fun dx hd hn => q dx _ hd hn (fun b h1 h2 => by rw [upd_ne h1, upd_ne h2]) upd_same (by rw [upd_ne hn]; exact upd_same)⟩⟩
theorem ok_BadRow (T : Tx K mg) : FnOk P w K mg base CX0 1 T.f_BadRow_init T.d_BadRow_init ["self", "at"] (spEr T.C_BadRow "BadRow" ["at"]) := by
  refine T.F_BadRow_init.ok sc_BadRow_init (fun vs H Q E h => ?_) (fun cdv A outer s H vs Q E hr h => ?_)
  · obtain ⟨a, us, rfl, hl, _⟩ := h
    exact congrArg Nat.succ hl
  obtain ⟨a, us, rfl, hl, ha, q⟩ := h
  match us, hl, q with
  | [u0], _, q =>
  refine ⟨_, (pss_cons (ps_ostG (pv 0) (pv 1))
    (pss_one (ps_ostG (pv 0) pe_str))), ?_⟩
  refine ⟨_, rfl, _, rfl, _, T.C_BadRow, rfl, T.x_BadRow, T.k_BadRow.nf "at" (by decide), .inl ⟨ha, fun dx hd hn => ?_⟩⟩
  refine ⟨_, rfl, _, T.C_BadRow, rfl, T.x_BadRow, T.k_BadRow.nf "code" (by decide), .inr ⟨dx, _, upd_same, by rw [upd_ne hn]; exact upd_same, by simp, ?_⟩⟩
  exact q dx _ hd hn (fun b h1 h2 => by rw [upd_ne h2, upd_ne h1, upd_ne h2]) (by rw [upd_ne hn.symm]; exact upd_same) upd_same
theorem ok_OffLine (T : Tx K mg) : FnOk P w K mg base CX0 1 T.f_OffLine_init T.d_OffLine_init ["self", "at"] (spEr T.C_OffLine "OffLine" ["at"]) := by
  refine T.F_OffLine_init.ok sc_OffLine_init (fun vs H Q E h => ?_) (fun cdv A outer s H vs Q E hr h => ?_)
  · obtain ⟨a, us, rfl, hl, _⟩ := h
    exact congrArg Nat.succ hl
  obtain ⟨a, us, rfl, hl, ha, q⟩ := h
  match us, hl, q with
  | [u0], _, q =>
  refine ⟨_, (pss_cons (ps_ostG (pv 0) (pv 1))
    (pss_one (ps_ostG (pv 0) pe_str))), ?_⟩
  refine ⟨_, rfl, _, rfl, _, T.C_OffLine, rfl, T.x_OffLine, T.k_OffLine.nf "at" (by decide), .inl ⟨ha, fun dx hd hn => ?_⟩⟩
  refine ⟨_, rfl, _, T.C_OffLine, rfl, T.x_OffLine, T.k_OffLine.nf "code" (by decide), .inr ⟨dx, _, upd_same, by rw [upd_ne hn]; exact upd_same, by simp, ?_⟩⟩
  exact q dx _ hd hn (fun b h1 h2 => by rw [upd_ne h2, upd_ne h1, upd_ne h2]) (by rw [upd_ne hn.symm]; exact upd_same) upd_same
theorem ok_Overlap (T : Tx K mg) : FnOk P w K mg base CX0 1 T.f_Overlap_init T.d_Overlap_init ["self", "one", "other"] (spEr T.C_Overlap "Overlap" ["one", "other"]) := by
  refine T.F_Overlap_init.ok sc_Overlap_init (fun vs H Q E h => ?_) (fun cdv A outer s H vs Q E hr h => ?_)
  · obtain ⟨a, us, rfl, hl, _⟩ := h
    exact congrArg Nat.succ hl
  obtain ⟨a, us, rfl, hl, ha, q⟩ := h
  match us, hl, q with
  | [u0, u1], _, q =>
  refine ⟨_, (pss_cons (ps_ostG (pv 0) (pv 1))
    (pss_cons (ps_ostG (pv 0) (pv 2))
    (pss_one (ps_ostG (pv 0) pe_str)))), ?_⟩
  refine ⟨_, rfl, _, rfl, _, T.C_Overlap, rfl, T.x_Overlap, T.k_Overlap.nf "one" (by decide), .inl ⟨ha, fun dx hd hn => ?_⟩⟩
  refine ⟨_, rfl, _, rfl, _, T.C_Overlap, rfl, T.x_Overlap, T.k_Overlap.nf "other" (by decide), .inr ⟨dx, _, upd_same, by rw [upd_ne hn]; exact upd_same, by simp, ?_⟩⟩
  refine ⟨_, rfl, _, T.C_Overlap, rfl, T.x_Overlap, T.k_Overlap.nf "code" (by decide), .inr ⟨dx, _, by rw [upd_ne hn.symm]; exact upd_same, upd_same, by simp, ?_⟩⟩
  exact q dx _ hd hn (fun b h1 h2 => by rw [upd_ne h2, upd_ne h2, upd_ne h1, upd_ne h2]) (by rw [upd_ne hn.symm, upd_ne hn.symm]; exact upd_same) upd_same
theorem ok_NotFilled (T : Tx K mg) : FnOk P w K mg base CX0 1 T.f_NotFilled_init T.d_NotFilled_init ["self", "missing"] (spEr T.C_NotFilled "NotFilled" ["missing"]) := by
  refine T.F_NotFilled_init.ok sc_NotFilled_init (fun vs H Q E h => ?_) (fun cdv A outer s H vs Q E hr h => ?_)
  · obtain ⟨a, us, rfl, hl, _⟩ := h
    exact congrArg Nat.succ hl
  obtain ⟨a, us, rfl, hl, ha, q⟩ := h
  match us, hl, q with
  | [u0], _, q =>
  refine ⟨_, (pss_cons (ps_ostG (pv 0) (pv 1))
    (pss_one (ps_ostG (pv 0) pe_str))), ?_⟩
  refine ⟨_, rfl, _, rfl, _, T.C_NotFilled, rfl, T.x_NotFilled, T.k_NotFilled.nf "missing" (by decide), .inl ⟨ha, fun dx hd hn => ?_⟩⟩
  refine ⟨_, rfl, _, T.C_NotFilled, rfl, T.x_NotFilled, T.k_NotFilled.nf "code" (by decide), .inr ⟨dx, _, upd_same, by rw [upd_ne hn]; exact upd_same, by simp, ?_⟩⟩
  exact q dx _ hd hn (fun b h1 h2 => by rw [upd_ne h2, upd_ne h1, upd_ne h2]) (by rw [upd_ne hn.symm]; exact upd_same) upd_same
theorem ok_OtherLine (T : Tx K mg) : FnOk P w K mg base CX0 1 T.f_OtherLine_init T.d_OtherLine_init ["self"] (spEr T.C_OtherLine "OtherLine" []) := by
  refine T.F_OtherLine_init.ok sc_OtherLine_init (fun vs H Q E h => ?_) (fun cdv A outer s H vs Q E hr h => ?_)
  · obtain ⟨a, us, rfl, hl, _⟩ := h
    exact congrArg Nat.succ hl
  obtain ⟨a, us, rfl, hl, ha, q⟩ := h
  match us, hl, q with
  | [], _, q =>
  refine ⟨_, (pss_one (ps_ostG (pv 0) pe_str)), ?_⟩
  refine ⟨_, rfl, _, T.C_OtherLine, rfl, T.x_OtherLine, T.k_OtherLine.nf "code" (by decide), .inl ⟨ha, fun dx hd hn => q dx _ hd hn (fun b h1 h2 => by rw [upd_ne h1, upd_ne h2]) upd_same (by rw [upd_ne hn]; exact upd_same)⟩⟩
theorem ok_BadRoom (T : Tx K mg) : FnOk P w K mg base CX0 1 T.f_BadRoom_init T.d_BadRoom_init ["self"] (spEr T.C_BadRoom "BadRoom" []) := by
  refine T.F_BadRoom_init.ok sc_BadRoom_init (fun vs H Q E h => ?_) (fun cdv A outer s H vs Q E hr h => ?_)
  · obtain ⟨a, us, rfl, hl, _⟩ := h
    exact congrArg Nat.succ hl
  obtain ⟨a, us, rfl, hl, ha, q⟩ := h
  match us, hl, q with
  | [], _, q =>
  refine ⟨_, (pss_one (ps_ostG (pv 0) pe_str)), ?_⟩
  refine ⟨_, rfl, _, T.C_BadRoom, rfl, T.x_BadRoom, T.k_BadRoom.nf "code" (by decide), .inl ⟨ha, fun dx hd hn => q dx _ hd hn (fun b h1 h2 => by rw [upd_ne h1, upd_ne h2]) upd_same (by rw [upd_ne hn]; exact upd_same)⟩⟩
theorem ok_BadSwap (T : Tx K mg) : FnOk P w K mg base CX0 1 T.f_BadSwap_init T.d_BadSwap_init ["self", "at"] (spEr T.C_BadSwap "BadSwap" ["at"]) := by
  refine T.F_BadSwap_init.ok sc_BadSwap_init (fun vs H Q E h => ?_) (fun cdv A outer s H vs Q E hr h => ?_)
  · obtain ⟨a, us, rfl, hl, _⟩ := h
    exact congrArg Nat.succ hl
  obtain ⟨a, us, rfl, hl, ha, q⟩ := h
  match us, hl, q with
  | [u0], _, q =>
  refine ⟨_, (pss_cons (ps_ostG (pv 0) (pv 1))
    (pss_one (ps_ostG (pv 0) pe_str))), ?_⟩
  refine ⟨_, rfl, _, rfl, _, T.C_BadSwap, rfl, T.x_BadSwap, T.k_BadSwap.nf "at" (by decide), .inl ⟨ha, fun dx hd hn => ?_⟩⟩
  refine ⟨_, rfl, _, T.C_BadSwap, rfl, T.x_BadSwap, T.k_BadSwap.nf "code" (by decide), .inr ⟨dx, _, upd_same, by rw [upd_ne hn]; exact upd_same, by simp, ?_⟩⟩
  exact q dx _ hd hn (fun b h1 h2 => by rw [upd_ne h2, upd_ne h1, upd_ne h2]) (by rw [upd_ne hn.symm]; exact upd_same) upd_same
theorem ok_Meet (T : Tx K mg) : FnOk P w K mg base CX0 1 T.f_Meet_init T.d_Meet_init ["self"] (spEr T.C_Meet "Meet" []) := by
  refine T.F_Meet_init.ok sc_Meet_init (fun vs H Q E h => ?_) (fun cdv A outer s H vs Q E hr h => ?_)
  · obtain ⟨a, us, rfl, hl, _⟩ := h
    exact congrArg Nat.succ hl
  obtain ⟨a, us, rfl, hl, ha, q⟩ := h
  match us, hl, q with
  | [], _, q =>
  refine ⟨_, (pss_one (ps_ostG (pv 0) pe_str)), ?_⟩
  refine ⟨_, rfl, _, T.C_Meet, rfl, T.x_Meet, T.k_Meet.nf "code" (by decide), .inl ⟨ha, fun dx hd hn => q dx _ hd hn (fun b h1 h2 => by rw [upd_ne h1, upd_ne h2]) upd_same (by rw [upd_ne hn]; exact upd_same)⟩⟩
theorem ok_BadWedge (T : Tx K mg) : FnOk P w K mg base CX0 1 T.f_BadWedge_init T.d_BadWedge_init ["self"] (spEr T.C_BadWedge "BadWedge" []) := by
  refine T.F_BadWedge_init.ok sc_BadWedge_init (fun vs H Q E h => ?_) (fun cdv A outer s H vs Q E hr h => ?_)
  · obtain ⟨a, us, rfl, hl, _⟩ := h
    exact congrArg Nat.succ hl
  obtain ⟨a, us, rfl, hl, ha, q⟩ := h
  match us, hl, q with
  | [], _, q =>
  refine ⟨_, (pss_one (ps_ostG (pv 0) pe_str)), ?_⟩
  refine ⟨_, rfl, _, T.C_BadWedge, rfl, T.x_BadWedge, T.k_BadWedge.nf "code" (by decide), .inl ⟨ha, fun dx hd hn => q dx _ hd hn (fun b h1 h2 => by rw [upd_ne h1, upd_ne h2]) upd_same (by rw [upd_ne hn]; exact upd_same)⟩⟩
theorem ok_BadReading (T : Tx K mg) : FnOk P w K mg base CX0 1 T.f_BadReading_init T.d_BadReading_init ["self"] (spEr T.C_BadReading "BadReading" []) := by
  refine T.F_BadReading_init.ok sc_BadReading_init (fun vs H Q E h => ?_) (fun cdv A outer s H vs Q E hr h => ?_)
  · obtain ⟨a, us, rfl, hl, _⟩ := h
    exact congrArg Nat.succ hl
  obtain ⟨a, us, rfl, hl, ha, q⟩ := h
  match us, hl, q with
  | [], _, q =>
  refine ⟨_, (pss_one (ps_ostG (pv 0) pe_str)), ?_⟩
  refine ⟨_, rfl, _, T.C_BadReading, rfl, T.x_BadReading, T.k_BadReading.nf "code" (by decide), .inl ⟨ha, fun dx hd hn => q dx _ hd hn (fun b h1 h2 => by rw [upd_ne h1, upd_ne h2]) upd_same (by rw [upd_ne hn]; exact upd_same)⟩⟩
theorem ok_BadWindow (T : Tx K mg) : FnOk P w K mg base CX0 1 T.f_BadWindow_init T.d_BadWindow_init ["self"] (spEr T.C_BadWindow "BadWindow" []) := by
  refine T.F_BadWindow_init.ok sc_BadWindow_init (fun vs H Q E h => ?_) (fun cdv A outer s H vs Q E hr h => ?_)
  · obtain ⟨a, us, rfl, hl, _⟩ := h
    exact congrArg Nat.succ hl
  obtain ⟨a, us, rfl, hl, ha, q⟩ := h
  match us, hl, q with
  | [], _, q =>
  refine ⟨_, (pss_one (ps_ostG (pv 0) pe_str)), ?_⟩
  refine ⟨_, rfl, _, T.C_BadWindow, rfl, T.x_BadWindow, T.k_BadWindow.nf "code" (by decide), .inl ⟨ha, fun dx hd hn => q dx _ hd hn (fun b h1 h2 => by rw [upd_ne h1, upd_ne h2]) upd_same (by rw [upd_ne hn]; exact upd_same)⟩⟩
theorem ok_BadName (T : Tx K mg) : FnOk P w K mg base CX0 1 T.f_BadName_init T.d_BadName_init ["self", "value"] (spEr T.C_BadName "BadName" ["value"]) := by
  refine T.F_BadName_init.ok sc_BadName_init (fun vs H Q E h => ?_) (fun cdv A outer s H vs Q E hr h => ?_)
  · obtain ⟨a, us, rfl, hl, _⟩ := h
    exact congrArg Nat.succ hl
  obtain ⟨a, us, rfl, hl, ha, q⟩ := h
  match us, hl, q with
  | [u0], _, q =>
  refine ⟨_, (pss_cons (ps_ostG (pv 0) (pv 1))
    (pss_one (ps_ostG (pv 0) pe_str))), ?_⟩
  refine ⟨_, rfl, _, rfl, _, T.C_BadName, rfl, T.x_BadName, T.k_BadName.nf "value" (by decide), .inl ⟨ha, fun dx hd hn => ?_⟩⟩
  refine ⟨_, rfl, _, T.C_BadName, rfl, T.x_BadName, T.k_BadName.nf "code" (by decide), .inr ⟨dx, _, upd_same, by rw [upd_ne hn]; exact upd_same, by simp, ?_⟩⟩
  exact q dx _ hd hn (fun b h1 h2 => by rw [upd_ne h2, upd_ne h1, upd_ne h2]) (by rw [upd_ne hn.symm]; exact upd_same) upd_same
theorem ok_BadNumber (T : Tx K mg) : FnOk P w K mg base CX0 1 T.f_BadNumber_init T.d_BadNumber_init ["self", "value"] (spEr T.C_BadNumber "BadNumber" ["value"]) := by
  refine T.F_BadNumber_init.ok sc_BadNumber_init (fun vs H Q E h => ?_) (fun cdv A outer s H vs Q E hr h => ?_)
  · obtain ⟨a, us, rfl, hl, _⟩ := h
    exact congrArg Nat.succ hl
  obtain ⟨a, us, rfl, hl, ha, q⟩ := h
  match us, hl, q with
  | [u0], _, q =>
  refine ⟨_, (pss_cons (ps_ostG (pv 0) (pv 1))
    (pss_one (ps_ostG (pv 0) pe_str))), ?_⟩
  refine ⟨_, rfl, _, rfl, _, T.C_BadNumber, rfl, T.x_BadNumber, T.k_BadNumber.nf "value" (by decide), .inl ⟨ha, fun dx hd hn => ?_⟩⟩
  refine ⟨_, rfl, _, T.C_BadNumber, rfl, T.x_BadNumber, T.k_BadNumber.nf "code" (by decide), .inr ⟨dx, _, upd_same, by rw [upd_ne hn]; exact upd_same, by simp, ?_⟩⟩
  exact q dx _ hd hn (fun b h1 h2 => by rw [upd_ne h2, upd_ne h1, upd_ne h2]) (by rw [upd_ne hn.symm]; exact upd_same) upd_same
theorem ok_BadDeed (T : Tx K mg) : FnOk P w K mg base CX0 1 T.f_BadDeed_init T.d_BadDeed_init ["self", "at"] (spEr T.C_BadDeed "BadDeed" ["at"]) := by
  refine T.F_BadDeed_init.ok sc_BadDeed_init (fun vs H Q E h => ?_) (fun cdv A outer s H vs Q E hr h => ?_)
  · obtain ⟨a, us, rfl, hl, _⟩ := h
    exact congrArg Nat.succ hl
  obtain ⟨a, us, rfl, hl, ha, q⟩ := h
  match us, hl, q with
  | [u0], _, q =>
  refine ⟨_, (pss_cons (ps_ostG (pv 0) (pv 1))
    (pss_one (ps_ostG (pv 0) pe_str))), ?_⟩
  refine ⟨_, rfl, _, rfl, _, T.C_BadDeed, rfl, T.x_BadDeed, T.k_BadDeed.nf "at" (by decide), .inl ⟨ha, fun dx hd hn => ?_⟩⟩
  refine ⟨_, rfl, _, T.C_BadDeed, rfl, T.x_BadDeed, T.k_BadDeed.nf "code" (by decide), .inr ⟨dx, _, upd_same, by rw [upd_ne hn]; exact upd_same, by simp, ?_⟩⟩
  exact q dx _ hd hn (fun b h1 h2 => by rw [upd_ne h2, upd_ne h1, upd_ne h2]) (by rw [upd_ne hn.symm]; exact upd_same) upd_same
theorem ok_BadExchange (T : Tx K mg) : FnOk P w K mg base CX0 1 T.f_BadExchange_init T.d_BadExchange_init ["self"] (spEr T.C_BadExchange "BadExchange" []) := by
  refine T.F_BadExchange_init.ok sc_BadExchange_init (fun vs H Q E h => ?_) (fun cdv A outer s H vs Q E hr h => ?_)
  · obtain ⟨a, us, rfl, hl, _⟩ := h
    exact congrArg Nat.succ hl
  obtain ⟨a, us, rfl, hl, ha, q⟩ := h
  match us, hl, q with
  | [], _, q =>
  refine ⟨_, (pss_one (ps_ostG (pv 0) pe_str)), ?_⟩
  refine ⟨_, rfl, _, T.C_BadExchange, rfl, T.x_BadExchange, T.k_BadExchange.nf "code" (by decide), .inl ⟨ha, fun dx hd hn => q dx _ hd hn (fun b h1 h2 => by rw [upd_ne h1, upd_ne h2]) upd_same (by rw [upd_ne hn]; exact upd_same)⟩⟩
theorem ok_BadLimit (T : Tx K mg) : FnOk P w K mg base CX0 1 T.f_BadLimit_init T.d_BadLimit_init ["self", "value"] (spEr T.C_BadLimit "BadLimit" ["value"]) := by
  refine T.F_BadLimit_init.ok sc_BadLimit_init (fun vs H Q E h => ?_) (fun cdv A outer s H vs Q E hr h => ?_)
  · obtain ⟨a, us, rfl, hl, _⟩ := h
    exact congrArg Nat.succ hl
  obtain ⟨a, us, rfl, hl, ha, q⟩ := h
  match us, hl, q with
  | [u0], _, q =>
  refine ⟨_, (pss_cons (ps_ostG (pv 0) (pv 1))
    (pss_one (ps_ostG (pv 0) pe_str))), ?_⟩
  refine ⟨_, rfl, _, rfl, _, T.C_BadLimit, rfl, T.x_BadLimit, T.k_BadLimit.nf "value" (by decide), .inl ⟨ha, fun dx hd hn => ?_⟩⟩
  refine ⟨_, rfl, _, T.C_BadLimit, rfl, T.x_BadLimit, T.k_BadLimit.nf "code" (by decide), .inr ⟨dx, _, upd_same, by rw [upd_ne hn]; exact upd_same, by simp, ?_⟩⟩
  exact q dx _ hd hn (fun b h1 h2 => by rw [upd_ne h2, upd_ne h1, upd_ne h2]) (by rw [upd_ne hn.symm]; exact upd_same) upd_same
theorem ok_Double (T : Tx K mg) : FnOk P w K mg base CX0 1 T.f_Double_init T.d_Double_init ["self", "name"] (spEr T.C_Double "Double" ["name"]) := by
  refine T.F_Double_init.ok sc_Double_init (fun vs H Q E h => ?_) (fun cdv A outer s H vs Q E hr h => ?_)
  · obtain ⟨a, us, rfl, hl, _⟩ := h
    exact congrArg Nat.succ hl
  obtain ⟨a, us, rfl, hl, ha, q⟩ := h
  match us, hl, q with
  | [u0], _, q =>
  refine ⟨_, (pss_cons (ps_ostG (pv 0) (pv 1))
    (pss_one (ps_ostG (pv 0) pe_str))), ?_⟩
  refine ⟨_, rfl, _, rfl, _, T.C_Double, rfl, T.x_Double, T.k_Double.nf "name" (by decide), .inl ⟨ha, fun dx hd hn => ?_⟩⟩
  refine ⟨_, rfl, _, T.C_Double, rfl, T.x_Double, T.k_Double.nf "code" (by decide), .inr ⟨dx, _, upd_same, by rw [upd_ne hn]; exact upd_same, by simp, ?_⟩⟩
  exact q dx _ hd hn (fun b h1 h2 => by rw [upd_ne h2, upd_ne h1, upd_ne h2]) (by rw [upd_ne hn.symm]; exact upd_same) upd_same
theorem ok_TooMany (T : Tx K mg) : FnOk P w K mg base CX0 1 T.f_TooMany_init T.d_TooMany_init ["self", "most"] (spEr T.C_TooMany "TooMany" ["most"]) := by
  refine T.F_TooMany_init.ok sc_TooMany_init (fun vs H Q E h => ?_) (fun cdv A outer s H vs Q E hr h => ?_)
  · obtain ⟨a, us, rfl, hl, _⟩ := h
    exact congrArg Nat.succ hl
  obtain ⟨a, us, rfl, hl, ha, q⟩ := h
  match us, hl, q with
  | [u0], _, q =>
  refine ⟨_, (pss_cons (ps_ostG (pv 0) (pv 1))
    (pss_one (ps_ostG (pv 0) pe_str))), ?_⟩
  refine ⟨_, rfl, _, rfl, _, T.C_TooMany, rfl, T.x_TooMany, T.k_TooMany.nf "most" (by decide), .inl ⟨ha, fun dx hd hn => ?_⟩⟩
  refine ⟨_, rfl, _, T.C_TooMany, rfl, T.x_TooMany, T.k_TooMany.nf "code" (by decide), .inr ⟨dx, _, upd_same, by rw [upd_ne hn]; exact upd_same, by simp, ?_⟩⟩
  exact q dx _ hd hn (fun b h1 h2 => by rw [upd_ne h2, upd_ne h1, upd_ne h2]) (by rw [upd_ne hn.symm]; exact upd_same) upd_same
theorem ok_Unlike (T : Tx K mg) : FnOk P w K mg base CX0 1 T.f_Unlike_init T.d_Unlike_init ["self", "colour"] (spEr T.C_Unlike "Unlike" ["colour"]) := by
  refine T.F_Unlike_init.ok sc_Unlike_init (fun vs H Q E h => ?_) (fun cdv A outer s H vs Q E hr h => ?_)
  · obtain ⟨a, us, rfl, hl, _⟩ := h
    exact congrArg Nat.succ hl
  obtain ⟨a, us, rfl, hl, ha, q⟩ := h
  match us, hl, q with
  | [u0], _, q =>
  refine ⟨_, (pss_cons (ps_ostG (pv 0) (pv 1))
    (pss_one (ps_ostG (pv 0) pe_str))), ?_⟩
  refine ⟨_, rfl, _, rfl, _, T.C_Unlike, rfl, T.x_Unlike, T.k_Unlike.nf "colour" (by decide), .inl ⟨ha, fun dx hd hn => ?_⟩⟩
  refine ⟨_, rfl, _, T.C_Unlike, rfl, T.x_Unlike, T.k_Unlike.nf "code" (by decide), .inr ⟨dx, _, upd_same, by rw [upd_ne hn]; exact upd_same, by simp, ?_⟩⟩
  exact q dx _ hd hn (fun b h1 h2 => by rw [upd_ne h2, upd_ne h1, upd_ne h2]) (by rw [upd_ne hn.symm]; exact upd_same) upd_same
theorem ok_OtherSteps (T : Tx K mg) : FnOk P w K mg base CX0 1 T.f_OtherSteps_init T.d_OtherSteps_init ["self"] (spEr T.C_OtherSteps "OtherSteps" []) := by
  refine T.F_OtherSteps_init.ok sc_OtherSteps_init (fun vs H Q E h => ?_) (fun cdv A outer s H vs Q E hr h => ?_)
  · obtain ⟨a, us, rfl, hl, _⟩ := h
    exact congrArg Nat.succ hl
  obtain ⟨a, us, rfl, hl, ha, q⟩ := h
  match us, hl, q with
  | [], _, q =>
  refine ⟨_, (pss_one (ps_ostG (pv 0) pe_str)), ?_⟩
  refine ⟨_, rfl, _, T.C_OtherSteps, rfl, T.x_OtherSteps, T.k_OtherSteps.nf "code" (by decide), .inl ⟨ha, fun dx hd hn => q dx _ hd hn (fun b h1 h2 => by rw [upd_ne h1, upd_ne h2]) upd_same (by rw [upd_ne hn]; exact upd_same)⟩⟩
theorem ok_NothingLeft (T : Tx K mg) : FnOk P w K mg base CX0 1 T.f_NothingLeft_init T.d_NothingLeft_init ["self"] (spEr T.C_NothingLeft "NothingLeft" []) := by
  refine T.F_NothingLeft_init.ok sc_NothingLeft_init (fun vs H Q E h => ?_) (fun cdv A outer s H vs Q E hr h => ?_)
  · obtain ⟨a, us, rfl, hl, _⟩ := h
    exact congrArg Nat.succ hl
  obtain ⟨a, us, rfl, hl, ha, q⟩ := h
  match us, hl, q with
  | [], _, q =>
  refine ⟨_, (pss_one (ps_ostG (pv 0) pe_str)), ?_⟩
  refine ⟨_, rfl, _, T.C_NothingLeft, rfl, T.x_NothingLeft, T.k_NothingLeft.nf "code" (by decide), .inl ⟨ha, fun dx hd hn => q dx _ hd hn (fun b h1 h2 => by rw [upd_ne h1, upd_ne h2]) upd_same (by rw [upd_ne hn]; exact upd_same)⟩⟩
theorem ok_OwesMore (T : Tx K mg) : FnOk P w K mg base CX0 1 T.f_OwesMore_init T.d_OwesMore_init ["self", "name"] (spEr T.C_OwesMore "OwesMore" ["name"]) := by
  refine T.F_OwesMore_init.ok sc_OwesMore_init (fun vs H Q E h => ?_) (fun cdv A outer s H vs Q E hr h => ?_)
  · obtain ⟨a, us, rfl, hl, _⟩ := h
    exact congrArg Nat.succ hl
  obtain ⟨a, us, rfl, hl, ha, q⟩ := h
  match us, hl, q with
  | [u0], _, q =>
  refine ⟨_, (pss_cons (ps_ostG (pv 0) (pv 1))
    (pss_one (ps_ostG (pv 0) pe_str))), ?_⟩
  refine ⟨_, rfl, _, rfl, _, T.C_OwesMore, rfl, T.x_OwesMore, T.k_OwesMore.nf "name" (by decide), .inl ⟨ha, fun dx hd hn => ?_⟩⟩
  refine ⟨_, rfl, _, T.C_OwesMore, rfl, T.x_OwesMore, T.k_OwesMore.nf "code" (by decide), .inr ⟨dx, _, upd_same, by rw [upd_ne hn]; exact upd_same, by simp, ?_⟩⟩
  exact q dx _ hd hn (fun b h1 h2 => by rw [upd_ne h2, upd_ne h1, upd_ne h2]) (by rw [upd_ne hn.symm]; exact upd_same) upd_same
theorem ok_NotOnLine (T : Tx K mg) : FnOk P w K mg base CX0 1 T.f_NotOnLine_init T.d_NotOnLine_init ["self", "tone"] (spEr T.C_NotOnLine "NotOnLine" ["tone"]) := by
  refine T.F_NotOnLine_init.ok sc_NotOnLine_init (fun vs H Q E h => ?_) (fun cdv A outer s H vs Q E hr h => ?_)
  · obtain ⟨a, us, rfl, hl, _⟩ := h
    exact congrArg Nat.succ hl
  obtain ⟨a, us, rfl, hl, ha, q⟩ := h
  match us, hl, q with
  | [u0], _, q =>
  refine ⟨_, (pss_cons (ps_ostG (pv 0) (pv 1))
    (pss_one (ps_ostG (pv 0) pe_str))), ?_⟩
  refine ⟨_, rfl, _, rfl, _, T.C_NotOnLine, rfl, T.x_NotOnLine, T.k_NotOnLine.nf "tone" (by decide), .inl ⟨ha, fun dx hd hn => ?_⟩⟩
  refine ⟨_, rfl, _, T.C_NotOnLine, rfl, T.x_NotOnLine, T.k_NotOnLine.nf "code" (by decide), .inr ⟨dx, _, upd_same, by rw [upd_ne hn]; exact upd_same, by simp, ?_⟩⟩
  exact q dx _ hd hn (fun b h1 h2 => by rw [upd_ne h2, upd_ne h1, upd_ne h2]) (by rw [upd_ne hn.symm]; exact upd_same) upd_same
theorem ok_NoPrime (T : Tx K mg) : FnOk P w K mg base CX0 1 T.f_NoPrime_init T.d_NoPrime_init ["self", "value"] (spEr T.C_NoPrime "NoPrime" ["value"]) := by
  refine T.F_NoPrime_init.ok sc_NoPrime_init (fun vs H Q E h => ?_) (fun cdv A outer s H vs Q E hr h => ?_)
  · obtain ⟨a, us, rfl, hl, _⟩ := h
    exact congrArg Nat.succ hl
  obtain ⟨a, us, rfl, hl, ha, q⟩ := h
  match us, hl, q with
  | [u0], _, q =>
  refine ⟨_, (pss_cons (ps_ostG (pv 0) (pv 1))
    (pss_one (ps_ostG (pv 0) pe_str))), ?_⟩
  refine ⟨_, rfl, _, rfl, _, T.C_NoPrime, rfl, T.x_NoPrime, T.k_NoPrime.nf "value" (by decide), .inl ⟨ha, fun dx hd hn => ?_⟩⟩
  refine ⟨_, rfl, _, T.C_NoPrime, rfl, T.x_NoPrime, T.k_NoPrime.nf "code" (by decide), .inr ⟨dx, _, upd_same, by rw [upd_ne hn]; exact upd_same, by simp, ?_⟩⟩
  exact q dx _ hd hn (fun b h1 h2 => by rw [upd_ne h2, upd_ne h1, upd_ne h2]) (by rw [upd_ne hn.symm]; exact upd_same) upd_same
theorem ok_UnknownName (T : Tx K mg) : FnOk P w K mg base CX0 1 T.f_UnknownName_init T.d_UnknownName_init ["self", "name"] (spEr T.C_UnknownName "UnknownName" ["name"]) := by
  refine T.F_UnknownName_init.ok sc_UnknownName_init (fun vs H Q E h => ?_) (fun cdv A outer s H vs Q E hr h => ?_)
  · obtain ⟨a, us, rfl, hl, _⟩ := h
    exact congrArg Nat.succ hl
  obtain ⟨a, us, rfl, hl, ha, q⟩ := h
  match us, hl, q with
  | [u0], _, q =>
  refine ⟨_, (pss_cons (ps_ostG (pv 0) (pv 1))
    (pss_one (ps_ostG (pv 0) pe_str))), ?_⟩
  refine ⟨_, rfl, _, rfl, _, T.C_UnknownName, rfl, T.x_UnknownName, T.k_UnknownName.nf "name" (by decide), .inl ⟨ha, fun dx hd hn => ?_⟩⟩
  refine ⟨_, rfl, _, T.C_UnknownName, rfl, T.x_UnknownName, T.k_UnknownName.nf "code" (by decide), .inr ⟨dx, _, upd_same, by rw [upd_ne hn]; exact upd_same, by simp, ?_⟩⟩
  exact q dx _ hd hn (fun b h1 h2 => by rw [upd_ne h2, upd_ne h1, upd_ne h2]) (by rw [upd_ne hn.symm]; exact upd_same) upd_same
theorem ok_NotIn (T : Tx K mg) : FnOk P w K mg base CX0 1 T.f_NotIn_init T.d_NotIn_init ["self"] (spEr T.C_NotIn "NotIn" []) := by
  refine T.F_NotIn_init.ok sc_NotIn_init (fun vs H Q E h => ?_) (fun cdv A outer s H vs Q E hr h => ?_)
  · obtain ⟨a, us, rfl, hl, _⟩ := h
    exact congrArg Nat.succ hl
  obtain ⟨a, us, rfl, hl, ha, q⟩ := h
  match us, hl, q with
  | [], _, q =>
  refine ⟨_, (pss_one (ps_ostG (pv 0) pe_str)), ?_⟩
  refine ⟨_, rfl, _, T.C_NotIn, rfl, T.x_NotIn, T.k_NotIn.nf "code" (by decide), .inl ⟨ha, fun dx hd hn => q dx _ hd hn (fun b h1 h2 => by rw [upd_ne h1, upd_ne h2]) upd_same (by rw [upd_ne hn]; exact upd_same)⟩⟩
theorem ok_NotFair (T : Tx K mg) : FnOk P w K mg base CX0 1 T.f_NotFair_init T.d_NotFair_init ["self", "first", "second"] (spEr T.C_NotFair "NotFair" ["first", "second"]) := by
  refine T.F_NotFair_init.ok sc_NotFair_init (fun vs H Q E h => ?_) (fun cdv A outer s H vs Q E hr h => ?_)
  · obtain ⟨a, us, rfl, hl, _⟩ := h
    exact congrArg Nat.succ hl
  obtain ⟨a, us, rfl, hl, ha, q⟩ := h
  match us, hl, q with
  | [u0, u1], _, q =>
  refine ⟨_, (pss_cons (ps_ostG (pv 0) (pv 1))
    (pss_cons (ps_ostG (pv 0) (pv 2))
    (pss_one (ps_ostG (pv 0) pe_str)))), ?_⟩
  refine ⟨_, rfl, _, rfl, _, T.C_NotFair, rfl, T.x_NotFair, T.k_NotFair.nf "first" (by decide), .inl ⟨ha, fun dx hd hn => ?_⟩⟩
  refine ⟨_, rfl, _, rfl, _, T.C_NotFair, rfl, T.x_NotFair, T.k_NotFair.nf "second" (by decide), .inr ⟨dx, _, upd_same, by rw [upd_ne hn]; exact upd_same, by simp, ?_⟩⟩
  refine ⟨_, rfl, _, T.C_NotFair, rfl, T.x_NotFair, T.k_NotFair.nf "code" (by decide), .inr ⟨dx, _, by rw [upd_ne hn.symm]; exact upd_same, upd_same, by simp, ?_⟩⟩
  exact q dx _ hd hn (fun b h1 h2 => by rw [upd_ne h2, upd_ne h2, upd_ne h1, upd_ne h2]) (by rw [upd_ne hn.symm, upd_ne hn.symm]; exact upd_same) upd_same
theorem ok_NotKept (T : Tx K mg) : FnOk P w K mg base CX0 1 T.f_NotKept_init T.d_NotKept_init ["self"] (spEr T.C_NotKept "NotKept" []) := by
  refine T.F_NotKept_init.ok sc_NotKept_init (fun vs H Q E h => ?_) (fun cdv A outer s H vs Q E hr h => ?_)
  · obtain ⟨a, us, rfl, hl, _⟩ := h
    exact congrArg Nat.succ hl
  obtain ⟨a, us, rfl, hl, ha, q⟩ := h
  match us, hl, q with
  | [], _, q =>
  refine ⟨_, (pss_one (ps_ostG (pv 0) pe_str)), ?_⟩
  refine ⟨_, rfl, _, T.C_NotKept, rfl, T.x_NotKept, T.k_NotKept.nf "code" (by decide), .inl ⟨ha, fun dx hd hn => q dx _ hd hn (fun b h1 h2 => by rw [upd_ne h1, upd_ne h2]) upd_same (by rw [upd_ne hn]; exact upd_same)⟩⟩
theorem ok_Odd (T : Tx K mg) : FnOk P w K mg base CX0 1 T.f_Odd_init T.d_Odd_init ["self", "prime"] (spEr T.C_Odd "Odd" ["prime"]) := by
  refine T.F_Odd_init.ok sc_Odd_init (fun vs H Q E h => ?_) (fun cdv A outer s H vs Q E hr h => ?_)
  · obtain ⟨a, us, rfl, hl, _⟩ := h
    exact congrArg Nat.succ hl
  obtain ⟨a, us, rfl, hl, ha, q⟩ := h
  match us, hl, q with
  | [u0], _, q =>
  refine ⟨_, (pss_cons (ps_ostG (pv 0) (pv 1))
    (pss_one (ps_ostG (pv 0) pe_str))), ?_⟩
  refine ⟨_, rfl, _, rfl, _, T.C_Odd, rfl, T.x_Odd, T.k_Odd.nf "prime" (by decide), .inl ⟨ha, fun dx hd hn => ?_⟩⟩
  refine ⟨_, rfl, _, T.C_Odd, rfl, T.x_Odd, T.k_Odd.nf "code" (by decide), .inr ⟨dx, _, upd_same, by rw [upd_ne hn]; exact upd_same, by simp, ?_⟩⟩
  exact q dx _ hd hn (fun b h1 h2 => by rw [upd_ne h2, upd_ne h1, upd_ne h2]) (by rw [upd_ne hn.symm]; exact upd_same) upd_same
theorem ok_NoRoot (T : Tx K mg) : FnOk P w K mg base CX0 1 T.f_NoRoot_init T.d_NoRoot_init ["self", "first", "second"] (spEr T.C_NoRoot "NoRoot" ["first", "second"]) := by
  refine T.F_NoRoot_init.ok sc_NoRoot_init (fun vs H Q E h => ?_) (fun cdv A outer s H vs Q E hr h => ?_)
  · obtain ⟨a, us, rfl, hl, _⟩ := h
    exact congrArg Nat.succ hl
  obtain ⟨a, us, rfl, hl, ha, q⟩ := h
  match us, hl, q with
  | [u0, u1], _, q =>
  refine ⟨_, (pss_cons (ps_ostG (pv 0) (pv 1))
    (pss_cons (ps_ostG (pv 0) (pv 2))
    (pss_one (ps_ostG (pv 0) pe_str)))), ?_⟩
  refine ⟨_, rfl, _, rfl, _, T.C_NoRoot, rfl, T.x_NoRoot, T.k_NoRoot.nf "first" (by decide), .inl ⟨ha, fun dx hd hn => ?_⟩⟩
  refine ⟨_, rfl, _, rfl, _, T.C_NoRoot, rfl, T.x_NoRoot, T.k_NoRoot.nf "second" (by decide), .inr ⟨dx, _, upd_same, by rw [upd_ne hn]; exact upd_same, by simp, ?_⟩⟩
  refine ⟨_, rfl, _, T.C_NoRoot, rfl, T.x_NoRoot, T.k_NoRoot.nf "code" (by decide), .inr ⟨dx, _, by rw [upd_ne hn.symm]; exact upd_same, upd_same, by simp, ?_⟩⟩
  exact q dx _ hd hn (fun b h1 h2 => by rw [upd_ne h2, upd_ne h2, upd_ne h1, upd_ne h2]) (by rw [upd_ne hn.symm, upd_ne hn.symm]; exact upd_same) upd_same
theorem ok_Unfit (T : Tx K mg) : FnOk P w K mg base CX0 1 T.f_Unfit_init T.d_Unfit_init ["self", "counts"] (spEr T.C_Unfit "Unfit" ["counts"]) := by
  refine T.F_Unfit_init.ok sc_Unfit_init (fun vs H Q E h => ?_) (fun cdv A outer s H vs Q E hr h => ?_)
  · obtain ⟨a, us, rfl, hl, _⟩ := h
    exact congrArg Nat.succ hl
  obtain ⟨a, us, rfl, hl, ha, q⟩ := h
  match us, hl, q with
  | [u0], _, q =>
  refine ⟨_, (pss_cons (ps_ostG (pv 0) (pv 1))
    (pss_one (ps_ostG (pv 0) pe_str))), ?_⟩
  refine ⟨_, rfl, _, rfl, _, T.C_Unfit, rfl, T.x_Unfit, T.k_Unfit.nf "counts" (by decide), .inl ⟨ha, fun dx hd hn => ?_⟩⟩
  refine ⟨_, rfl, _, T.C_Unfit, rfl, T.x_Unfit, T.k_Unfit.nf "code" (by decide), .inr ⟨dx, _, upd_same, by rw [upd_ne hn]; exact upd_same, by simp, ?_⟩⟩
  exact q dx _ hd hn (fun b h1 h2 => by rw [upd_ne h2, upd_ne h1, upd_ne h2]) (by rw [upd_ne hn.symm]; exact upd_same) upd_same
theorem ok_Unmade (T : Tx K mg) : FnOk P w K mg base CX0 1 T.f_Unmade_init T.d_Unmade_init ["self", "reading"] (spEr T.C_Unmade "Unmade" ["reading"]) := by
  refine T.F_Unmade_init.ok sc_Unmade_init (fun vs H Q E h => ?_) (fun cdv A outer s H vs Q E hr h => ?_)
  · obtain ⟨a, us, rfl, hl, _⟩ := h
    exact congrArg Nat.succ hl
  obtain ⟨a, us, rfl, hl, ha, q⟩ := h
  match us, hl, q with
  | [u0], _, q =>
  refine ⟨_, (pss_cons (ps_ostG (pv 0) (pv 1))
    (pss_one (ps_ostG (pv 0) pe_str))), ?_⟩
  refine ⟨_, rfl, _, rfl, _, T.C_Unmade, rfl, T.x_Unmade, T.k_Unmade.nf "reading" (by decide), .inl ⟨ha, fun dx hd hn => ?_⟩⟩
  refine ⟨_, rfl, _, T.C_Unmade, rfl, T.x_Unmade, T.k_Unmade.nf "code" (by decide), .inr ⟨dx, _, upd_same, by rw [upd_ne hn]; exact upd_same, by simp, ?_⟩⟩
  exact q dx _ hd hn (fun b h1 h2 => by rw [upd_ne h2, upd_ne h1, upd_ne h2]) (by rw [upd_ne hn.symm]; exact upd_same) upd_same
theorem ok_TooLong (T : Tx K mg) : FnOk P w K mg base CX0 1 T.f_TooLong_init T.d_TooLong_init ["self", "most"] (spEr T.C_TooLong "TooLong" ["most"]) := by
  refine T.F_TooLong_init.ok sc_TooLong_init (fun vs H Q E h => ?_) (fun cdv A outer s H vs Q E hr h => ?_)
  · obtain ⟨a, us, rfl, hl, _⟩ := h
    exact congrArg Nat.succ hl
  obtain ⟨a, us, rfl, hl, ha, q⟩ := h
  match us, hl, q with
  | [u0], _, q =>
  refine ⟨_, (pss_cons (ps_ostG (pv 0) (pv 1))
    (pss_one (ps_ostG (pv 0) pe_str))), ?_⟩
  refine ⟨_, rfl, _, rfl, _, T.C_TooLong, rfl, T.x_TooLong, T.k_TooLong.nf "most" (by decide), .inl ⟨ha, fun dx hd hn => ?_⟩⟩
  refine ⟨_, rfl, _, T.C_TooLong, rfl, T.x_TooLong, T.k_TooLong.nf "code" (by decide), .inr ⟨dx, _, upd_same, by rw [upd_ne hn]; exact upd_same, by simp, ?_⟩⟩
  exact q dx _ hd hn (fun b h1 h2 => by rw [upd_ne h2, upd_ne h1, upd_ne h2]) (by rw [upd_ne hn.symm]; exact upd_same) upd_same
theorem ok_Level (T : Tx K mg) : FnOk P w K mg base CX0 1 T.f_Level_init T.d_Level_init ["self"] (spEr T.C_Level "Level" []) := by
  refine T.F_Level_init.ok sc_Level_init (fun vs H Q E h => ?_) (fun cdv A outer s H vs Q E hr h => ?_)
  · obtain ⟨a, us, rfl, hl, _⟩ := h
    exact congrArg Nat.succ hl
  obtain ⟨a, us, rfl, hl, ha, q⟩ := h
  match us, hl, q with
  | [], _, q =>
  refine ⟨_, (pss_one (ps_ostG (pv 0) pe_str)), ?_⟩
  refine ⟨_, rfl, _, T.C_Level, rfl, T.x_Level, T.k_Level.nf "code" (by decide), .inl ⟨ha, fun dx hd hn => q dx _ hd hn (fun b h1 h2 => by rw [upd_ne h1, upd_ne h2]) upd_same (by rw [upd_ne hn]; exact upd_same)⟩⟩
theorem ok_NoEntry (T : Tx K mg) : FnOk P w K mg base CX0 1 T.f_NoEntry_init T.d_NoEntry_init ["self"] (spEr T.C_NoEntry "NoEntry" []) := by
  refine T.F_NoEntry_init.ok sc_NoEntry_init (fun vs H Q E h => ?_) (fun cdv A outer s H vs Q E hr h => ?_)
  · obtain ⟨a, us, rfl, hl, _⟩ := h
    exact congrArg Nat.succ hl
  obtain ⟨a, us, rfl, hl, ha, q⟩ := h
  match us, hl, q with
  | [], _, q =>
  refine ⟨_, (pss_one (ps_ostG (pv 0) pe_str)), ?_⟩
  refine ⟨_, rfl, _, T.C_NoEntry, rfl, T.x_NoEntry, T.k_NoEntry.nf "code" (by decide), .inl ⟨ha, fun dx hd hn => q dx _ hd hn (fun b h1 h2 => by rw [upd_ne h1, upd_ne h2]) upd_same (by rw [upd_ne hn]; exact upd_same)⟩⟩
end
end TL
namespace TL
open PySem L2

/-! ### steps of a reading -/
local macro_rules | `(tactic| walk_at "hp") => `(tactic| first | assumption | exact upd_same | (refine (upd_ne (by first | assumption | (exact Ne.symm (by assumption)))).trans ?_; walk_at "hp"))
local macro_rules | `(tactic| walk_at "ok") => `(tactic| first | (exact Or.inr ⟨by decide, by decide⟩) | (exact ⟨by decide, by decide⟩) | (exact ⟨by decide, by decide, by decide⟩) | (show _ ≠ _; omega) | (show _ ≠ _; decide) | (exact Or.inl ⟨by omega, by omega⟩) | decide)
local macro_rules | `(tactic| walk_at "sq") => `(tactic| first | assumption | exact SqL.of (by walk_at "hp") | exact SqT.of (by walk_at "hp"))
local macro_rules | `(tactic| walk_at "ty") => `(tactic| first | refine ⟨_, _, Value.type "int", Value.type "list", false, rfl, ClsV.ty _, TyX.base (TyOf.int _), kt_int_list, ?_⟩ | refine ⟨_, _, Value.type "bool", Value.type "list", false, rfl, ClsV.ty _, TyX.base (TyOf.bl _), kt_bool_list, ?_⟩ | refine ⟨_, _, Value.type "str", Value.type "list", false, rfl, ClsV.ty _, TyX.base (TyOf.str _), kt_str_list, ?_⟩ | refine ⟨_, _, Value.type "NoneType", Value.type "list", false, rfl, ClsV.ty _, TyX.base TyOf.non, kt_NoneType_list, ?_⟩ | refine ⟨_, _, Value.type "list", Value.type "list", true, rfl, ClsV.ty _, tyx_L (by walk_at "sq"), kt_list_list, ?_⟩ | refine ⟨_, _, Value.type "tuple", Value.type "list", false, rfl, ClsV.ty _, tyx_T (by walk_at "sq"), kt_tuple_list, ?_⟩ | refine ⟨_, _, Value.type "int", Value.type "tuple", false, rfl, ClsV.ty _, TyX.base (TyOf.int _), kt_int_tuple, ?_⟩ | refine ⟨_, _, Value.type "bool", Value.type "tuple", false, rfl, ClsV.ty _, TyX.base (TyOf.bl _), kt_bool_tuple, ?_⟩ | refine ⟨_, _, Value.type "str", Value.type "tuple", false, rfl, ClsV.ty _, TyX.base (TyOf.str _), kt_str_tuple, ?_⟩ | refine ⟨_, _, Value.type "NoneType", Value.type "tuple", false, rfl, ClsV.ty _, TyX.base TyOf.non, kt_NoneType_tuple, ?_⟩ | refine ⟨_, _, Value.type "list", Value.type "tuple", false, rfl, ClsV.ty _, tyx_L (by walk_at "sq"), kt_list_tuple, ?_⟩ | refine ⟨_, _, Value.type "tuple", Value.type "tuple", true, rfl, ClsV.ty _, tyx_T (by walk_at "sq"), kt_tuple_tuple, ?_⟩ | refine ⟨_, _, Value.type "int", Value.type "bool", false, rfl, ClsV.ty _, TyX.base (TyOf.int _), kt_int_bool, ?_⟩ | refine ⟨_, _, Value.type "bool", Value.type "bool", true, rfl, ClsV.ty _, TyX.base (TyOf.bl _), kt_bool_bool, ?_⟩ | refine ⟨_, _, Value.type "str", Value.type "bool", false, rfl, ClsV.ty _, TyX.base (TyOf.str _), kt_str_bool, ?_⟩ | refine ⟨_, _, Value.type "NoneType", Value.type "bool", false, rfl, ClsV.ty _, TyX.base TyOf.non, kt_NoneType_bool, ?_⟩ | refine ⟨_, _, Value.type "list", Value.type "bool", false, rfl, ClsV.ty _, tyx_L (by walk_at "sq"), kt_list_bool, ?_⟩ | refine ⟨_, _, Value.type "tuple", Value.type "bool", false, rfl, ClsV.ty _, tyx_T (by walk_at "sq"), kt_tuple_bool, ?_⟩ | refine ⟨_, _, Value.type "int", Value.type "int", true, rfl, ClsV.ty _, TyX.base (TyOf.int _), kt_int_int, ?_⟩ | refine ⟨_, _, Value.type "bool", Value.type "int", true, rfl, ClsV.ty _, TyX.base (TyOf.bl _), kt_bool_int, ?_⟩ | refine ⟨_, _, Value.type "str", Value.type "int", false, rfl, ClsV.ty _, TyX.base (TyOf.str _), kt_str_int, ?_⟩ | refine ⟨_, _, Value.type "NoneType", Value.type "int", false, rfl, ClsV.ty _, TyX.base TyOf.non, kt_NoneType_int, ?_⟩ | refine ⟨_, _, Value.type "list", Value.type "int", false, rfl, ClsV.ty _, tyx_L (by walk_at "sq"), kt_list_int, ?_⟩ | refine ⟨_, _, Value.type "tuple", Value.type "int", false, rfl, ClsV.ty _, tyx_T (by walk_at "sq"), kt_tuple_int, ?_⟩ | refine ⟨_, _, Value.type "int", Value.type "str", false, rfl, ClsV.ty _, TyX.base (TyOf.int _), kt_int_str, ?_⟩ | refine ⟨_, _, Value.type "bool", Value.type "str", false, rfl, ClsV.ty _, TyX.base (TyOf.bl _), kt_bool_str, ?_⟩ | refine ⟨_, _, Value.type "str", Value.type "str", true, rfl, ClsV.ty _, TyX.base (TyOf.str _), kt_str_str, ?_⟩ | refine ⟨_, _, Value.type "NoneType", Value.type "str", false, rfl, ClsV.ty _, TyX.base TyOf.non, kt_NoneType_str, ?_⟩ | refine ⟨_, _, Value.type "list", Value.type "str", false, rfl, ClsV.ty _, tyx_L (by walk_at "sq"), kt_list_str, ?_⟩ | refine ⟨_, _, Value.type "tuple", Value.type "str", false, rfl, ClsV.ty _, tyx_T (by walk_at "sq"), kt_tuple_str, ?_⟩)
local macro_rules | `(tactic| walk_at "go1") => `(tactic| first
  | (refine ⟨_, rfl, ?_⟩)
  | (refine ⟨_, _, rfl, rfl, ?_⟩)
  | (refine ⟨_, _, _, _, rfl, rfl, SqL.of (by walk_at "hp"), rfl, ?_⟩)
  | (refine Or.inl ⟨_, rfl, ?_⟩)
  | (refine ⟨rfl, ?_⟩)
  | (refine ⟨_, _, rfl, .inl (SqL.of (by walk_at "hp")), ?_⟩)
  | (refine ⟨_, _, rfl, Or.inl (by assumption), ?_⟩)
  | (refine ⟨_, _, rfl, Or.inr (by assumption), ?_⟩)
  | (refine ⟨(by walk_at "ok"), ?_⟩)
  | (refine ⟨_, _, _, _, rfl, rfl, (by walk_at "hp"), rfl, ?_⟩))
local macro_rules | `(tactic| walk_at "go") => `(tactic| repeat (walk_at "go1"))
local macro_rules | `(tactic| walk_at "gt") => `(tactic| repeat (first | walk_at "go1" | walk_at "ty"))

section
variable {P : Program} {w : World} {K : PySem.W.Frag} {mg : Str → Option Value} {base : Heap}
/-- the classes of the errors that are drawn as values -/
def esT (T : Tx K mg) : List Addr := [T.C_BadTop, T.C_NoPrime]
theorem er_ec (T : Tx K mg) {C : Addr} {fl : List String} (k : ErOk K C fl) : ErrCls K C := ⟨k.no, ⟨k.xf.ga, k.xf.gg, k.xf.exC, k.xf.hdC, k.cls, T.oN, T.oT, k.obj⟩⟩
theorem kec (T : Tx K mg) {C : Addr} (h : C ∈ esT T) : ErrCls K C := by
  simp only [esT, List.mem_cons, List.not_mem_nil, or_false] at h
  rcases h with rfl | rfl
  · exact er_ec T T.k_BadTop
  · exact er_ec T T.k_NoPrime
theorem kno (T : Tx K mg) {C : Addr} (h : C ∈ esT T) : NoCls K C := (kec T h).nc
theorem keq (T : Tx K mg) {C : Addr} (h : C ∈ esT T) : PySem.W.findIn K (.ref C) "__eq__" = some (some (.builtin "object.__eq__")) := by
  simp only [esT, List.mem_cons, List.not_mem_nil, or_false] at h
  rcases h with rfl | rfl
  · exact T.eqA
  · exact T.eqB
/-- what the law's comparison finds the same: equal data, an error and itself -/
inductive DXE (K : PySem.W.Frag) (Es : List Addr) (H : Hp) : Nat → V → V → Prop where
  | non {n : Nat} : DXE K Es H n .non .non
  | bl {n : Nat} (b : Bool) : DXE K Es H n (.bl b) (.bl b)
  | int {n : Nat} (i : Int) : DXE K Es H n (.int i) (.int i)
  | str {n : Nat} (x : Str) : DXE K Es H n (.str x) (.str x)
  | err {n : Nat} {a C : Addr} (hC : C ∈ Es) (h : XAt H a C) : DXE K Es H n (.ref a) (.ref a)
  | lst {n : Nat} {a b : Addr} {xs ys : List V} (h1 : SqL K H a xs) (h2 : SqL K H b ys) (hlen : xs.length ≤ 100000) (hl : xs.length = ys.length) (h : ∀ (i : Nat) (x y : V), xs[i]? = some x → ys[i]? = some y → DXE K Es H n x y) : DXE K Es H (n + 1) (.ref a) (.ref b)
  | tup {n : Nat} {a b : Addr} {xs ys : List V} (h1 : SqT K H a xs) (h2 : SqT K H b ys) (hlen : xs.length ≤ 100000) (hl : xs.length = ys.length) (h : ∀ (i : Nat) (x y : V), xs[i]? = some x → ys[i]? = some y → DXE K Es H n x y) : DXE K Es H (n + 1) (.ref a) (.ref b)
theorem DXE.same {Es : List Addr} {n : Nat} {H H' : Hp} {x y : V} (h : DXE K Es H n x y) (s : Same H H') : DXE K Es H' n x y := by
  induction h with
  | non => exact .non
  | bl b => exact .bl b
  | int i => exact .int i
  | str x => exact .str x
  | err hC h => exact .err hC (h.same s)
  | lst h1 h2 hlen hl _ ih => exact .lst (s.seq h1) (s.seq h2) hlen hl ih
  | tup h1 h2 hlen hl _ ih => exact .tup (seqT s h1) (seqT s h2) hlen hl ih
def spSameX (K : PySem.W.Frag) (Es : List Addr) (m : Nat) : Sp := fun vs H Q _ => ∃ (n : Nat) (x y : V), vs = [x, y] ∧ n < m ∧ DXE K Es H n x y ∧ ∀ H', Same H H' → Q (.bl true) H'
theorem kn_four {C : Addr} (J : NoCls K C) : PySem.W.kitAny K (.ref C) [.type "int", .type "str", .type "list", .type "tuple"] = some false := by
  refine kitAny_cons (kn_int J .ins) (fun e => ?_) (fun e => by cases e)
  refine kitAny_cons (kn_str J .ins) (fun e => ?_) (fun e => by cases e)
  exact kit_two (kn_list J .ins) (kn_tup J .ins)
theorem ok_sameX_step (T : Tx K mg) {m : Nat} (G_l_same : FnOk P w K mg base CX0 (m + 1) T.f_l_same T.d_l_same ["_law_found", "_law_due_here"] (spSameX K (esT T) m)) : FnOk P w K mg base CX0 (m + 2) T.f_l_same T.d_l_same ["_law_found", "_law_due_here"] (spSameX K (esT T) (m + 1)) := by
  refine T.F_l_same.ok sc_l_same (fun vs H Q E h => ?_) (fun cdv A outer s H vs Q E hr h => ?_)
  · obtain ⟨n, x, y, rfl, _⟩ := h
    rfl
  obtain ⟨n, x, y, rfl, hm, hd, q⟩ := h
  have nd := sc_l_same.nd
  refine ⟨_, (pss_cons (ps_if (pt_val (pe_callB (show CallR _ _ (rIsi2 K) from call_isi2) (by rfl) T.z_isinstance (by decide +kernel) (pa_cons (pv 1) (pa_cons (pe_bltn (v := .ty "list") (u := .type "list") (by rfl) T.z_list (by decide +kernel) rfl) pa_nil)))) (pss_one (ps_ret (pe_and (pe_callB (show CallR _ _ (rIsi2 K) from call_isi2) (by rfl) T.z_isinstance (by decide +kernel) (pa_cons (pv 0) (pa_cons (pe_bltn (v := .ty "list") (u := .type "list") (by rfl) T.z_list (by decide +kernel) rfl) pa_nil))) (pe_and (pe_cmpR op_eq (pe_callB (show CallR _ _ (rLenSq K) from call_len_seq) (by rfl) T.z_len (by decide +kernel) (pa_cons (pv 0) pa_nil)) (pe_callB (show CallR _ _ (rLenSq K) from call_len_seq) (by rfl) T.z_len (by decide +kernel) (pa_cons (pv 1) pa_nil)) (nomark _)) (pe_one (pe_callB (show CallR _ _ (rAll K) from cr_all rfl) (by rfl) T.z_all (by decide +kernel) (pa_cons (pe_lc (own := [("_law_x", 2), ("_law_y", 3)]) (g := (gTup K 2 (gCons (gName 2) (gCons (gName 3) gNil)))) rfl nd (show PI _ _ _ (RZ.iZipA K _) from RZ.pi_zipA (by rfl) T.z_zip (pa_cons (pv 0) (pa_cons (pv 1) pa_nil))) (blkOk_by (own := [("_law_x", 2), ("_law_y", 3)]) (N := N_l_same) (sc := defScope s_l_same) (by decide +kernel)) (fun _ _ _ _ _ => by exact (pg_tup rfl (pgs_cons (pg_name (i := 2) nd rfl (Or.inl rfl)) (pgs_cons (pg_name (i := 3) nd rfl (Or.inl rfl)) pgs_nil)))) (fun _ _ _ _ _ => by exact pts_nil) (fun _ _ _ _ _ => by exact (pe_call G_l_same hr (by rfl) T.m_l_same T.F_l_same.kp T.b_l_same .nil pass0 (pa_cons (pv 2) (pa_cons (pv 3) pa_nil))))) pa_nil))))))) pss_nil)
    (pss_cons (ps_if (pt_val (pe_callB (show CallR _ _ (rIsi2 K) from call_isi2) (by rfl) T.z_isinstance (by decide +kernel) (pa_cons (pv 1) (pa_cons (pe_bltn (v := .ty "tuple") (u := .type "tuple") (by rfl) T.z_tuple (by decide +kernel) rfl) pa_nil)))) (pss_one (ps_ret (pe_and (pe_callB (show CallR _ _ (rIsi2 K) from call_isi2) (by rfl) T.z_isinstance (by decide +kernel) (pa_cons (pv 0) (pa_cons (pe_bltn (v := .ty "tuple") (u := .type "tuple") (by rfl) T.z_tuple (by decide +kernel) rfl) pa_nil))) (pe_and (pe_cmpR op_eq (pe_callB (show CallR _ _ (rLenSq K) from call_len_seq) (by rfl) T.z_len (by decide +kernel) (pa_cons (pv 0) pa_nil)) (pe_callB (show CallR _ _ (rLenSq K) from call_len_seq) (by rfl) T.z_len (by decide +kernel) (pa_cons (pv 1) pa_nil)) (nomark _)) (pe_one (pe_callB (show CallR _ _ (rAll K) from cr_all rfl) (by rfl) T.z_all (by decide +kernel) (pa_cons (pe_lc (own := [("_law_x", 2), ("_law_y", 3)]) (g := (gTup K 2 (gCons (gName 2) (gCons (gName 3) gNil)))) rfl nd (show PI _ _ _ (RZ.iZipA K _) from RZ.pi_zipA (by rfl) T.z_zip (pa_cons (pv 0) (pa_cons (pv 1) pa_nil))) (blkOk_by (own := [("_law_x", 2), ("_law_y", 3)]) (N := N_l_same) (sc := defScope s_l_same) (by decide +kernel)) (fun _ _ _ _ _ => by exact (pg_tup rfl (pgs_cons (pg_name (i := 2) nd rfl (Or.inl rfl)) (pgs_cons (pg_name (i := 3) nd rfl (Or.inl rfl)) pgs_nil)))) (fun _ _ _ _ _ => by exact pts_nil) (fun _ _ _ _ _ => by exact (pe_call G_l_same hr (by rfl) T.m_l_same T.F_l_same.kp T.b_l_same .nil pass0 (pa_cons (pv 2) (pa_cons (pv 3) pa_nil))))) pa_nil))))))) pss_nil)
    (pss_cons (ps_if (PW.pt (pw_or (pt_cmpR op_isN (pv 1) pe_non (nomark _)) (pw_or1 (pt_cmpR op_isN (pv 0) pe_non (nomark _))))) (pss_one (ps_ret (pe_and (pe_cmpR op_isN (pv 1) pe_non (nomark _)) (pe_one (pe_cmpR op_isN (pv 0) pe_non (nomark _)))))) pss_nil)
    (pss_cons (ps_if (PW.pt (pw_or (pt_val (pe_callB (show CallR _ _ (rIsi2 K) from call_isi2) (by rfl) T.z_isinstance (by decide +kernel) (pa_cons (pv 1) (pa_cons (pe_bltn (v := .ty "bool") (u := .type "bool") (by rfl) T.z_bool (by decide +kernel) rfl) pa_nil)))) (pw_or1 (pt_val (pe_callB (show CallR _ _ (rIsi2 K) from call_isi2) (by rfl) T.z_isinstance (by decide +kernel) (pa_cons (pv 0) (pa_cons (pe_bltn (v := .ty "bool") (u := .type "bool") (by rfl) T.z_bool (by decide +kernel) rfl) pa_nil))))))) (pss_one (ps_ret (pe_and (pe_callB (show CallR _ _ (rIsi2 K) from call_isi2) (by rfl) T.z_isinstance (by decide +kernel) (pa_cons (pv 1) (pa_cons (pe_bltn (v := .ty "bool") (u := .type "bool") (by rfl) T.z_bool (by decide +kernel) rfl) pa_nil))) (pe_and (pe_callB (show CallR _ _ (rIsi2 K) from call_isi2) (by rfl) T.z_isinstance (by decide +kernel) (pa_cons (pv 0) (pa_cons (pe_bltn (v := .ty "bool") (u := .type "bool") (by rfl) T.z_bool (by decide +kernel) rfl) pa_nil))) (pe_one (pe_cmpR (op_or op_eq (op_eqS hr)) (pv 0) (pv 1) (nomark _))))))) pss_nil)
    (pss_cons (ps_if (pt_val (pe_callB (show CallR _ _ (rIsi2 K) from call_isi2) (by rfl) T.z_isinstance (by decide +kernel) (pa_cons (pv 1) (pa_cons (pe_bltn (v := .ty "int") (u := .type "int") (by rfl) T.z_int (by decide +kernel) rfl) pa_nil)))) (pss_one (ps_ret (pe_and (pe_callB (show CallR _ _ (rIsi2 K) from call_isi2) (by rfl) T.z_isinstance (by decide +kernel) (pa_cons (pv 0) (pa_cons (pe_bltn (v := .ty "int") (u := .type "int") (by rfl) T.z_int (by decide +kernel) rfl) pa_nil))) (pe_one (pe_cmpR (op_or op_eq (op_eqS hr)) (pv 0) (pv 1) (nomark _)))))) pss_nil)
    (pss_cons (ps_if (pt_val (pe_callB (show CallR _ _ (rIsi2 K) from call_isi2) (by rfl) T.z_isinstance (by decide +kernel) (pa_cons (pv 1) (pa_cons (pe_bltn (v := .ty "str") (u := .type "str") (by rfl) T.z_str (by decide +kernel) rfl) pa_nil)))) (pss_one (ps_ret (pe_and (pe_callB (show CallR _ _ (rIsi2 K) from call_isi2) (by rfl) T.z_isinstance (by decide +kernel) (pa_cons (pv 0) (pa_cons (pe_bltn (v := .ty "str") (u := .type "str") (by rfl) T.z_str (by decide +kernel) rfl) pa_nil))) (pe_one (pe_cmpR (op_or op_eq (op_eqS hr)) (pv 0) (pv 1) (nomark _)))))) pss_nil)
    (pss_one (ps_ret (pe_and (pe_not (pe_callB (show CallR _ _ (rIsi2T K) from call_isi2T) (by rfl) T.z_isinstance (by decide +kernel) (pa_cons (pv 0) (pa_cons (pe_tup (pa_cons (pe_bltn (v := .ty "int") (u := .type "int") (by rfl) T.z_int (by decide +kernel) rfl) (pa_cons (pe_bltn (v := .ty "str") (u := .type "str") (by rfl) T.z_str (by decide +kernel) rfl) (pa_cons (pe_bltn (v := .ty "list") (u := .type "list") (by rfl) T.z_list (by decide +kernel) rfl) (pa_cons (pe_bltn (v := .ty "tuple") (u := .type "tuple") (by rfl) T.z_tuple (by decide +kernel) rfl) pa_nil))))) pa_nil)))) (pe_one (pe_cmpR (op_or op_eq (op_eqS hr)) (pv 0) (pv 1) (nomark _)))))))))))), ?_⟩
  have hst : L2.start N_l_same [x, y] = [some x, some y, none, none] := rfl
  rw [hst]
  have J : NoCls K T.C_BadTop := kno T (by simp [esT])
  have Z : ErrCls K T.C_BadTop := kec T (by simp [esT])
  have qd : ∀ z : V, Q (.bl (decide (z = z))) H := fun z => by
    rw [decide_eq_true rfl]
    exact q H (Same.refl H)
  cases hd with
  | int j =>
    have hk : KnX K T.C_BadTop T.C_BadTop H (.int j) .int := .inl .i
    refine ⟨_, rfl, isi_one J Z kn_list hk ⟨_, rfl, iteF' rfl ?_⟩⟩
    refine ⟨_, rfl, isi_one J Z kn_tup hk ⟨_, rfl, iteF' rfl ?_⟩⟩
    refine ⟨_, rfl, rfl, _, rfl, iteF' rfl ⟨_, rfl, rfl, _, rfl, iteF' rfl ?_⟩⟩
    refine ⟨_, rfl, isi_one J Z kn_bool hk ⟨_, rfl, iteF' rfl ⟨_, rfl, isi_one J Z kn_bool hk ⟨_, rfl, iteF' rfl ?_⟩⟩⟩⟩
    refine ⟨_, rfl, isi_one J Z kn_int hk ⟨_, rfl, iteT' rfl ⟨_, rfl, isi_one J Z kn_int hk ⟨_, rfl, iteT' rfl ?_⟩⟩⟩⟩
    exact ⟨_, rfl, _, rfl, .inl ⟨rfl, qd _⟩⟩
  | str x =>
    have hk : KnX K T.C_BadTop T.C_BadTop H (.str x) .str := .inl .s
    refine ⟨_, rfl, isi_one J Z kn_list hk ⟨_, rfl, iteF' rfl ?_⟩⟩
    refine ⟨_, rfl, isi_one J Z kn_tup hk ⟨_, rfl, iteF' rfl ?_⟩⟩
    refine ⟨_, rfl, rfl, _, rfl, iteF' rfl ⟨_, rfl, rfl, _, rfl, iteF' rfl ?_⟩⟩
    refine ⟨_, rfl, isi_one J Z kn_bool hk ⟨_, rfl, iteF' rfl ⟨_, rfl, isi_one J Z kn_bool hk ⟨_, rfl, iteF' rfl ?_⟩⟩⟩⟩
    refine ⟨_, rfl, isi_one J Z kn_int hk ⟨_, rfl, iteF' rfl ?_⟩⟩
    refine ⟨_, rfl, isi_one J Z kn_str hk ⟨_, rfl, iteT' rfl ⟨_, rfl, isi_one J Z kn_str hk ⟨_, rfl, iteT' rfl ?_⟩⟩⟩⟩
    exact ⟨_, rfl, _, rfl, .inl ⟨rfl, qd _⟩⟩
  | bl b =>
    have hk : KnX K T.C_BadTop T.C_BadTop H (.bl b) .bool := .inl .b
    refine ⟨_, rfl, isi_one J Z kn_list hk ⟨_, rfl, iteF' rfl ?_⟩⟩
    refine ⟨_, rfl, isi_one J Z kn_tup hk ⟨_, rfl, iteF' rfl ?_⟩⟩
    refine ⟨_, rfl, rfl, _, rfl, iteF' rfl ⟨_, rfl, rfl, _, rfl, iteF' rfl ?_⟩⟩
    refine ⟨_, rfl, isi_one J Z kn_bool hk ⟨_, rfl, iteT' rfl (iteT' rfl ⟨_, rfl, isi_one J Z kn_bool hk ⟨_, rfl, iteT' rfl ⟨_, rfl, isi_one J Z kn_bool hk ⟨_, rfl, iteT' rfl ?_⟩⟩⟩⟩)⟩⟩
    exact ⟨_, rfl, _, rfl, .inl ⟨rfl, qd _⟩⟩
  | non =>
    have hk : KnX K T.C_BadTop T.C_BadTop H .non .non := .inl .n
    refine ⟨_, rfl, isi_one J Z kn_list hk ⟨_, rfl, iteF' rfl ?_⟩⟩
    refine ⟨_, rfl, isi_one J Z kn_tup hk ⟨_, rfl, iteF' rfl ?_⟩⟩
    refine ⟨_, rfl, rfl, _, rfl, iteT' rfl (iteT' rfl ⟨_, rfl, rfl, ⟨_, rfl, iteT' rfl ⟨_, rfl, rfl, qd _⟩⟩⟩)⟩
  | @err n a C hC h =>
    have Z : ErrCls K C := kec T hC
    have hk : KnX K T.C_BadTop C H (.ref a) .ins := .inr ⟨rfl, a, rfl, h⟩
    refine ⟨_, rfl, isi_one J Z kn_list hk ⟨_, rfl, iteF' rfl ?_⟩⟩
    refine ⟨_, rfl, isi_one J Z kn_tup hk ⟨_, rfl, iteF' rfl ?_⟩⟩
    refine ⟨_, rfl, rfl, _, rfl, iteF' rfl ⟨_, rfl, rfl, _, rfl, iteF' rfl ?_⟩⟩
    refine ⟨_, rfl, isi_one J Z kn_bool hk ⟨_, rfl, iteF' rfl ⟨_, rfl, isi_one J Z kn_bool hk ⟨_, rfl, iteF' rfl ?_⟩⟩⟩⟩
    refine ⟨_, rfl, isi_one J Z kn_int hk ⟨_, rfl, iteF' rfl ?_⟩⟩
    refine ⟨_, rfl, isi_one J Z kn_str hk ⟨_, rfl, iteF' rfl ?_⟩⟩
    refine ⟨_, rfl, (by show 4 ≤ sizeLine; decide), fun p hp => ?_⟩
    have s1 := Same.new (o := .tup [V.ty "int", V.ty "str", V.ty "list", V.ty "tuple"]) hp
    have h' := h.same s1
    refine .inr ⟨a, C, p, _, [.type "int", .type "str", .type "list", .type "tuple"], _, rfl, upd_same, .cons (.ty _) (.cons (.ty _) (.cons (.ty _) (.cons (.ty _) .nil))), h', Z.ex, kn_four Z.nc, ?_⟩
    exact ⟨_, rfl, ⟨_, rfl, iteT' rfl ⟨_, rfl, _, rfl, .inr ⟨a, C, rfl, rfl, h', Z.ex.hm, keq T hC, q _ s1⟩⟩⟩⟩
  | @lst n a b xs ys h1 h2 hlen hl he =>
    have hk1 : KnX K T.C_BadTop T.C_BadTop H (.ref a) .list := .inl (.l h1)
    have hk2 : KnX K T.C_BadTop T.C_BadTop H (.ref b) .list := .inl (.l h2)
    refine ⟨_, rfl, isi_one J Z kn_list hk2 ⟨_, rfl, iteT' rfl ⟨_, rfl, isi_one J Z kn_list hk1 ⟨_, rfl, iteT' rfl ?_⟩⟩⟩⟩
    refine ⟨_, rfl, a, xs, rfl, .inl h1, _, rfl, b, ys, rfl, .inl h2, rfl, _, rfl, ?_⟩
    refine ite_dec (by rw [hl]) ?_
    refine ⟨_, rfl, _, rfl, a, b, xs, ys, rfl, .inl ⟨h1, h2, fun D hD => ?_⟩⟩
    refine lcm (walk_zip (n := xs.length) (by omega)) (List.replicate xs.length (V.bl true)) (by simp) hlen hD (fun H' s => ⟨s.seq h1, s.seq h2⟩) ?_ ?_
    · rintro j y x H1 H2 hi hy s1 ⟨Tp, u, z, rfl, hT, rfl, hu, hz⟩ k hk
      obtain rfl := rep_get hy
      have s2 : Same H1 (upd H1 Tp (.tup [u, z])) := Same.new hT
      refine ⟨Tp, [u, z], rfl, SqT.of upd_same, rfl, u, [z], rfl, z, [], rfl, rfl, rfl, ?_⟩
      exact ⟨_, rfl, _, rfl, n, u, z, rfl, by omega, (he j u z hu hz).same (s1.trans s2), fun H4 s4 => hk H4 (s2.trans s4)⟩
    · intro H' s1 hD'
      refine ⟨D, List.replicate xs.length true, rfl, SqL.of (by rw [hD', List.map_replicate]), ?_⟩
      rw [all_rep]
      exact q H' s1
  | @tup n a b xs ys h1 h2 hlen hl he =>
    have hk1 : KnX K T.C_BadTop T.C_BadTop H (.ref a) .tup := .inl (.t h1)
    have hk2 : KnX K T.C_BadTop T.C_BadTop H (.ref b) .tup := .inl (.t h2)
    refine ⟨_, rfl, isi_one J Z kn_list hk2 ⟨_, rfl, iteF' rfl ?_⟩⟩
    refine ⟨_, rfl, isi_one J Z kn_tup hk2 ⟨_, rfl, iteT' rfl ⟨_, rfl, isi_one J Z kn_tup hk1 ⟨_, rfl, iteT' rfl ?_⟩⟩⟩⟩
    refine ⟨_, rfl, a, xs, rfl, .inr h1, _, rfl, b, ys, rfl, .inr h2, rfl, _, rfl, ?_⟩
    refine ite_dec (by rw [hl]) ?_
    refine ⟨_, rfl, _, rfl, a, b, xs, ys, rfl, .inr ⟨h1, h2, fun D hD => ?_⟩⟩
    refine lcm (walk_zipT (n := xs.length) (by omega)) (List.replicate xs.length (V.bl true)) (by simp) hlen hD (fun H' s => ⟨seqT s h1, seqT s h2⟩) ?_ ?_
    · rintro j y x H1 H2 hi hy s1 ⟨Tp, u, z, rfl, hT, rfl, hu, hz⟩ k hk
      obtain rfl := rep_get hy
      have s2 : Same H1 (upd H1 Tp (.tup [u, z])) := Same.new hT
      refine ⟨Tp, [u, z], rfl, SqT.of upd_same, rfl, u, [z], rfl, z, [], rfl, rfl, rfl, ?_⟩
      exact ⟨_, rfl, _, rfl, n, u, z, rfl, by omega, (he j u z hu hz).same (s1.trans s2), fun H4 s4 => hk H4 (s2.trans s4)⟩
    · intro H' s1 hD'
      refine ⟨D, List.replicate xs.length true, rfl, SqL.of (by rw [hD', List.map_replicate]), ?_⟩
      rw [all_rep]
      exact q H' s1
theorem ok_sameX (T : Tx K mg) : ∀ m : Nat, FnOk P w K mg base CX0 (m + 1) T.f_l_same T.d_l_same ["_law_found", "_law_due_here"] (spSameX K (esT T) m)
  | 0 => by
    have no : ∀ vs H Q E, ¬ spSameX K (esT T) 0 vs H Q E := fun vs H Q E h => by
      obtain ⟨n, x, y, _, h1, _⟩ := h
      omega
    exact ⟨fun vs H Q E h => absurd h (no vs H Q E), fun A outer s H args us vs Q E _ _ _ _ h => absurd h (no vs H Q E)⟩
  | m + 1 => ok_sameX_step T (ok_sameX T m)
end
end TL
namespace TL
open PySem PySem.Spec PyProof.Rows L2
/-! ### a walk over a list or a tuple, whichever it is -/
end TL
namespace TL
open PySem L2

/-! ### steps of a reading -/
local macro_rules | `(tactic| walk_at "hp") => `(tactic| first | assumption | exact upd_same | (refine (upd_ne (by first | assumption | (exact Ne.symm (by assumption)))).trans ?_; walk_at "hp"))
local macro_rules | `(tactic| walk_at "ok") => `(tactic| first | (exact Or.inr ⟨by decide, by decide⟩) | (exact ⟨by decide, by decide⟩) | (exact ⟨by decide, by decide, by decide⟩) | (show _ ≠ _; omega) | (show _ ≠ _; decide) | (exact Or.inl ⟨by omega, by omega⟩) | decide)
local macro_rules | `(tactic| walk_at "sq") => `(tactic| first | assumption | exact SqL.of (by walk_at "hp") | exact SqT.of (by walk_at "hp"))
local macro_rules | `(tactic| walk_at "ty") => `(tactic| first | refine ⟨_, _, Value.type "int", Value.type "list", false, rfl, ClsV.ty _, TyX.base (TyOf.int _), kt_int_list, ?_⟩ | refine ⟨_, _, Value.type "bool", Value.type "list", false, rfl, ClsV.ty _, TyX.base (TyOf.bl _), kt_bool_list, ?_⟩ | refine ⟨_, _, Value.type "str", Value.type "list", false, rfl, ClsV.ty _, TyX.base (TyOf.str _), kt_str_list, ?_⟩ | refine ⟨_, _, Value.type "NoneType", Value.type "list", false, rfl, ClsV.ty _, TyX.base TyOf.non, kt_NoneType_list, ?_⟩ | refine ⟨_, _, Value.type "list", Value.type "list", true, rfl, ClsV.ty _, tyx_L (by walk_at "sq"), kt_list_list, ?_⟩ | refine ⟨_, _, Value.type "tuple", Value.type "list", false, rfl, ClsV.ty _, tyx_T (by walk_at "sq"), kt_tuple_list, ?_⟩ | refine ⟨_, _, Value.type "int", Value.type "tuple", false, rfl, ClsV.ty _, TyX.base (TyOf.int _), kt_int_tuple, ?_⟩ | refine ⟨_, _, Value.type "bool", Value.type "tuple", false, rfl, ClsV.ty _, TyX.base (TyOf.bl _), kt_bool_tuple, ?_⟩ | refine ⟨_, _, Value.type "str", Value.type "tuple", false, rfl, ClsV.ty _, TyX.base (TyOf.str _), kt_str_tuple, ?_⟩ | refine ⟨_, _, Value.type "NoneType", Value.type "tuple", false, rfl, ClsV.ty _, TyX.base TyOf.non, kt_NoneType_tuple, ?_⟩ | refine ⟨_, _, Value.type "list", Value.type "tuple", false, rfl, ClsV.ty _, tyx_L (by walk_at "sq"), kt_list_tuple, ?_⟩ | refine ⟨_, _, Value.type "tuple", Value.type "tuple", true, rfl, ClsV.ty _, tyx_T (by walk_at "sq"), kt_tuple_tuple, ?_⟩ | refine ⟨_, _, Value.type "int", Value.type "bool", false, rfl, ClsV.ty _, TyX.base (TyOf.int _), kt_int_bool, ?_⟩ | refine ⟨_, _, Value.type "bool", Value.type "bool", true, rfl, ClsV.ty _, TyX.base (TyOf.bl _), kt_bool_bool, ?_⟩ | refine ⟨_, _, Value.type "str", Value.type "bool", false, rfl, ClsV.ty _, TyX.base (TyOf.str _), kt_str_bool, ?_⟩ | refine ⟨_, _, Value.type "NoneType", Value.type "bool", false, rfl, ClsV.ty _, TyX.base TyOf.non, kt_NoneType_bool, ?_⟩ | refine ⟨_, _, Value.type "list", Value.type "bool", false, rfl, ClsV.ty _, tyx_L (by walk_at "sq"), kt_list_bool, ?_⟩ | refine ⟨_, _, Value.type "tuple", Value.type "bool", false, rfl, ClsV.ty _, tyx_T (by walk_at "sq"), kt_tuple_bool, ?_⟩ | refine ⟨_, _, Value.type "int", Value.type "int", true, rfl, ClsV.ty _, TyX.base (TyOf.int _), kt_int_int, ?_⟩ | refine ⟨_, _, Value.type "bool", Value.type "int", true, rfl, ClsV.ty _, TyX.base (TyOf.bl _), kt_bool_int, ?_⟩ | refine ⟨_, _, Value.type "str", Value.type "int", false, rfl, ClsV.ty _, TyX.base (TyOf.str _), kt_str_int, ?_⟩ | refine ⟨_, _, Value.type "NoneType", Value.type "int", false, rfl, ClsV.ty _, TyX.base TyOf.non, kt_NoneType_int, ?_⟩ | refine ⟨_, _, Value.type "list", Value.type "int", false, rfl, ClsV.ty _, tyx_L (by walk_at "sq"), kt_list_int, ?_⟩ | refine ⟨_, _, Value.type "tuple", Value.type "int", false, rfl, ClsV.ty _, tyx_T (by walk_at "sq"), kt_tuple_int, ?_⟩ | refine ⟨_, _, Value.type "int", Value.type "str", false, rfl, ClsV.ty _, TyX.base (TyOf.int _), kt_int_str, ?_⟩ | refine ⟨_, _, Value.type "bool", Value.type "str", false, rfl, ClsV.ty _, TyX.base (TyOf.bl _), kt_bool_str, ?_⟩ | refine ⟨_, _, Value.type "str", Value.type "str", true, rfl, ClsV.ty _, TyX.base (TyOf.str _), kt_str_str, ?_⟩ | refine ⟨_, _, Value.type "NoneType", Value.type "str", false, rfl, ClsV.ty _, TyX.base TyOf.non, kt_NoneType_str, ?_⟩ | refine ⟨_, _, Value.type "list", Value.type "str", false, rfl, ClsV.ty _, tyx_L (by walk_at "sq"), kt_list_str, ?_⟩ | refine ⟨_, _, Value.type "tuple", Value.type "str", false, rfl, ClsV.ty _, tyx_T (by walk_at "sq"), kt_tuple_str, ?_⟩)
local macro_rules | `(tactic| walk_at "go1") => `(tactic| first
  | (refine ⟨_, rfl, ?_⟩)
  | (refine ⟨_, _, rfl, rfl, ?_⟩)
  | (refine ⟨_, _, _, _, rfl, rfl, SqL.of (by walk_at "hp"), rfl, ?_⟩)
  | (refine Or.inl ⟨_, rfl, ?_⟩)
  | (refine ⟨rfl, ?_⟩)
  | (refine ⟨_, _, rfl, .inl (SqL.of (by walk_at "hp")), ?_⟩)
  | (refine ⟨_, _, rfl, Or.inl (by assumption), ?_⟩)
  | (refine ⟨_, _, rfl, Or.inr (by assumption), ?_⟩)
  | (refine ⟨(by walk_at "ok"), ?_⟩)
  | (refine ⟨_, _, _, _, rfl, rfl, (by walk_at "hp"), rfl, ?_⟩))
local macro_rules | `(tactic| walk_at "go") => `(tactic| repeat (walk_at "go1"))
local macro_rules | `(tactic| walk_at "gt") => `(tactic| repeat (first | walk_at "go1" | walk_at "ty"))

section
variable {P : Program} {w : World} {K : PySem.W.Frag} {mg : Str → Option Value} {base : Heap}
/-- a value known through and through: numbers, truths, texts, None, lists and tuples, errors of some classes -/
inductive Dw (K : PySem.W.Frag) (Es : List Addr) (g : Addr) (H : Hp) : Nat → V → Prop
  | i {m : Nat} (n : Int) : Dw K Es g H m (.int n)
  | b {m : Nat} (x : Bool) : Dw K Es g H m (.bl x)
  | s {m : Nat} (x : Str) : Dw K Es g H m (.str x)
  | n {m : Nat} : Dw K Es g H m .non
  | l {m : Nat} {a : Addr} {xs : List V} (h : H a = some (.lst xs)) (ne : a ≠ g) (hz : xs.length ≤ 1000) (hx : ∀ x ∈ xs, Dw K Es g H m x) : Dw K Es g H (m + 1) (.ref a)
  | t {m : Nat} {a : Addr} {xs : List V} (h : SqT K H a xs) (hz : xs.length ≤ 1000) (hx : ∀ x ∈ xs, Dw K Es g H m x) : Dw K Es g H (m + 1) (.ref a)
  | x {m : Nat} {a C : Addr} (hC : C ∈ Es) (h : XAt H a C) : Dw K Es g H m (.ref a)
section
variable {Es : List Addr} {g : Addr} {H H' : Hp} {v : V} {m n : Nat}
theorem Dw.same (h : Dw K Es g H m v) (s : Same H H') : Dw K Es g H' m v := by
  induction h with
  | i n => exact .i n
  | b x => exact .b x
  | s x => exact .s x
  | n => exact .n
  | l h ne hz _ ih => exact .l (s _ _ h) ne hz ih
  | t h hz _ ih => exact .t (seqT s h) hz ih
  | x hC h => exact .x hC (h.same s)
theorem Dw.kb {B : Bg} (h : Dw K Es B.b H m v) (hB : Bag B H) (s : Kb B.b H H') : Dw K Es B.b H' m v := by
  obtain ⟨i, r, z, c, e, _⟩ := id hB.ex
  induction h with
  | i n => exact .i n
  | b x => exact .b x
  | s x => exact .s x
  | n => exact .n
  | l h ne hz _ ih => exact .l (s _ _ h ne) ne hz ih
  | t h hz _ ih => exact .t (seqT_kb e s h) hz ih
  | x hC h => exact .x hC (h.kb e s)
theorem Dw.up (h : Dw K Es g H m v) (l : m ≤ n) : Dw K Es g H n v := by
  induction h generalizing n with
  | i k => exact .i k
  | b x => exact .b x
  | s x => exact .s x
  | n => exact .n
  | l h ne hz _ ih => exact match n, l with
    | n + 1, l => .l h ne hz fun x hx => ih x hx (by omega)
  | t h hz _ ih => exact match n, l with
    | n + 1, l => .t h hz fun x hx => ih x hx (by omega)
  | x hC h => exact .x hC h
theorem Dw.self (h : Dw K Es g H m v) : DXE K Es H m v v := by
  induction h with
  | i n => exact .int n
  | b x => exact .bl x
  | s x => exact .str x
  | n => exact .non
  | l h ne hz _ ih =>
    refine .lst (SqL.of h) (SqL.of h) (by omega) rfl fun i x y h1 h2 => ?_
    rw [h1] at h2
    cases h2
    exact ih x (List.mem_of_getElem? h1)
  | t h hz _ ih =>
    refine .tup h h (by omega) rfl fun i x y h1 h2 => ?_
    rw [h1] at h2
    cases h2
    exact ih x (List.mem_of_getElem? h1)
  | x hC h => exact .err hC h
def Dr (K : PySem.W.Frag) (Es : List Addr) (g : Addr) (m : Nat) : Hp → V → Prop := fun H v => Dw K Es g H m v
theorem Dr.mono : Mono (Dr K Es g m) := fun _ _ _ s h => Dw.same h s
variable {σ : L2.St} {te : TE} {ta : TA} {C : Addr} {code f : String}
theorem evh1 (h : Ev te σ H (Dr K Es g m)) : EvH (tCons te tNil) σ H 1 (Dr K Es g m) := evh_cons Dr.mono h evh_nil
theorem evd_lst (h : EvH ta σ H n (Dr K Es g m)) (hg : ∃ xs, H g = some (.lst xs)) (hz : n ≤ 1000) : Ev (tLst ta) σ H (Dr K Es g (m + 1)) := fun H1 s1 Q q =>
  h H1 s1 _ fun vs H2 s2 hl hvs => ⟨by rw [hl]; exact Nat.le_of_lt (Nat.lt_of_le_of_lt hz (by decide)), fun p hp => by
    obtain ⟨xs, e⟩ := hg
    have s3 := Same.new (o := .lst vs) hp
    exact q _ _ (s2.trans s3) (.l upd_same (fun z => by rw [z, (s1.trans s2) _ _ e] at hp; cases hp) (by omega) fun x hx => (hvs x hx).same s3)⟩
theorem evd_tup (h : EvH ta σ H n (Dr K Es g m)) (hz : n ≤ 1000) : Ev (tTup ta) σ H (Dr K Es g (m + 1)) := fun H1 s1 Q q =>
  h H1 s1 _ fun vs H2 s2 hl hvs => ⟨by rw [hl]; exact Nat.le_of_lt (Nat.lt_of_le_of_lt hz (by decide)), fun p hp => by
    have s3 := Same.new (o := .tup vs) hp
    exact q _ _ (s2.trans s3) (.t (SqT.of upd_same) (by omega) fun x hx => (hvs x hx).same s3)⟩
theorem evd_er {C : Addr} {sp : Sp} {gV : List V → List V → List V} {tk : TA} {fs : List (Str × V)} (h : Ev (tEr C sp gV ta tk) σ H (ErR C fs)) (hC : C ∈ Es) : Ev (tEr C sp gV ta tk) σ H (Dr K Es g m) := fun H1 s1 Q q =>
  h H1 s1 Q fun v H2 s2 ⟨a, d, e, h1, h2⟩ => q v H2 s2 (by rw [e]; exact .x hC ⟨d, fs, h1, h2⟩)
theorem evd_i (i : Int) : Ev (tC (.int i)) σ H (Dr K Es g m) := ev_c fun _ _ => .i i
theorem evd_b (x : Bool) : Ev (tC (.bl x)) σ H (Dr K Es g m) := ev_c fun _ _ => .b x
theorem evd_s (x : Str) : Ev (tC (.str x)) σ H (Dr K Es g m) := ev_c fun _ _ => .s x
theorem evd_n : Ev (tC .non) σ H (Dr K Es g m) := ev_c fun _ _ => .n
/-- a list of such values -/
def LsD (K : PySem.W.Frag) (Es : List Addr) (g : Addr) (m n : Nat) : Hp → V → Prop := fun H v => ∃ p xs, v = .ref p ∧ H p = some (.lst xs) ∧ p ≠ g ∧ xs.length = n ∧ ∀ x ∈ xs, Dw K Es g H m x
theorem evl_lst (h : EvH ta σ H n (Dr K Es g m)) (hg : ∃ xs, H g = some (.lst xs)) (hz : n ≤ 1000) : Ev (tLst ta) σ H (LsD K Es g m n) := fun H1 s1 Q q =>
  h H1 s1 _ fun vs H2 s2 hl hvs => ⟨by rw [hl]; exact Nat.le_of_lt (Nat.lt_of_le_of_lt hz (by decide)), fun p hp => by
    obtain ⟨xs, e⟩ := hg
    have s3 := Same.new (o := .lst vs) hp
    exact q _ _ (s2.trans s3) ⟨p, vs, rfl, upd_same, (fun z => by rw [z, (s1.trans s2) _ _ e] at hp; cases hp), hl, fun x hx => (hvs x hx).same s3⟩⟩
theorem evd_negpow {i j : Int} (c : CPow i j) : Ev (tUn (rU fun i => V.int (-i)) (tOp (rI CPow fun i j => .int (i ^ j.toNat)) (tC (.int i)) (tC (.int j)))) σ H (Dr K Es g m) := fun H1 _ Q q => ⟨i, j, rfl, rfl, c, _, rfl, q _ H1 (Same.refl _) (.i _)⟩
theorem ev_prime (hC : C ∈ Es) : Ev (tEr C (spEr C code [f]) (fun vs _ => vs) (tCons (tC v) tNil) tNil) σ H (Dr K Es g m) := evd_er (fs := erFs code [f] [v]) (ev_er rfl (by simp) fun H1 _ Q q => q [v] [] H1 (Same.refl _) (by simp) fun _ => rfl) hC
theorem evd_neg (i : Int) : Ev (tUn (rU fun i => V.int (-i)) (tC (.int i))) σ H (Dr K Es g m) := ev_neg fun _ => .i _
end
-- [0=_law_bag_here, 1=_law_things]
def spThing (K : PySem.W.Frag) (Es : List Addr) : Sp := fun vs H Q _ => ∃ (B : Bg), vs = [.ref B.b] ∧ Bag B H ∧ ∀ v H', Bag B H' → Kb B.b H H' → Dw K Es B.b H' 3 v → Q v H'
theorem ok_thing (T : Tx K mg) : FnOk P w K mg base CX0 4 T.f_l_thing T.d_l_thing ["_law_bag_here"] (spThing K (esT T)) := by
  have G_l_draw := ok_draw (P := P) (w := w) (base := base) T
  have G_l_of := ok_of (P := P) (w := w) (base := base) T
  have G_BadTop_init := ok_BadTop (P := P) (w := w) (base := base) T
  have G_NoPrime_init := ok_NoPrime (P := P) (w := w) (base := base) T
  refine T.F_l_thing.ok sc_l_thing (fun vs H Q E h => ?_) (fun cdv A outer s H vs Q E hr h => ?_)
  · obtain ⟨B, rfl, _⟩ := h
    rfl
  obtain ⟨B, rfl, hB, q⟩ := h
  have nd := sc_l_thing.nd
  refine ⟨_, (pss_cons (ps_set (i := 1) nd rfl (Or.inl rfl) (pe_lst (pa_cons pe_non (pa_cons pe_bl (pa_cons pe_bl (pa_cons pe_int (pa_cons (pe_un un_neg pe_int) (pa_cons pe_int (pa_cons pe_int (pa_cons pe_str (pa_cons pe_str (pa_cons pe_str (pa_cons (pe_tup (pa_cons pe_str (pa_cons pe_int pa_nil))) (pa_cons (pe_lst (pa_cons pe_int (pa_cons (pe_lst (pa_cons pe_str pa_nil)) pa_nil))) (pa_cons (pe_tup pa_nil) (pa_cons (pe_lst pa_nil) (pa_cons (pe_er0 T.x_BadTop T.iC_BadTop T.tI_BadTop G_BadTop_init (hr.mono (by decide)) pass0 (by rfl) T.g_BadTop T.b_BadTop_init) (pa_cons (pe_erA T.x_NoPrime T.iC_NoPrime T.tI_NoPrime G_NoPrime_init (hr.mono (by decide)) pass0 (by rfl) T.g_NoPrime T.b_NoPrime_init (pa_cons pe_int pa_nil)) pa_nil))))))))))))))))))
    (pss_one (ps_ret (pe_call G_l_of (hr.mono (by decide)) (by rfl) T.m_l_of T.F_l_of.kp T.b_l_of .nil pass0 (pa_cons (pv 0) (pa_cons (pe_op op_cat (pv 1) (pe_lst (pa_cons (pe_call G_l_draw (hr.mono (by decide)) (by rfl) T.m_l_draw T.F_l_draw.kp T.b_l_draw .nil pass0 (pa_cons (pv 0) (pa_cons (pe_op op_pow pe_int pe_int) pa_nil))) (pa_cons (pe_un un_neg (pe_op op_pow pe_int pe_int)) (pa_cons (pe_tup (pa_cons pe_str (pa_cons (pe_lst (pa_cons pe_non (pa_cons (pe_tup (pa_cons pe_int (pa_cons pe_bl pa_nil))) pa_nil))) pa_nil))) pa_nil))))) pa_nil)))))), ?_⟩
  have hg : ∃ xs, H B.b = some (.lst xs) := by
    obtain ⟨i, r, z, c, e, _⟩ := hB.ex
    exact ⟨_, e⟩
  refine asg_ev (R := LsD K (esT T) B.b 3 16) (evl_lst (evh_cons Dr.mono evd_n <| evh_cons Dr.mono (evd_b _) <| evh_cons Dr.mono (evd_b _) <| evh_cons Dr.mono (evd_i _) <| evh_cons Dr.mono (evd_neg _) <| evh_cons Dr.mono (evd_i _) <| evh_cons Dr.mono (evd_i _) <| evh_cons Dr.mono (evd_s _) <| evh_cons Dr.mono (evd_s _) <| evh_cons Dr.mono (evd_s _) <|
    evh_cons Dr.mono (evd_tup (evh_cons Dr.mono (evd_s _) (evh1 (evd_i _))) (by decide)) <| evh_cons Dr.mono (evd_lst (evh_cons Dr.mono (evd_i _) (evh1 (evd_lst (evh1 (evd_s _)) hg (by decide)))) hg (by decide)) <| evh_cons Dr.mono (evd_tup evh_nil (by decide)) <| evh_cons Dr.mono (evd_lst evh_nil hg (by decide)) <|
    evh_cons Dr.mono (evd_er ev_er0 (by simp [esT])) <| evh1 (ev_prime (by simp [esT]))) hg (by decide)) ?_
  rintro _ H1 s1 ⟨p, xs, rfl, hp, ne, hl, hx⟩
  have hB1 := hB.same s1
  refine ⟨_, rfl, _, rfl, _, rfl, _, _, rfl, rfl, (by walk_at "ok"), B, _, rfl, by decide, by decide, hB1, fun d H2 d0 d1 hB2 kb => ?_⟩
  have hg2 : ∃ xs, H2 B.b = some (.lst xs) := by
    obtain ⟨i, r, z, c, e, _⟩ := hB2.ex
    exact ⟨_, e⟩
  refine (evh_cons Dr.mono (evd_negpow ⟨by decide, by decide, by decide⟩) (evh1 (evd_tup (evh_cons Dr.mono (evd_s _) (evh1 (evd_lst (evh_cons Dr.mono evd_n (evh1 (evd_tup (evh_cons Dr.mono (evd_i _) (evh1 (evd_b _))) (by decide)))) hg2 (by decide)))) (by decide))) : EvH _ _ H2 2 (Dr K (esT T) B.b 3)) H2 (Same.refl _) _ fun vs H3 s3 hl2 hvs => ?_
  refine ⟨by show (V.int d :: vs).length ≤ sizeLine; rw [List.length_cons, hl2]; decide, fun p2 hp2 => ?_⟩
  have s4 := Same.new (o := .lst (V.int d :: vs)) hp2
  have hp' := s4 _ _ (s3 _ _ (kb _ _ hp ne))
  refine ⟨p, p2, xs, V.int d :: vs, rfl, rfl, hp', upd_same, by simp only [List.length_append, List.length_cons, hl, hl2]; decide, fun p3 hp3 => ?_⟩
  have s5 := Same.new (o := .lst (xs ++ V.int d :: vs)) hp3
  have hB5 := ((hB2.same s3).same s4).same s5
  have e5 : (upd (upd H3 p2 (.lst (V.int d :: vs))) p3 (.lst (xs ++ V.int d :: vs))) p3 = some (.lst (xs ++ V.int d :: vs)) := upd_same
  have n5 : p3 ≠ B.b := fun z => by
    obtain ⟨ys, e⟩ := hg2
    rw [z, s4 _ _ (s3 _ _ e)] at hp3
    cases hp3
  refine ⟨B, p3, _, rfl, SqL.of e5, n5, by simp only [List.length_append, List.length_cons]; omega, by simp [hl, hl2], hB5, fun j v H6 hv hB6 kb6 => ?_⟩
  refine q v H6 hB6 (fun b o e n => kb6 _ _ (s5 _ _ (s4 _ _ (s3 _ _ (kb _ _ (s1 _ _ e) n)))) n) ?_
  have hm := List.mem_of_getElem? hv
  rcases List.mem_append.mp hm with hm | hm
  · exact (((((hx v hm).kb hB1 kb).same s3).same s4).same s5).kb hB5 kb6
  · rcases List.mem_cons.mp hm with rfl | hm
    · exact .i d
    · exact (((hvs v hm).same s4).same s5).kb hB5 kb6
end
end TL
namespace TL
open PySem L2

/-! ### steps of a reading -/
local macro_rules | `(tactic| walk_at "hp") => `(tactic| first | assumption | exact upd_same | (refine (upd_ne (by first | assumption | (exact Ne.symm (by assumption)))).trans ?_; walk_at "hp"))
local macro_rules | `(tactic| walk_at "ok") => `(tactic| first | (exact Or.inr ⟨by decide, by decide⟩) | (exact ⟨by decide, by decide⟩) | (exact ⟨by decide, by decide, by decide⟩) | (show _ ≠ _; omega) | (show _ ≠ _; decide) | (exact Or.inl ⟨by omega, by omega⟩) | decide)
local macro_rules | `(tactic| walk_at "sq") => `(tactic| first | assumption | exact SqL.of (by walk_at "hp") | exact SqT.of (by walk_at "hp"))
local macro_rules | `(tactic| walk_at "ty") => `(tactic| first | refine ⟨_, _, Value.type "int", Value.type "list", false, rfl, ClsV.ty _, TyX.base (TyOf.int _), kt_int_list, ?_⟩ | refine ⟨_, _, Value.type "bool", Value.type "list", false, rfl, ClsV.ty _, TyX.base (TyOf.bl _), kt_bool_list, ?_⟩ | refine ⟨_, _, Value.type "str", Value.type "list", false, rfl, ClsV.ty _, TyX.base (TyOf.str _), kt_str_list, ?_⟩ | refine ⟨_, _, Value.type "NoneType", Value.type "list", false, rfl, ClsV.ty _, TyX.base TyOf.non, kt_NoneType_list, ?_⟩ | refine ⟨_, _, Value.type "list", Value.type "list", true, rfl, ClsV.ty _, tyx_L (by walk_at "sq"), kt_list_list, ?_⟩ | refine ⟨_, _, Value.type "tuple", Value.type "list", false, rfl, ClsV.ty _, tyx_T (by walk_at "sq"), kt_tuple_list, ?_⟩ | refine ⟨_, _, Value.type "int", Value.type "tuple", false, rfl, ClsV.ty _, TyX.base (TyOf.int _), kt_int_tuple, ?_⟩ | refine ⟨_, _, Value.type "bool", Value.type "tuple", false, rfl, ClsV.ty _, TyX.base (TyOf.bl _), kt_bool_tuple, ?_⟩ | refine ⟨_, _, Value.type "str", Value.type "tuple", false, rfl, ClsV.ty _, TyX.base (TyOf.str _), kt_str_tuple, ?_⟩ | refine ⟨_, _, Value.type "NoneType", Value.type "tuple", false, rfl, ClsV.ty _, TyX.base TyOf.non, kt_NoneType_tuple, ?_⟩ | refine ⟨_, _, Value.type "list", Value.type "tuple", false, rfl, ClsV.ty _, tyx_L (by walk_at "sq"), kt_list_tuple, ?_⟩ | refine ⟨_, _, Value.type "tuple", Value.type "tuple", true, rfl, ClsV.ty _, tyx_T (by walk_at "sq"), kt_tuple_tuple, ?_⟩ | refine ⟨_, _, Value.type "int", Value.type "bool", false, rfl, ClsV.ty _, TyX.base (TyOf.int _), kt_int_bool, ?_⟩ | refine ⟨_, _, Value.type "bool", Value.type "bool", true, rfl, ClsV.ty _, TyX.base (TyOf.bl _), kt_bool_bool, ?_⟩ | refine ⟨_, _, Value.type "str", Value.type "bool", false, rfl, ClsV.ty _, TyX.base (TyOf.str _), kt_str_bool, ?_⟩ | refine ⟨_, _, Value.type "NoneType", Value.type "bool", false, rfl, ClsV.ty _, TyX.base TyOf.non, kt_NoneType_bool, ?_⟩ | refine ⟨_, _, Value.type "list", Value.type "bool", false, rfl, ClsV.ty _, tyx_L (by walk_at "sq"), kt_list_bool, ?_⟩ | refine ⟨_, _, Value.type "tuple", Value.type "bool", false, rfl, ClsV.ty _, tyx_T (by walk_at "sq"), kt_tuple_bool, ?_⟩ | refine ⟨_, _, Value.type "int", Value.type "int", true, rfl, ClsV.ty _, TyX.base (TyOf.int _), kt_int_int, ?_⟩ | refine ⟨_, _, Value.type "bool", Value.type "int", true, rfl, ClsV.ty _, TyX.base (TyOf.bl _), kt_bool_int, ?_⟩ | refine ⟨_, _, Value.type "str", Value.type "int", false, rfl, ClsV.ty _, TyX.base (TyOf.str _), kt_str_int, ?_⟩ | refine ⟨_, _, Value.type "NoneType", Value.type "int", false, rfl, ClsV.ty _, TyX.base TyOf.non, kt_NoneType_int, ?_⟩ | refine ⟨_, _, Value.type "list", Value.type "int", false, rfl, ClsV.ty _, tyx_L (by walk_at "sq"), kt_list_int, ?_⟩ | refine ⟨_, _, Value.type "tuple", Value.type "int", false, rfl, ClsV.ty _, tyx_T (by walk_at "sq"), kt_tuple_int, ?_⟩ | refine ⟨_, _, Value.type "int", Value.type "str", false, rfl, ClsV.ty _, TyX.base (TyOf.int _), kt_int_str, ?_⟩ | refine ⟨_, _, Value.type "bool", Value.type "str", false, rfl, ClsV.ty _, TyX.base (TyOf.bl _), kt_bool_str, ?_⟩ | refine ⟨_, _, Value.type "str", Value.type "str", true, rfl, ClsV.ty _, TyX.base (TyOf.str _), kt_str_str, ?_⟩ | refine ⟨_, _, Value.type "NoneType", Value.type "str", false, rfl, ClsV.ty _, TyX.base TyOf.non, kt_NoneType_str, ?_⟩ | refine ⟨_, _, Value.type "list", Value.type "str", false, rfl, ClsV.ty _, tyx_L (by walk_at "sq"), kt_list_str, ?_⟩ | refine ⟨_, _, Value.type "tuple", Value.type "str", false, rfl, ClsV.ty _, tyx_T (by walk_at "sq"), kt_tuple_str, ?_⟩)
local macro_rules | `(tactic| walk_at "go1") => `(tactic| first
  | (refine ⟨_, rfl, ?_⟩)
  | (refine ⟨_, _, rfl, rfl, ?_⟩)
  | (refine ⟨_, _, _, _, rfl, rfl, SqL.of (by walk_at "hp"), rfl, ?_⟩)
  | (refine Or.inl ⟨_, rfl, ?_⟩)
  | (refine ⟨rfl, ?_⟩)
  | (refine ⟨_, _, rfl, .inl (SqL.of (by walk_at "hp")), ?_⟩)
  | (refine ⟨_, _, rfl, Or.inl (by assumption), ?_⟩)
  | (refine ⟨_, _, rfl, Or.inr (by assumption), ?_⟩)
  | (refine ⟨(by walk_at "ok"), ?_⟩)
  | (refine ⟨_, _, _, _, rfl, rfl, (by walk_at "hp"), rfl, ?_⟩))
local macro_rules | `(tactic| walk_at "go") => `(tactic| repeat (walk_at "go1"))
local macro_rules | `(tactic| walk_at "gt") => `(tactic| repeat (first | walk_at "go1" | walk_at "ty"))

section
variable {P : Program} {w : World} {K : PySem.W.Frag} {mg : Str → Option Value} {base : Heap}
-- [0=_law_fault]
/-- what reads as a value wherever it stands -/
def Rd (te : TE) (σ : L2.St) (H : Hp) (v : V) : Prop := ∀ H1, Same H H1 → ∀ Q : VK, Q v H1 → te σ H1 Q
theorem Rd.same {te : TE} {σ : L2.St} {H H' : Hp} {v : V} (h : Rd te σ H v) (s : Same H H') : Rd te σ H' v := fun H1 s1 Q q => h H1 (s.trans s1) Q q
section
variable {σ : L2.St} {D : Ends} {H : Hp} {t1 : TE} {ta : TA} {L : List V} {c d : Str} {tr rest : TS} {α : Type} {xs ys fs : α}
theorem seq_in (h : (if inV (.str c) L then xs else ys) = fs) (hc : Rd t1 σ H (.str c)) (hL : L.length ≤ sizeLine) (hf : L.all flatV = true) (yes : xs = fs → ∀ H1, Same H H1 → tr { nx := rest D, rt := D.rt, bk := D.bk, ct := D.ct } σ H1) (no : ys = fs → ∀ H1, Same H H1 → rest D σ H1) (hta : ∀ Q : List V → Hp → Prop, Q L H → ta σ H Q := by exact fun _ q => q) :
    tSeq (tIfS (tTest (tOp (rIn K false) t1 (tLst ta))) tr tNext) rest D σ H := by
  refine hc H (Same.refl H) _ (hta _ ⟨hL, fun l hl => ?_⟩)
  have s1 := Same.new (o := .lst L) hl
  refine ⟨l, L, rfl, .inl (SqL.of upd_same), rfl, hf, _, rfl, ?_⟩
  split at h
  · rename_i e
    exact iteT' e (yes h _ s1)
  · rename_i e
    exact iteF' (Bool.eq_false_iff.mpr e) (no h _ s1)
theorem seq_eq (h : (if decide (V.str c = V.str d) then xs else ys) = fs) (hc : Rd t1 σ H (.str c)) (yes : xs = fs → tr { nx := rest D, rt := D.rt, bk := D.bk, ct := D.ct } σ H) (no : ys = fs → rest D σ H) : tSeq (tIfS (tTest (tOp rEq t1 (tC (.str d)))) tr tNext) rest D σ H := by
  refine hc H (Same.refl H) _ ⟨rfl, _, rfl, ?_⟩
  split at h
  · rename_i e
    exact iteT' e (yes h)
  · rename_i e
    exact iteF' (Bool.eq_false_iff.mpr e) (no h)
end
section
variable {σ : L2.St} {D : Ends} {H : Hp} {t1 t2 ta tb : TE} {a b : V} {α : Type} {xs ys fs : α} {c d : Str}
theorem ret_eq (h : (if decide (V.str c = V.str d) then xs else ys) = fs) (hc : Rd t1 σ H (.str c)) (yes : xs = fs → tRet ta D σ H) (no : ys = fs → tRet tb D σ H) : tRet (tIf (tTest (tOp rEq t1 (tC (.str d)))) ta tb) D σ H := by
  refine hc H (Same.refl H) _ ⟨rfl, _, rfl, ?_⟩
  split at h
  · rename_i e
    exact iteT' e (yes h)
  · rename_i e
    exact iteF' (Bool.eq_false_iff.mpr e) (no h)
theorem ret2 (h1 : Rd t1 σ H a) (h2 : Rd t2 σ H b) (q : ∀ t, H t = none → D.rt (.ref t) (upd H t (.tup [a, b]))) : tRet (tTup (tCons t1 (tCons t2 tNil))) D σ H := h1 H (Same.refl H) _ (h2 H (Same.refl H) _ ⟨by show 2 ≤ sizeLine; decide, q⟩)
end
/-- a class of the table -/
structure Ent (T : Tx K mg) (j : Nat) (C : Addr) (code : String) (fs : List String) : Prop where
  c : (erC T)[j]? = some C
  n : ERCODE[j]? = some code
  f : ERF[j]? = some fs
/-- what an error of the table is -/
def ErJ (T : Tx K mg) (j : Nat) (a b : V) : Hp → V → Prop := fun H v => ∃ C code fs, Ent T j C code fs ∧ ErR C (erFs code fs ([a, b].take fs.length)) H v
def strsV (xs : List String) : List V := xs.map fun x => .str (Str.ofString x)
/-- which attributes the law tells of a code -/
def toldOf (c : V) : List String :=
  if inV c (strsV ["BadLength", "BadRow", "OffLine", "BadSwap", "BadDeed"]) then ["at"] else
  if inV c (strsV ["BadName", "BadNumber", "BadLimit", "NoPrime"]) then ["value"] else
  if inV c (strsV ["Double", "OwesMore", "UnknownName"]) then ["name"] else
  if inV c (strsV ["TooMany", "TooLong"]) then ["most"] else
  if inV c (strsV ["NotFair", "NoRoot"]) then ["first", "second"] else
  if decide (c = .str (Str.ofString "Overlap")) then ["one", "other"] else
  if decide (c = .str (Str.ofString "BadLine")) then ["line"] else
  if decide (c = .str (Str.ofString "NotFilled")) then ["missing"] else
  if decide (c = .str (Str.ofString "Unlike")) then ["colour"] else
  if decide (c = .str (Str.ofString "NotOnLine")) then ["tone"] else
  if decide (c = .str (Str.ofString "Odd")) then ["prime"] else
  if decide (c = .str (Str.ofString "Unfit")) then ["counts"] else
  if decide (c = .str (Str.ofString "Unmade")) then ["reading"] else []
theorem told_tab : ((ERCODE.zip ERF).all fun p => decide (toldOf (.str (Str.ofString p.1)) = p.2)) = true := by decide +kernel
theorem told_ent {T : Tx K mg} {j : Nat} {C : Addr} {code : String} {fs : List String} (e : Ent T j C code fs) : toldOf (.str (Str.ofString code)) = fs := by
  have h := List.all_eq_true.mp told_tab (code, fs) (List.mem_of_getElem? (i := j) (by rw [List.getElem?_zip_eq_some]; exact ⟨e.n, e.f⟩))
  exact of_decide_eq_true h
def spTold (T : Tx K mg) : Sp := fun vs H Q _ => ∃ (v a b : V) (j : Nat), vs = [v] ∧ ErJ T j a b H v ∧ ∀ t H' fs, ERF[j]? = some fs → Same H H' → H t = none → H' t = some (.tup ([a, b].take fs.length)) → Q (.ref t) H'
theorem ok_told (T : Tx K mg) : FnOk P w K mg base CX0 1 T.f_l_told T.d_l_told ["_law_fault"] (spTold T) := by
  refine T.F_l_told.ok sc_l_told (fun vs H Q E h => ?_) (fun cdv A outer s H vs Q E hr h => ?_)
  · obtain ⟨v, a, b, j, rfl, _⟩ := h
    rfl
  obtain ⟨v, va, vb, j, rfl, ⟨C, code, fs, en, a, d, rfl, ha, hd⟩, q⟩ := h
  have nd := sc_l_told.nd
  refine ⟨_, (pss_cons (ps_if (pt_cmpR (show OpR _ _ (rIn K false) from op_in_seq) (pe_xv (pv 0)) (pe_lst (pa_cons pe_str (pa_cons pe_str (pa_cons pe_str (pa_cons pe_str (pa_cons pe_str pa_nil)))))) rfl) (pss_one (ps_ret (pe_tup (pa_cons (pe_xv (pv 0)) pa_nil)))) pss_nil)
    (pss_cons (ps_if (pt_cmpR (show OpR _ _ (rIn K false) from op_in_seq) (pe_xv (pv 0)) (pe_lst (pa_cons pe_str (pa_cons pe_str (pa_cons pe_str (pa_cons pe_str pa_nil))))) rfl) (pss_one (ps_ret (pe_tup (pa_cons (pe_xv (pv 0)) pa_nil)))) pss_nil)
    (pss_cons (ps_if (pt_cmpR (show OpR _ _ (rIn K false) from op_in_seq) (pe_xv (pv 0)) (pe_lst (pa_cons pe_str (pa_cons pe_str (pa_cons pe_str pa_nil)))) rfl) (pss_one (ps_ret (pe_tup (pa_cons (pe_xv (pv 0)) pa_nil)))) pss_nil)
    (pss_cons (ps_if (pt_cmpR (show OpR _ _ (rIn K false) from op_in_seq) (pe_xv (pv 0)) (pe_lst (pa_cons pe_str (pa_cons pe_str pa_nil))) rfl) (pss_one (ps_ret (pe_tup (pa_cons (pe_xv (pv 0)) pa_nil)))) pss_nil)
    (pss_cons (ps_if (pt_cmpR (show OpR _ _ (rIn K false) from op_in_seq) (pe_xv (pv 0)) (pe_lst (pa_cons pe_str (pa_cons pe_str pa_nil))) rfl) (pss_one (ps_ret (pe_tup (pa_cons (pe_xv (pv 0)) (pa_cons (pe_xv (pv 0)) pa_nil))))) pss_nil)
    (pss_cons (ps_if (pt_cmpR op_eq (pe_xv (pv 0)) pe_str (nomark _)) (pss_one (ps_ret (pe_tup (pa_cons (pe_xv (pv 0)) (pa_cons (pe_xv (pv 0)) pa_nil))))) pss_nil)
    (pss_cons (ps_if (pt_cmpR op_eq (pe_xv (pv 0)) pe_str (nomark _)) (pss_one (ps_ret (pe_tup (pa_cons (pe_xv (pv 0)) pa_nil)))) pss_nil)
    (pss_cons (ps_if (pt_cmpR op_eq (pe_xv (pv 0)) pe_str (nomark _)) (pss_one (ps_ret (pe_tup (pa_cons (pe_xv (pv 0)) pa_nil)))) pss_nil)
    (pss_cons (ps_if (pt_cmpR op_eq (pe_xv (pv 0)) pe_str (nomark _)) (pss_one (ps_ret (pe_tup (pa_cons (pe_xv (pv 0)) pa_nil)))) pss_nil)
    (pss_cons (ps_if (pt_cmpR op_eq (pe_xv (pv 0)) pe_str (nomark _)) (pss_one (ps_ret (pe_tup (pa_cons (pe_xv (pv 0)) pa_nil)))) pss_nil)
    (pss_cons (ps_if (pt_cmpR op_eq (pe_xv (pv 0)) pe_str (nomark _)) (pss_one (ps_ret (pe_tup (pa_cons (pe_xv (pv 0)) pa_nil)))) pss_nil)
    (pss_cons (ps_if (pt_cmpR op_eq (pe_xv (pv 0)) pe_str (nomark _)) (pss_one (ps_ret (pe_tup (pa_cons (pe_xv (pv 0)) pa_nil)))) pss_nil)
    (pss_one (ps_ret (pe_ifExp (pt_cmpR op_eq (pe_xv (pv 0)) pe_str (nomark _)) (pe_tup (pa_cons (pe_xv (pv 0)) pa_nil)) (pe_tup pa_nil)))))))))))))))), ?_⟩
  have hst : L2.start N_l_told [.ref a] = [some (.ref a)] := rfl
  rw [hst]
  have ok := er_ok T en.c en.f
  have ht := told_ent en
  have rd : ∀ {H1 : Hp} {f : String} {v : V}, Same H H1 → f ∈ ("code" :: fs) → (erFs code fs ([va, vb].take fs.length)).lookup (Str.ofString f) = some v → Rd (tXv K (tVar 0) (Str.ofString f)) [some (.ref a)] H1 v := fun s1 hf hl H2 s2 Q q => ⟨_, rfl, a, C, d, _, _, rfl, ok.xf, ok.nf _ hf, s2 _ _ (s1 _ _ ha), s2 _ _ (s1 _ _ hd), hl, q⟩
  have rc : ∀ {H1 : Hp}, Same H H1 → Rd (tXv K (tVar 0) (Str.ofString "code")) [some (.ref a)] H1 (.str (Str.ofString code)) := fun s1 => rd s1 (by simp) rfl
  have fin : ∀ {H1 : Hp} {xs : List V}, Same H H1 → xs = [va, vb].take fs.length → ∀ t, H1 t = none → Q (.ref t) (upd H1 t (.tup xs)) := fun s1 e t h1 => q t _ fs en.f (s1.trans (Same.new h1)) (s1.free h1) (by rw [e]; exact upd_same)
  unfold toldOf at ht
  refine seq_in ht (rc (Same.refl H)) (by decide) (by decide) (fun e H1 s1 => ?_) (fun ht H1 s1 => ?_)
  · subst e
    exact rd s1 (by simp) rfl _ (Same.refl _) _ ⟨by show 1 ≤ sizeLine; decide, fin s1 rfl⟩
  refine seq_in ht (rc s1) (by decide) (by decide) (fun e H2 t2 => ?_) (fun ht H2 t2 => ?_)
  · subst e
    exact rd (s1.trans t2) (by simp) rfl _ (Same.refl _) _ ⟨by show 1 ≤ sizeLine; decide, fin (s1.trans t2) rfl⟩
  have s2 := s1.trans t2
  refine seq_in ht (rc s2) (by decide) (by decide) (fun e H3 t3 => ?_) (fun ht H3 t3 => ?_)
  · subst e
    exact rd (s2.trans t3) (by simp) rfl _ (Same.refl _) _ ⟨by show 1 ≤ sizeLine; decide, fin (s2.trans t3) rfl⟩
  have s3 := s2.trans t3
  refine seq_in ht (rc s3) (by decide) (by decide) (fun e H4 t4 => ?_) (fun ht H4 t4 => ?_)
  · subst e
    exact rd (s3.trans t4) (by simp) rfl _ (Same.refl _) _ ⟨by show 1 ≤ sizeLine; decide, fin (s3.trans t4) rfl⟩
  have s4 := s3.trans t4
  refine seq_in ht (rc s4) (by decide) (by decide) (fun e H5 t5 => ?_) (fun ht H5 t5 => ?_)
  · subst e
    exact ret2 (rd (f := "first") (s4.trans t5) (by simp) rfl) (rd (f := "second") (s4.trans t5) (by simp) rfl) (fin (s4.trans t5) rfl)
  have s5 := s4.trans t5
  refine seq_eq ht (rc s5) (fun e => ?_) (fun ht => ?_)
  · subst e
    exact ret2 (rd (f := "one") s5 (by simp) rfl) (rd (f := "other") s5 (by simp) rfl) (fin s5 rfl)
  refine seq_eq ht (rc s5) (fun e => ?_) (fun ht => ?_)
  · subst e
    exact rd s5 (by simp) rfl _ (Same.refl _) _ ⟨by show 1 ≤ sizeLine; decide, fin s5 rfl⟩
  refine seq_eq ht (rc s5) (fun e => ?_) (fun ht => ?_)
  · subst e
    exact rd s5 (by simp) rfl _ (Same.refl _) _ ⟨by show 1 ≤ sizeLine; decide, fin s5 rfl⟩
  refine seq_eq ht (rc s5) (fun e => ?_) (fun ht => ?_)
  · subst e
    exact rd s5 (by simp) rfl _ (Same.refl _) _ ⟨by show 1 ≤ sizeLine; decide, fin s5 rfl⟩
  refine seq_eq ht (rc s5) (fun e => ?_) (fun ht => ?_)
  · subst e
    exact rd s5 (by simp) rfl _ (Same.refl _) _ ⟨by show 1 ≤ sizeLine; decide, fin s5 rfl⟩
  refine seq_eq ht (rc s5) (fun e => ?_) (fun ht => ?_)
  · subst e
    exact rd s5 (by simp) rfl _ (Same.refl _) _ ⟨by show 1 ≤ sizeLine; decide, fin s5 rfl⟩
  refine seq_eq ht (rc s5) (fun e => ?_) (fun ht => ?_)
  · subst e
    exact rd s5 (by simp) rfl _ (Same.refl _) _ ⟨by show 1 ≤ sizeLine; decide, fin s5 rfl⟩
  refine ret_eq ht (rc s5) (fun e => ?_) (fun e => ?_)
  · subst e
    exact rd s5 (by simp) rfl _ (Same.refl _) _ ⟨by show 1 ≤ sizeLine; decide, fin s5 rfl⟩
  · subst e
    exact ⟨by show 0 ≤ sizeLine; decide, fin s5 rfl⟩
end
end TL
namespace TL
open PySem L2

/-! ### steps of a reading -/
local macro_rules | `(tactic| walk_at "hp") => `(tactic| first | assumption | exact upd_same | (refine (upd_ne (by first | assumption | (exact Ne.symm (by assumption)))).trans ?_; walk_at "hp"))
local macro_rules | `(tactic| walk_at "ok") => `(tactic| first | (exact Or.inr ⟨by decide, by decide⟩) | (exact ⟨by decide, by decide⟩) | (exact ⟨by decide, by decide, by decide⟩) | (show _ ≠ _; omega) | (show _ ≠ _; decide) | (exact Or.inl ⟨by omega, by omega⟩) | decide)
local macro_rules | `(tactic| walk_at "sq") => `(tactic| first | assumption | exact SqL.of (by walk_at "hp") | exact SqT.of (by walk_at "hp"))
local macro_rules | `(tactic| walk_at "ty") => `(tactic| first | refine ⟨_, _, Value.type "int", Value.type "list", false, rfl, ClsV.ty _, TyX.base (TyOf.int _), kt_int_list, ?_⟩ | refine ⟨_, _, Value.type "bool", Value.type "list", false, rfl, ClsV.ty _, TyX.base (TyOf.bl _), kt_bool_list, ?_⟩ | refine ⟨_, _, Value.type "str", Value.type "list", false, rfl, ClsV.ty _, TyX.base (TyOf.str _), kt_str_list, ?_⟩ | refine ⟨_, _, Value.type "NoneType", Value.type "list", false, rfl, ClsV.ty _, TyX.base TyOf.non, kt_NoneType_list, ?_⟩ | refine ⟨_, _, Value.type "list", Value.type "list", true, rfl, ClsV.ty _, tyx_L (by walk_at "sq"), kt_list_list, ?_⟩ | refine ⟨_, _, Value.type "tuple", Value.type "list", false, rfl, ClsV.ty _, tyx_T (by walk_at "sq"), kt_tuple_list, ?_⟩ | refine ⟨_, _, Value.type "int", Value.type "tuple", false, rfl, ClsV.ty _, TyX.base (TyOf.int _), kt_int_tuple, ?_⟩ | refine ⟨_, _, Value.type "bool", Value.type "tuple", false, rfl, ClsV.ty _, TyX.base (TyOf.bl _), kt_bool_tuple, ?_⟩ | refine ⟨_, _, Value.type "str", Value.type "tuple", false, rfl, ClsV.ty _, TyX.base (TyOf.str _), kt_str_tuple, ?_⟩ | refine ⟨_, _, Value.type "NoneType", Value.type "tuple", false, rfl, ClsV.ty _, TyX.base TyOf.non, kt_NoneType_tuple, ?_⟩ | refine ⟨_, _, Value.type "list", Value.type "tuple", false, rfl, ClsV.ty _, tyx_L (by walk_at "sq"), kt_list_tuple, ?_⟩ | refine ⟨_, _, Value.type "tuple", Value.type "tuple", true, rfl, ClsV.ty _, tyx_T (by walk_at "sq"), kt_tuple_tuple, ?_⟩ | refine ⟨_, _, Value.type "int", Value.type "bool", false, rfl, ClsV.ty _, TyX.base (TyOf.int _), kt_int_bool, ?_⟩ | refine ⟨_, _, Value.type "bool", Value.type "bool", true, rfl, ClsV.ty _, TyX.base (TyOf.bl _), kt_bool_bool, ?_⟩ | refine ⟨_, _, Value.type "str", Value.type "bool", false, rfl, ClsV.ty _, TyX.base (TyOf.str _), kt_str_bool, ?_⟩ | refine ⟨_, _, Value.type "NoneType", Value.type "bool", false, rfl, ClsV.ty _, TyX.base TyOf.non, kt_NoneType_bool, ?_⟩ | refine ⟨_, _, Value.type "list", Value.type "bool", false, rfl, ClsV.ty _, tyx_L (by walk_at "sq"), kt_list_bool, ?_⟩ | refine ⟨_, _, Value.type "tuple", Value.type "bool", false, rfl, ClsV.ty _, tyx_T (by walk_at "sq"), kt_tuple_bool, ?_⟩ | refine ⟨_, _, Value.type "int", Value.type "int", true, rfl, ClsV.ty _, TyX.base (TyOf.int _), kt_int_int, ?_⟩ | refine ⟨_, _, Value.type "bool", Value.type "int", true, rfl, ClsV.ty _, TyX.base (TyOf.bl _), kt_bool_int, ?_⟩ | refine ⟨_, _, Value.type "str", Value.type "int", false, rfl, ClsV.ty _, TyX.base (TyOf.str _), kt_str_int, ?_⟩ | refine ⟨_, _, Value.type "NoneType", Value.type "int", false, rfl, ClsV.ty _, TyX.base TyOf.non, kt_NoneType_int, ?_⟩ | refine ⟨_, _, Value.type "list", Value.type "int", false, rfl, ClsV.ty _, tyx_L (by walk_at "sq"), kt_list_int, ?_⟩ | refine ⟨_, _, Value.type "tuple", Value.type "int", false, rfl, ClsV.ty _, tyx_T (by walk_at "sq"), kt_tuple_int, ?_⟩ | refine ⟨_, _, Value.type "int", Value.type "str", false, rfl, ClsV.ty _, TyX.base (TyOf.int _), kt_int_str, ?_⟩ | refine ⟨_, _, Value.type "bool", Value.type "str", false, rfl, ClsV.ty _, TyX.base (TyOf.bl _), kt_bool_str, ?_⟩ | refine ⟨_, _, Value.type "str", Value.type "str", true, rfl, ClsV.ty _, TyX.base (TyOf.str _), kt_str_str, ?_⟩ | refine ⟨_, _, Value.type "NoneType", Value.type "str", false, rfl, ClsV.ty _, TyX.base TyOf.non, kt_NoneType_str, ?_⟩ | refine ⟨_, _, Value.type "list", Value.type "str", false, rfl, ClsV.ty _, tyx_L (by walk_at "sq"), kt_list_str, ?_⟩ | refine ⟨_, _, Value.type "tuple", Value.type "str", false, rfl, ClsV.ty _, tyx_T (by walk_at "sq"), kt_tuple_str, ?_⟩)
local macro_rules | `(tactic| walk_at "go1") => `(tactic| first
  | (refine ⟨_, rfl, ?_⟩)
  | (refine ⟨_, _, rfl, rfl, ?_⟩)
  | (refine ⟨_, _, _, _, rfl, rfl, SqL.of (by walk_at "hp"), rfl, ?_⟩)
  | (refine Or.inl ⟨_, rfl, ?_⟩)
  | (refine ⟨rfl, ?_⟩)
  | (refine ⟨_, _, rfl, .inl (SqL.of (by walk_at "hp")), ?_⟩)
  | (refine ⟨_, _, rfl, Or.inl (by assumption), ?_⟩)
  | (refine ⟨_, _, rfl, Or.inr (by assumption), ?_⟩)
  | (refine ⟨(by walk_at "ok"), ?_⟩)
  | (refine ⟨_, _, _, _, rfl, rfl, (by walk_at "hp"), rfl, ?_⟩))
local macro_rules | `(tactic| walk_at "go") => `(tactic| repeat (walk_at "go1"))
local macro_rules | `(tactic| walk_at "gt") => `(tactic| repeat (first | walk_at "go1" | walk_at "ty"))

section
variable {P : Program} {w : World} {K : PySem.W.Frag} {mg : Str → Option Value} {base : Heap}
/-- the same of an error that is being handled -/
def spToldE (T : Tx K mg) : Addr → Value → Option Addr → Hp → VK → Prop := fun _ cls d G Q => ∃ (j : Nat) (va vb : V) (C dd : Addr) (code : String) (fs : List String), Ent T j C code fs ∧ cls = .ref C ∧ d = some dd ∧ G dd = some (.xd (erFs code fs ([va, vb].take fs.length))) ∧
  ∀ t G', Same G G' → G t = none → G' t = some (.tup ([va, vb].take fs.length)) → Q (.ref t) G'
theorem ok_toldE (T : Tx K mg) : FnE P w K mg base 2 T.f_l_told (spToldE T) := by
  refine funE T.F_l_told sc_l_told T.b_l_told fun cdv A outer s H a oe cls d Q hz hf h6 => ?_
  obtain ⟨j, va, vb, C, dd, code, fs, en, rfl, rfl, hd, q⟩ := h6
  refine ⟨_, (pss_cons (ps_if (pt_cmpR (show OpR _ _ (rIn K false) from op_in_seq) (pe_xfH (List.mem_singleton_self _) hz hf (pv 0)) (pe_lst (pa_cons pe_str (pa_cons pe_str (pa_cons pe_str (pa_cons pe_str (pa_cons pe_str pa_nil)))))) rfl) (pss_one (ps_ret (pe_tup (pa_cons (pe_xfH (List.mem_singleton_self _) hz hf (pv 0)) pa_nil)))) pss_nil)
    (pss_cons (ps_if (pt_cmpR (show OpR _ _ (rIn K false) from op_in_seq) (pe_xfH (List.mem_singleton_self _) hz hf (pv 0)) (pe_lst (pa_cons pe_str (pa_cons pe_str (pa_cons pe_str (pa_cons pe_str pa_nil))))) rfl) (pss_one (ps_ret (pe_tup (pa_cons (pe_xfH (List.mem_singleton_self _) hz hf (pv 0)) pa_nil)))) pss_nil)
    (pss_cons (ps_if (pt_cmpR (show OpR _ _ (rIn K false) from op_in_seq) (pe_xfH (List.mem_singleton_self _) hz hf (pv 0)) (pe_lst (pa_cons pe_str (pa_cons pe_str (pa_cons pe_str pa_nil)))) rfl) (pss_one (ps_ret (pe_tup (pa_cons (pe_xfH (List.mem_singleton_self _) hz hf (pv 0)) pa_nil)))) pss_nil)
    (pss_cons (ps_if (pt_cmpR (show OpR _ _ (rIn K false) from op_in_seq) (pe_xfH (List.mem_singleton_self _) hz hf (pv 0)) (pe_lst (pa_cons pe_str (pa_cons pe_str pa_nil))) rfl) (pss_one (ps_ret (pe_tup (pa_cons (pe_xfH (List.mem_singleton_self _) hz hf (pv 0)) pa_nil)))) pss_nil)
    (pss_cons (ps_if (pt_cmpR (show OpR _ _ (rIn K false) from op_in_seq) (pe_xfH (List.mem_singleton_self _) hz hf (pv 0)) (pe_lst (pa_cons pe_str (pa_cons pe_str pa_nil))) rfl) (pss_one (ps_ret (pe_tup (pa_cons (pe_xfH (List.mem_singleton_self _) hz hf (pv 0)) (pa_cons (pe_xfH (List.mem_singleton_self _) hz hf (pv 0)) pa_nil))))) pss_nil)
    (pss_cons (ps_if (pt_cmpR op_eq (pe_xfH (List.mem_singleton_self _) hz hf (pv 0)) pe_str (nomark _)) (pss_one (ps_ret (pe_tup (pa_cons (pe_xfH (List.mem_singleton_self _) hz hf (pv 0)) (pa_cons (pe_xfH (List.mem_singleton_self _) hz hf (pv 0)) pa_nil))))) pss_nil)
    (pss_cons (ps_if (pt_cmpR op_eq (pe_xfH (List.mem_singleton_self _) hz hf (pv 0)) pe_str (nomark _)) (pss_one (ps_ret (pe_tup (pa_cons (pe_xfH (List.mem_singleton_self _) hz hf (pv 0)) pa_nil)))) pss_nil)
    (pss_cons (ps_if (pt_cmpR op_eq (pe_xfH (List.mem_singleton_self _) hz hf (pv 0)) pe_str (nomark _)) (pss_one (ps_ret (pe_tup (pa_cons (pe_xfH (List.mem_singleton_self _) hz hf (pv 0)) pa_nil)))) pss_nil)
    (pss_cons (ps_if (pt_cmpR op_eq (pe_xfH (List.mem_singleton_self _) hz hf (pv 0)) pe_str (nomark _)) (pss_one (ps_ret (pe_tup (pa_cons (pe_xfH (List.mem_singleton_self _) hz hf (pv 0)) pa_nil)))) pss_nil)
    (pss_cons (ps_if (pt_cmpR op_eq (pe_xfH (List.mem_singleton_self _) hz hf (pv 0)) pe_str (nomark _)) (pss_one (ps_ret (pe_tup (pa_cons (pe_xfH (List.mem_singleton_self _) hz hf (pv 0)) pa_nil)))) pss_nil)
    (pss_cons (ps_if (pt_cmpR op_eq (pe_xfH (List.mem_singleton_self _) hz hf (pv 0)) pe_str (nomark _)) (pss_one (ps_ret (pe_tup (pa_cons (pe_xfH (List.mem_singleton_self _) hz hf (pv 0)) pa_nil)))) pss_nil)
    (pss_cons (ps_if (pt_cmpR op_eq (pe_xfH (List.mem_singleton_self _) hz hf (pv 0)) pe_str (nomark _)) (pss_one (ps_ret (pe_tup (pa_cons (pe_xfH (List.mem_singleton_self _) hz hf (pv 0)) pa_nil)))) pss_nil)
    (pss_one (ps_ret (pe_ifExp (pt_cmpR op_eq (pe_xfH (List.mem_singleton_self _) hz hf (pv 0)) pe_str (nomark _)) (pe_tup (pa_cons (pe_xfH (List.mem_singleton_self _) hz hf (pv 0)) pa_nil)) (pe_tup pa_nil)))))))))))))))), ?_⟩
  have hst : L2.start N_l_told [.ref a] = [some (.ref a)] := rfl
  rw [hst]
  have ok := er_ok T en.c en.f
  have ht := told_ent en
  have rd : ∀ {H1 : Hp} {f : String} {v : V}, Same H H1 → f ∈ ("code" :: fs) → (erFs code fs ([va, vb].take fs.length)).lookup (Str.ofString f) = some v → Rd (tXfA K a (.ref C) (some dd) (Str.ofString f) 0) [some (.ref a)] H1 v := fun s1 hf hl H2 s2 Q q => ⟨rfl, C, dd, _, _, rfl, rfl, ok.xf, ok.nf _ hf, s2 _ _ (s1 _ _ hd), hl, q⟩
  have rc : ∀ {H1 : Hp}, Same H H1 → Rd (tXfA K a (.ref C) (some dd) (Str.ofString "code") 0) [some (.ref a)] H1 (.str (Str.ofString code)) := fun s1 => rd s1 (by simp) rfl
  have fin : ∀ {H1 : Hp} {xs : List V}, Same H H1 → xs = [va, vb].take fs.length → ∀ t, H1 t = none → Q (.ref t) (upd H1 t (.tup xs)) := fun s1 e t h1 => q t _ (s1.trans (Same.new h1)) (s1.free h1) (by rw [e]; exact upd_same)
  unfold toldOf at ht
  refine seq_in ht (rc (Same.refl H)) (by decide) (by decide) (fun e H1 s1 => ?_) (fun ht H1 s1 => ?_)
  · subst e
    exact rd s1 (by simp) rfl _ (Same.refl _) _ ⟨by show 1 ≤ sizeLine; decide, fin s1 rfl⟩
  refine seq_in ht (rc s1) (by decide) (by decide) (fun e H2 t2 => ?_) (fun ht H2 t2 => ?_)
  · subst e
    exact rd (s1.trans t2) (by simp) rfl _ (Same.refl _) _ ⟨by show 1 ≤ sizeLine; decide, fin (s1.trans t2) rfl⟩
  have s2 := s1.trans t2
  refine seq_in ht (rc s2) (by decide) (by decide) (fun e H3 t3 => ?_) (fun ht H3 t3 => ?_)
  · subst e
    exact rd (s2.trans t3) (by simp) rfl _ (Same.refl _) _ ⟨by show 1 ≤ sizeLine; decide, fin (s2.trans t3) rfl⟩
  have s3 := s2.trans t3
  refine seq_in ht (rc s3) (by decide) (by decide) (fun e H4 t4 => ?_) (fun ht H4 t4 => ?_)
  · subst e
    exact rd (s3.trans t4) (by simp) rfl _ (Same.refl _) _ ⟨by show 1 ≤ sizeLine; decide, fin (s3.trans t4) rfl⟩
  have s4 := s3.trans t4
  refine seq_in ht (rc s4) (by decide) (by decide) (fun e H5 t5 => ?_) (fun ht H5 t5 => ?_)
  · subst e
    exact ret2 (rd (f := "first") (s4.trans t5) (by simp) rfl) (rd (f := "second") (s4.trans t5) (by simp) rfl) (fin (s4.trans t5) rfl)
  have s5 := s4.trans t5
  refine seq_eq ht (rc s5) (fun e => ?_) (fun ht => ?_)
  · subst e
    exact ret2 (rd (f := "one") s5 (by simp) rfl) (rd (f := "other") s5 (by simp) rfl) (fin s5 rfl)
  refine seq_eq ht (rc s5) (fun e => ?_) (fun ht => ?_)
  · subst e
    exact rd s5 (by simp) rfl _ (Same.refl _) _ ⟨by show 1 ≤ sizeLine; decide, fin s5 rfl⟩
  refine seq_eq ht (rc s5) (fun e => ?_) (fun ht => ?_)
  · subst e
    exact rd s5 (by simp) rfl _ (Same.refl _) _ ⟨by show 1 ≤ sizeLine; decide, fin s5 rfl⟩
  refine seq_eq ht (rc s5) (fun e => ?_) (fun ht => ?_)
  · subst e
    exact rd s5 (by simp) rfl _ (Same.refl _) _ ⟨by show 1 ≤ sizeLine; decide, fin s5 rfl⟩
  refine seq_eq ht (rc s5) (fun e => ?_) (fun ht => ?_)
  · subst e
    exact rd s5 (by simp) rfl _ (Same.refl _) _ ⟨by show 1 ≤ sizeLine; decide, fin s5 rfl⟩
  refine seq_eq ht (rc s5) (fun e => ?_) (fun ht => ?_)
  · subst e
    exact rd s5 (by simp) rfl _ (Same.refl _) _ ⟨by show 1 ≤ sizeLine; decide, fin s5 rfl⟩
  refine seq_eq ht (rc s5) (fun e => ?_) (fun ht => ?_)
  · subst e
    exact rd s5 (by simp) rfl _ (Same.refl _) _ ⟨by show 1 ≤ sizeLine; decide, fin s5 rfl⟩
  refine ret_eq ht (rc s5) (fun e => ?_) (fun e => ?_)
  · subst e
    exact rd s5 (by simp) rfl _ (Same.refl _) _ ⟨by show 1 ≤ sizeLine; decide, fin s5 rfl⟩
  · subst e
    exact ⟨by show 0 ≤ sizeLine; decide, fin s5 rfl⟩
end
end TL
namespace TL
open PySem L2

/-! ### steps of a reading -/
local macro_rules | `(tactic| walk_at "hp") => `(tactic| first | assumption | exact upd_same | (refine (upd_ne (by first | assumption | (exact Ne.symm (by assumption)))).trans ?_; walk_at "hp"))
local macro_rules | `(tactic| walk_at "ok") => `(tactic| first | (exact Or.inr ⟨by decide, by decide⟩) | (exact ⟨by decide, by decide⟩) | (exact ⟨by decide, by decide, by decide⟩) | (show _ ≠ _; omega) | (show _ ≠ _; decide) | (exact Or.inl ⟨by omega, by omega⟩) | decide)
local macro_rules | `(tactic| walk_at "sq") => `(tactic| first | assumption | exact SqL.of (by walk_at "hp") | exact SqT.of (by walk_at "hp"))
local macro_rules | `(tactic| walk_at "ty") => `(tactic| first | refine ⟨_, _, Value.type "int", Value.type "list", false, rfl, ClsV.ty _, TyX.base (TyOf.int _), kt_int_list, ?_⟩ | refine ⟨_, _, Value.type "bool", Value.type "list", false, rfl, ClsV.ty _, TyX.base (TyOf.bl _), kt_bool_list, ?_⟩ | refine ⟨_, _, Value.type "str", Value.type "list", false, rfl, ClsV.ty _, TyX.base (TyOf.str _), kt_str_list, ?_⟩ | refine ⟨_, _, Value.type "NoneType", Value.type "list", false, rfl, ClsV.ty _, TyX.base TyOf.non, kt_NoneType_list, ?_⟩ | refine ⟨_, _, Value.type "list", Value.type "list", true, rfl, ClsV.ty _, tyx_L (by walk_at "sq"), kt_list_list, ?_⟩ | refine ⟨_, _, Value.type "tuple", Value.type "list", false, rfl, ClsV.ty _, tyx_T (by walk_at "sq"), kt_tuple_list, ?_⟩ | refine ⟨_, _, Value.type "int", Value.type "tuple", false, rfl, ClsV.ty _, TyX.base (TyOf.int _), kt_int_tuple, ?_⟩ | refine ⟨_, _, Value.type "bool", Value.type "tuple", false, rfl, ClsV.ty _, TyX.base (TyOf.bl _), kt_bool_tuple, ?_⟩ | refine ⟨_, _, Value.type "str", Value.type "tuple", false, rfl, ClsV.ty _, TyX.base (TyOf.str _), kt_str_tuple, ?_⟩ | refine ⟨_, _, Value.type "NoneType", Value.type "tuple", false, rfl, ClsV.ty _, TyX.base TyOf.non, kt_NoneType_tuple, ?_⟩ | refine ⟨_, _, Value.type "list", Value.type "tuple", false, rfl, ClsV.ty _, tyx_L (by walk_at "sq"), kt_list_tuple, ?_⟩ | refine ⟨_, _, Value.type "tuple", Value.type "tuple", true, rfl, ClsV.ty _, tyx_T (by walk_at "sq"), kt_tuple_tuple, ?_⟩ | refine ⟨_, _, Value.type "int", Value.type "bool", false, rfl, ClsV.ty _, TyX.base (TyOf.int _), kt_int_bool, ?_⟩ | refine ⟨_, _, Value.type "bool", Value.type "bool", true, rfl, ClsV.ty _, TyX.base (TyOf.bl _), kt_bool_bool, ?_⟩ | refine ⟨_, _, Value.type "str", Value.type "bool", false, rfl, ClsV.ty _, TyX.base (TyOf.str _), kt_str_bool, ?_⟩ | refine ⟨_, _, Value.type "NoneType", Value.type "bool", false, rfl, ClsV.ty _, TyX.base TyOf.non, kt_NoneType_bool, ?_⟩ | refine ⟨_, _, Value.type "list", Value.type "bool", false, rfl, ClsV.ty _, tyx_L (by walk_at "sq"), kt_list_bool, ?_⟩ | refine ⟨_, _, Value.type "tuple", Value.type "bool", false, rfl, ClsV.ty _, tyx_T (by walk_at "sq"), kt_tuple_bool, ?_⟩ | refine ⟨_, _, Value.type "int", Value.type "int", true, rfl, ClsV.ty _, TyX.base (TyOf.int _), kt_int_int, ?_⟩ | refine ⟨_, _, Value.type "bool", Value.type "int", true, rfl, ClsV.ty _, TyX.base (TyOf.bl _), kt_bool_int, ?_⟩ | refine ⟨_, _, Value.type "str", Value.type "int", false, rfl, ClsV.ty _, TyX.base (TyOf.str _), kt_str_int, ?_⟩ | refine ⟨_, _, Value.type "NoneType", Value.type "int", false, rfl, ClsV.ty _, TyX.base TyOf.non, kt_NoneType_int, ?_⟩ | refine ⟨_, _, Value.type "list", Value.type "int", false, rfl, ClsV.ty _, tyx_L (by walk_at "sq"), kt_list_int, ?_⟩ | refine ⟨_, _, Value.type "tuple", Value.type "int", false, rfl, ClsV.ty _, tyx_T (by walk_at "sq"), kt_tuple_int, ?_⟩ | refine ⟨_, _, Value.type "int", Value.type "str", false, rfl, ClsV.ty _, TyX.base (TyOf.int _), kt_int_str, ?_⟩ | refine ⟨_, _, Value.type "bool", Value.type "str", false, rfl, ClsV.ty _, TyX.base (TyOf.bl _), kt_bool_str, ?_⟩ | refine ⟨_, _, Value.type "str", Value.type "str", true, rfl, ClsV.ty _, TyX.base (TyOf.str _), kt_str_str, ?_⟩ | refine ⟨_, _, Value.type "NoneType", Value.type "str", false, rfl, ClsV.ty _, TyX.base TyOf.non, kt_NoneType_str, ?_⟩ | refine ⟨_, _, Value.type "list", Value.type "str", false, rfl, ClsV.ty _, tyx_L (by walk_at "sq"), kt_list_str, ?_⟩ | refine ⟨_, _, Value.type "tuple", Value.type "str", false, rfl, ClsV.ty _, tyx_T (by walk_at "sq"), kt_tuple_str, ?_⟩)
local macro_rules | `(tactic| walk_at "go1") => `(tactic| first
  | (refine ⟨_, rfl, ?_⟩)
  | (refine ⟨_, _, rfl, rfl, ?_⟩)
  | (refine ⟨_, _, _, _, rfl, rfl, SqL.of (by walk_at "hp"), rfl, ?_⟩)
  | (refine Or.inl ⟨_, rfl, ?_⟩)
  | (refine ⟨rfl, ?_⟩)
  | (refine ⟨_, _, rfl, .inl (SqL.of (by walk_at "hp")), ?_⟩)
  | (refine ⟨_, _, rfl, Or.inl (by assumption), ?_⟩)
  | (refine ⟨_, _, rfl, Or.inr (by assumption), ?_⟩)
  | (refine ⟨(by walk_at "ok"), ?_⟩)
  | (refine ⟨_, _, _, _, rfl, rfl, (by walk_at "hp"), rfl, ?_⟩))
local macro_rules | `(tactic| walk_at "go") => `(tactic| repeat (walk_at "go1"))
local macro_rules | `(tactic| walk_at "gt") => `(tactic| repeat (first | walk_at "go1" | walk_at "ty"))

section
variable {P : Program} {w : World} {K : PySem.W.Frag} {mg : Str → Option Value} {base : Heap}
-- [0=_law_fault, 1=_law_found] [0=_law_fault, 1=_law_found]
theorem erk_row {j : Nat} {r : List Bool} (h : ERK[j]? = some r) {i : Nat} (hi : i < 42) : r[i]? = some (j == i) := by
  unfold ERK at h
  rw [List.getElem?_map] at h
  by_cases hj : j < 42
  · rw [List.getElem?_range hj] at h
    cases h
    rw [List.getElem?_map, List.getElem?_range hi]
    rfl
  · rw [List.getElem?_eq_none (by simpa using hj)] at h
    cases h
theorem ent_kit (T : Tx K mg) {j i : Nat} {C D : Addr} (e : (erC T)[j]? = some C) (hi : i < 42) (d : (erC T)[i]? = some D) : PySem.W.kitOne K (.ref C) (.ref D) = some (j == i) := by
  obtain ⟨r, h1, h2⟩ := kitAll_get T.kiT e
  exact kitRow_get h2 (by rw [List.getElem?_map, show ([T.C_BadRatio, _, _, _, _, _, _, _, _, _, _, _, _, _, _, _, _, _, _, _, _, _, _, _, _, _, _, _, _, _, _, _, _, _, _, _, _, _, _, _, _, _] : List Addr)[i]? = some D from d]; rfl) (erk_row h1 hi)
section
variable {σ : L2.St} {H : Hp} {a C : Addr} {c : V} {u : Value} {b : Bool} {i : Nat}
theorem ev_isi (hx : XAt H a C) (T : ExcC K C) (hv : σ[i]? = some (some (.ref a))) (k : ClsV c u) (e : PySem.W.kitOne K (.ref C) u = some b) : Ev (tCB (rIsi2 K) (tCons (tVar i) (tCons (tC c) tNil))) σ H (IsV (.bl b)) := fun H1 s1 Q q =>
  ⟨_, hv, .inr ⟨a, C, c, u, b, rfl, k, hx.same s1, T, e, q _ _ (Same.refl _) rfl⟩⟩
theorem allR_isV {H : Hp} : ∀ {us vs : List V}, AllR H (us.map IsV) vs → vs = us
  | [], [], _ => rfl
  | u :: us, v :: vs, h => by
    rw [show v = u from h.1, allR_isV (us := us) (vs := vs) h.2]
  | [], _ :: _, h => h.elim
  | _ :: _, [], h => h.elim
theorem monos_isV : ∀ {us : List V}, Monos (us.map IsV)
  | [] => trivial
  | _ :: us => ⟨mIsV, monos_isV (us := us)⟩
end
/-- a list of values -/
def LsV (us : List V) : Hp → V → Prop := fun H v => ∃ p, v = .ref p ∧ H p = some (.lst us)
section
variable {σ : L2.St} {H : Hp} {t1 t2 t3 te : TE} {x y z v : V} {us : List V} {i : Nat}
theorem LsV.same {H H' : Hp} (h : LsV us H v) (s : Same H H') : LsV us H' v := by
  obtain ⟨p, e, h⟩ := h
  exact ⟨p, e, s _ _ h⟩
theorem lsv_of {Rs : List (Hp → V → Prop)} (e : Rs = us.map IsV) (h : Ev te σ H (LstR Rs)) : Ev te σ H (LsV us) := fun H1 s1 Q q =>
  h H1 s1 Q fun v H2 s2 ⟨p, vs, e1, e2, e3⟩ => q v H2 s2 ⟨p, e1, by rw [e] at e3; rw [allR_isV e3] at e2; exact e2⟩
theorem lsv_to (h : LsV us H v) : LstR (us.map IsV) H v := by
  obtain ⟨p, e, h⟩ := h
  refine ⟨p, us, e, h, ?_⟩
  clear h e
  induction us with
  | nil => trivial
  | cons u us ih => exact ⟨rfl, ih⟩
theorem ev_three (h1 : Ev t1 σ H (IsV x)) (h2 : Ev t2 σ H (IsV y)) (h3 : Ev t3 σ H (IsV z)) : Ev (tLst (tCons t1 (tCons t2 (tCons t3 tNil)))) σ H (LsV [x, y, z]) :=
  lsv_of (Rs := [IsV x, IsV y, IsV z]) rfl (ev_lst (evs_cons h1 mIsV (evs_cons h2 mIsV (evs_cons h3 mIsV evs_nil))) ⟨mIsV, mIsV, mIsV, trivial⟩ (by simp))
theorem ev_catV {ws : List V} (l : LsV us H v) (hv : σ[i]? = some (some v)) (h : Ev te σ H (LsV ws)) (hz : us.length + ws.length ≤ 1000) : Ev (tOp rCat (tVar i) te) σ H (LsV (us ++ ws)) := by
  refine lsv_of (Rs := us.map IsV ++ ws.map IsV) (by rw [List.map_append]) (ev_cat (ev_var hv fun H' s => lsv_to (l.same s)) monos_isV (fun H1 s1 Q q => h H1 s1 Q fun v H2 s2 hv => q v H2 s2 (lsv_to hv)) monos_isV (by simpa using hz))
theorem ev_moreV (l : LsV us H v) (hv : σ[i]? = some (some v)) (hz : us.length ≤ 900) (h1 : Ev t1 σ H (IsV x)) (h2 : Ev t2 σ H (IsV y)) (h3 : Ev t3 σ H (IsV z)) : Ev (tOp rCat (tVar i) (tLst (tCons t1 (tCons t2 (tCons t3 tNil))))) σ H (LsV (us ++ [x, y, z])) :=
  ev_catV l hv (ev_three h1 h2 h3) (by simp; omega)
end
theorem ret_ev {σ : L2.St} {H : Hp} {te : TE} {D : Ends} {R : Hp → V → Prop} (h : Ev te σ H R) (k : ∀ v H', Same H H' → R H' v → D.rt v H') : tRet te D σ H := h H (Same.refl _) _ fun v H1 s1 hv => k v H1 s1 hv
def kb (j lo n : Nat) : List V := (List.range' lo n).map fun i => V.bl (j == i)
theorem kb_more (j lo n : Nat) : kb j lo n ++ [.bl (j == lo + n), .bl (j == lo + n + 1), .bl (j == lo + n + 2)] = kb j lo (n + 3) := by
  rw [kb, kb, show n + 3 = n + 1 + 1 + 1 from rfl, List.range'_concat, List.range'_concat, List.range'_concat]
  simp [Nat.add_assoc]
def spKinds (T : Tx K mg) (lo n : Nat) : Sp := fun vs H Q _ => ∃ (v a b : V) (j : Nat), vs = [v] ∧ ErJ T j a b H v ∧ ∀ u H', Same H H' → LsV (kb j lo n) H' u → Q u H'
theorem ok_first (T : Tx K mg) : FnOk P w K mg base CX0 1 T.f_l_first_kinds T.d_l_first_kinds ["_law_fault"] (spKinds T 0 24) := by
  refine T.F_l_first_kinds.ok sc_l_first_kinds (fun vs H Q E h => ?_) (fun cdv A outer s H vs Q E hr h => ?_)
  · obtain ⟨v, a, b, j, rfl, _⟩ := h
    rfl
  obtain ⟨v, va, vb, j, rfl, ⟨C, code, fs, en, a, d, rfl, ha, hd⟩, q⟩ := h
  have nd := sc_l_first_kinds.nd
  refine ⟨_, (pss_cons (ps_set (i := 1) nd rfl (Or.inl rfl) (pe_lst (pa_cons (pe_callB (show CallR _ _ (rIsi2 K) from call_isi2) (by rfl) T.z_isinstance (by decide +kernel) (pa_cons (pv 0) (pa_cons (pe_glob (v := .ref T.C_BadRatio) (by rfl) T.g_BadRatio rfl) pa_nil))) (pa_cons (pe_callB (show CallR _ _ (rIsi2 K) from call_isi2) (by rfl) T.z_isinstance (by decide +kernel) (pa_cons (pv 0) (pa_cons (pe_glob (v := .ref T.C_BadText) (by rfl) T.g_BadText rfl) pa_nil))) (pa_cons (pe_callB (show CallR _ _ (rIsi2 K) from call_isi2) (by rfl) T.z_isinstance (by decide +kernel) (pa_cons (pv 0) (pa_cons (pe_glob (v := .ref T.C_BadLine) (by rfl) T.g_BadLine rfl) pa_nil))) pa_nil)))))
    (pss_cons (ps_set (i := 1) nd rfl (Or.inl rfl) (pe_op op_cat (pv 1) (pe_lst (pa_cons (pe_callB (show CallR _ _ (rIsi2 K) from call_isi2) (by rfl) T.z_isinstance (by decide +kernel) (pa_cons (pv 0) (pa_cons (pe_glob (v := .ref T.C_BadTop) (by rfl) T.g_BadTop rfl) pa_nil))) (pa_cons (pe_callB (show CallR _ _ (rIsi2 K) from call_isi2) (by rfl) T.z_isinstance (by decide +kernel) (pa_cons (pv 0) (pa_cons (pe_glob (v := .ref T.C_BadStart) (by rfl) T.g_BadStart rfl) pa_nil))) (pa_cons (pe_callB (show CallR _ _ (rIsi2 K) from call_isi2) (by rfl) T.z_isinstance (by decide +kernel) (pa_cons (pv 0) (pa_cons (pe_glob (v := .ref T.C_BadLength) (by rfl) T.g_BadLength rfl) pa_nil))) pa_nil))))))
    (pss_cons (ps_set (i := 1) nd rfl (Or.inl rfl) (pe_op op_cat (pv 1) (pe_lst (pa_cons (pe_callB (show CallR _ _ (rIsi2 K) from call_isi2) (by rfl) T.z_isinstance (by decide +kernel) (pa_cons (pv 0) (pa_cons (pe_glob (v := .ref T.C_BadOrder) (by rfl) T.g_BadOrder rfl) pa_nil))) (pa_cons (pe_callB (show CallR _ _ (rIsi2 K) from call_isi2) (by rfl) T.z_isinstance (by decide +kernel) (pa_cons (pv 0) (pa_cons (pe_glob (v := .ref T.C_BadRow) (by rfl) T.g_BadRow rfl) pa_nil))) (pa_cons (pe_callB (show CallR _ _ (rIsi2 K) from call_isi2) (by rfl) T.z_isinstance (by decide +kernel) (pa_cons (pv 0) (pa_cons (pe_glob (v := .ref T.C_OffLine) (by rfl) T.g_OffLine rfl) pa_nil))) pa_nil))))))
    (pss_cons (ps_set (i := 1) nd rfl (Or.inl rfl) (pe_op op_cat (pv 1) (pe_lst (pa_cons (pe_callB (show CallR _ _ (rIsi2 K) from call_isi2) (by rfl) T.z_isinstance (by decide +kernel) (pa_cons (pv 0) (pa_cons (pe_glob (v := .ref T.C_Overlap) (by rfl) T.g_Overlap rfl) pa_nil))) (pa_cons (pe_callB (show CallR _ _ (rIsi2 K) from call_isi2) (by rfl) T.z_isinstance (by decide +kernel) (pa_cons (pv 0) (pa_cons (pe_glob (v := .ref T.C_NotFilled) (by rfl) T.g_NotFilled rfl) pa_nil))) (pa_cons (pe_callB (show CallR _ _ (rIsi2 K) from call_isi2) (by rfl) T.z_isinstance (by decide +kernel) (pa_cons (pv 0) (pa_cons (pe_glob (v := .ref T.C_OtherLine) (by rfl) T.g_OtherLine rfl) pa_nil))) pa_nil))))))
    (pss_cons (ps_set (i := 1) nd rfl (Or.inl rfl) (pe_op op_cat (pv 1) (pe_lst (pa_cons (pe_callB (show CallR _ _ (rIsi2 K) from call_isi2) (by rfl) T.z_isinstance (by decide +kernel) (pa_cons (pv 0) (pa_cons (pe_glob (v := .ref T.C_BadRoom) (by rfl) T.g_BadRoom rfl) pa_nil))) (pa_cons (pe_callB (show CallR _ _ (rIsi2 K) from call_isi2) (by rfl) T.z_isinstance (by decide +kernel) (pa_cons (pv 0) (pa_cons (pe_glob (v := .ref T.C_BadSwap) (by rfl) T.g_BadSwap rfl) pa_nil))) (pa_cons (pe_callB (show CallR _ _ (rIsi2 K) from call_isi2) (by rfl) T.z_isinstance (by decide +kernel) (pa_cons (pv 0) (pa_cons (pe_glob (v := .ref T.C_Meet) (by rfl) T.g_Meet rfl) pa_nil))) pa_nil))))))
    (pss_cons (ps_set (i := 1) nd rfl (Or.inl rfl) (pe_op op_cat (pv 1) (pe_lst (pa_cons (pe_callB (show CallR _ _ (rIsi2 K) from call_isi2) (by rfl) T.z_isinstance (by decide +kernel) (pa_cons (pv 0) (pa_cons (pe_glob (v := .ref T.C_BadWedge) (by rfl) T.g_BadWedge rfl) pa_nil))) (pa_cons (pe_callB (show CallR _ _ (rIsi2 K) from call_isi2) (by rfl) T.z_isinstance (by decide +kernel) (pa_cons (pv 0) (pa_cons (pe_glob (v := .ref T.C_BadReading) (by rfl) T.g_BadReading rfl) pa_nil))) (pa_cons (pe_callB (show CallR _ _ (rIsi2 K) from call_isi2) (by rfl) T.z_isinstance (by decide +kernel) (pa_cons (pv 0) (pa_cons (pe_glob (v := .ref T.C_BadWindow) (by rfl) T.g_BadWindow rfl) pa_nil))) pa_nil))))))
    (pss_cons (ps_set (i := 1) nd rfl (Or.inl rfl) (pe_op op_cat (pv 1) (pe_lst (pa_cons (pe_callB (show CallR _ _ (rIsi2 K) from call_isi2) (by rfl) T.z_isinstance (by decide +kernel) (pa_cons (pv 0) (pa_cons (pe_glob (v := .ref T.C_BadName) (by rfl) T.g_BadName rfl) pa_nil))) (pa_cons (pe_callB (show CallR _ _ (rIsi2 K) from call_isi2) (by rfl) T.z_isinstance (by decide +kernel) (pa_cons (pv 0) (pa_cons (pe_glob (v := .ref T.C_BadNumber) (by rfl) T.g_BadNumber rfl) pa_nil))) (pa_cons (pe_callB (show CallR _ _ (rIsi2 K) from call_isi2) (by rfl) T.z_isinstance (by decide +kernel) (pa_cons (pv 0) (pa_cons (pe_glob (v := .ref T.C_BadDeed) (by rfl) T.g_BadDeed rfl) pa_nil))) pa_nil))))))
    (pss_one (ps_ret (pe_op op_cat (pv 1) (pe_lst (pa_cons (pe_callB (show CallR _ _ (rIsi2 K) from call_isi2) (by rfl) T.z_isinstance (by decide +kernel) (pa_cons (pv 0) (pa_cons (pe_glob (v := .ref T.C_BadExchange) (by rfl) T.g_BadExchange rfl) pa_nil))) (pa_cons (pe_callB (show CallR _ _ (rIsi2 K) from call_isi2) (by rfl) T.z_isinstance (by decide +kernel) (pa_cons (pv 0) (pa_cons (pe_glob (v := .ref T.C_BadLimit) (by rfl) T.g_BadLimit rfl) pa_nil))) (pa_cons (pe_callB (show CallR _ _ (rIsi2 K) from call_isi2) (by rfl) T.z_isinstance (by decide +kernel) (pa_cons (pv 0) (pa_cons (pe_glob (v := .ref T.C_Double) (by rfl) T.g_Double rfl) pa_nil))) pa_nil)))))))))))))), ?_⟩
  have hx : XAt H a C := ⟨d, _, ha, hd⟩
  have X := (er_ec T (er_ok T en.c en.f)).ex
  have k : ∀ {τ : L2.St} {G : Hp} (i : Nat) {D : Addr}, Same H G → τ[0]? = some (some (.ref a)) → i < 42 → (erC T)[i]? = some D → Ev (tCB (rIsi2 K) (tCons (tVar 0) (tCons (tC (.ref D)) tNil))) τ G (IsV (.bl (j == i))) := fun i _ s1 hv hi hd => ev_isi (hx.same s1) X hv (ClsV.own _) (ent_kit T en.c hi hd)
  refine asg_ev (R := LsV (kb j 0 3)) (ev_three (k 0 (Same.refl _) rfl (by decide) rfl) (k 1 (Same.refl _) rfl (by decide) rfl) (k 2 (Same.refl _) rfl (by decide) rfl)) ?_
  intro v1 H1 s1 l1
  refine asg_ev (R := LsV (kb j 0 6)) (by rw [← kb_more]; exact ev_moreV l1 rfl (by simp [kb]) (k 3 s1 rfl (by decide) rfl) (k 4 s1 rfl (by decide) rfl) (k 5 s1 rfl (by decide) rfl)) ?_
  intro v2 H2 t2 l2
  have s2 := s1.trans t2
  refine asg_ev (R := LsV (kb j 0 9)) (by rw [← kb_more]; exact ev_moreV l2 rfl (by simp [kb]) (k 6 s2 rfl (by decide) rfl) (k 7 s2 rfl (by decide) rfl) (k 8 s2 rfl (by decide) rfl)) ?_
  intro v3 H3 t3 l3
  have s3 := s2.trans t3
  refine asg_ev (R := LsV (kb j 0 12)) (by rw [← kb_more]; exact ev_moreV l3 rfl (by simp [kb]) (k 9 s3 rfl (by decide) rfl) (k 10 s3 rfl (by decide) rfl) (k 11 s3 rfl (by decide) rfl)) ?_
  intro v4 H4 t4 l4
  have s4 := s3.trans t4
  refine asg_ev (R := LsV (kb j 0 15)) (by rw [← kb_more]; exact ev_moreV l4 rfl (by simp [kb]) (k 12 s4 rfl (by decide) rfl) (k 13 s4 rfl (by decide) rfl) (k 14 s4 rfl (by decide) rfl)) ?_
  intro v5 H5 t5 l5
  have s5 := s4.trans t5
  refine asg_ev (R := LsV (kb j 0 18)) (by rw [← kb_more]; exact ev_moreV l5 rfl (by simp [kb]) (k 15 s5 rfl (by decide) rfl) (k 16 s5 rfl (by decide) rfl) (k 17 s5 rfl (by decide) rfl)) ?_
  intro v6 H6 t6 l6
  have s6 := s5.trans t6
  refine asg_ev (R := LsV (kb j 0 21)) (by rw [← kb_more]; exact ev_moreV l6 rfl (by simp [kb]) (k 18 s6 rfl (by decide) rfl) (k 19 s6 rfl (by decide) rfl) (k 20 s6 rfl (by decide) rfl)) ?_
  intro v7 H7 t7 l7
  have s7 := s6.trans t7
  refine ret_ev (R := LsV (kb j 0 24)) (by rw [← kb_more]; exact ev_moreV l7 rfl (by simp [kb]) (k 21 s7 rfl (by decide) rfl) (k 22 s7 rfl (by decide) rfl) (k 23 s7 rfl (by decide) rfl)) fun u H' s' l' => q u H' (s7.trans s') l'
theorem ok_second (T : Tx K mg) : FnOk P w K mg base CX0 1 T.f_l_second_kinds T.d_l_second_kinds ["_law_fault"] (spKinds T 24 18) := by
  refine T.F_l_second_kinds.ok sc_l_second_kinds (fun vs H Q E h => ?_) (fun cdv A outer s H vs Q E hr h => ?_)
  · obtain ⟨v, a, b, j, rfl, _⟩ := h
    rfl
  obtain ⟨v, va, vb, j, rfl, ⟨C, code, fs, en, a, d, rfl, ha, hd⟩, q⟩ := h
  have nd := sc_l_second_kinds.nd
  refine ⟨_, (pss_cons (ps_set (i := 1) nd rfl (Or.inl rfl) (pe_lst (pa_cons (pe_callB (show CallR _ _ (rIsi2 K) from call_isi2) (by rfl) T.z_isinstance (by decide +kernel) (pa_cons (pv 0) (pa_cons (pe_glob (v := .ref T.C_TooMany) (by rfl) T.g_TooMany rfl) pa_nil))) (pa_cons (pe_callB (show CallR _ _ (rIsi2 K) from call_isi2) (by rfl) T.z_isinstance (by decide +kernel) (pa_cons (pv 0) (pa_cons (pe_glob (v := .ref T.C_Unlike) (by rfl) T.g_Unlike rfl) pa_nil))) (pa_cons (pe_callB (show CallR _ _ (rIsi2 K) from call_isi2) (by rfl) T.z_isinstance (by decide +kernel) (pa_cons (pv 0) (pa_cons (pe_glob (v := .ref T.C_OtherSteps) (by rfl) T.g_OtherSteps rfl) pa_nil))) pa_nil)))))
    (pss_cons (ps_set (i := 1) nd rfl (Or.inl rfl) (pe_op op_cat (pv 1) (pe_lst (pa_cons (pe_callB (show CallR _ _ (rIsi2 K) from call_isi2) (by rfl) T.z_isinstance (by decide +kernel) (pa_cons (pv 0) (pa_cons (pe_glob (v := .ref T.C_NothingLeft) (by rfl) T.g_NothingLeft rfl) pa_nil))) (pa_cons (pe_callB (show CallR _ _ (rIsi2 K) from call_isi2) (by rfl) T.z_isinstance (by decide +kernel) (pa_cons (pv 0) (pa_cons (pe_glob (v := .ref T.C_OwesMore) (by rfl) T.g_OwesMore rfl) pa_nil))) (pa_cons (pe_callB (show CallR _ _ (rIsi2 K) from call_isi2) (by rfl) T.z_isinstance (by decide +kernel) (pa_cons (pv 0) (pa_cons (pe_glob (v := .ref T.C_NotOnLine) (by rfl) T.g_NotOnLine rfl) pa_nil))) pa_nil))))))
    (pss_cons (ps_set (i := 1) nd rfl (Or.inl rfl) (pe_op op_cat (pv 1) (pe_lst (pa_cons (pe_callB (show CallR _ _ (rIsi2 K) from call_isi2) (by rfl) T.z_isinstance (by decide +kernel) (pa_cons (pv 0) (pa_cons (pe_glob (v := .ref T.C_NoPrime) (by rfl) T.g_NoPrime rfl) pa_nil))) (pa_cons (pe_callB (show CallR _ _ (rIsi2 K) from call_isi2) (by rfl) T.z_isinstance (by decide +kernel) (pa_cons (pv 0) (pa_cons (pe_glob (v := .ref T.C_UnknownName) (by rfl) T.g_UnknownName rfl) pa_nil))) (pa_cons (pe_callB (show CallR _ _ (rIsi2 K) from call_isi2) (by rfl) T.z_isinstance (by decide +kernel) (pa_cons (pv 0) (pa_cons (pe_glob (v := .ref T.C_NotIn) (by rfl) T.g_NotIn rfl) pa_nil))) pa_nil))))))
    (pss_cons (ps_set (i := 1) nd rfl (Or.inl rfl) (pe_op op_cat (pv 1) (pe_lst (pa_cons (pe_callB (show CallR _ _ (rIsi2 K) from call_isi2) (by rfl) T.z_isinstance (by decide +kernel) (pa_cons (pv 0) (pa_cons (pe_glob (v := .ref T.C_NotFair) (by rfl) T.g_NotFair rfl) pa_nil))) (pa_cons (pe_callB (show CallR _ _ (rIsi2 K) from call_isi2) (by rfl) T.z_isinstance (by decide +kernel) (pa_cons (pv 0) (pa_cons (pe_glob (v := .ref T.C_NotKept) (by rfl) T.g_NotKept rfl) pa_nil))) (pa_cons (pe_callB (show CallR _ _ (rIsi2 K) from call_isi2) (by rfl) T.z_isinstance (by decide +kernel) (pa_cons (pv 0) (pa_cons (pe_glob (v := .ref T.C_Odd) (by rfl) T.g_Odd rfl) pa_nil))) pa_nil))))))
    (pss_cons (ps_set (i := 1) nd rfl (Or.inl rfl) (pe_op op_cat (pv 1) (pe_lst (pa_cons (pe_callB (show CallR _ _ (rIsi2 K) from call_isi2) (by rfl) T.z_isinstance (by decide +kernel) (pa_cons (pv 0) (pa_cons (pe_glob (v := .ref T.C_NoRoot) (by rfl) T.g_NoRoot rfl) pa_nil))) (pa_cons (pe_callB (show CallR _ _ (rIsi2 K) from call_isi2) (by rfl) T.z_isinstance (by decide +kernel) (pa_cons (pv 0) (pa_cons (pe_glob (v := .ref T.C_Unfit) (by rfl) T.g_Unfit rfl) pa_nil))) (pa_cons (pe_callB (show CallR _ _ (rIsi2 K) from call_isi2) (by rfl) T.z_isinstance (by decide +kernel) (pa_cons (pv 0) (pa_cons (pe_glob (v := .ref T.C_Unmade) (by rfl) T.g_Unmade rfl) pa_nil))) pa_nil))))))
    (pss_one (ps_ret (pe_op op_cat (pv 1) (pe_lst (pa_cons (pe_callB (show CallR _ _ (rIsi2 K) from call_isi2) (by rfl) T.z_isinstance (by decide +kernel) (pa_cons (pv 0) (pa_cons (pe_glob (v := .ref T.C_TooLong) (by rfl) T.g_TooLong rfl) pa_nil))) (pa_cons (pe_callB (show CallR _ _ (rIsi2 K) from call_isi2) (by rfl) T.z_isinstance (by decide +kernel) (pa_cons (pv 0) (pa_cons (pe_glob (v := .ref T.C_Level) (by rfl) T.g_Level rfl) pa_nil))) (pa_cons (pe_callB (show CallR _ _ (rIsi2 K) from call_isi2) (by rfl) T.z_isinstance (by decide +kernel) (pa_cons (pv 0) (pa_cons (pe_glob (v := .ref T.C_NoEntry) (by rfl) T.g_NoEntry rfl) pa_nil))) pa_nil)))))))))))), ?_⟩
  have hx : XAt H a C := ⟨d, _, ha, hd⟩
  have X := (er_ec T (er_ok T en.c en.f)).ex
  have k : ∀ {τ : L2.St} {G : Hp} (i : Nat) {D : Addr}, Same H G → τ[0]? = some (some (.ref a)) → i < 42 → (erC T)[i]? = some D → Ev (tCB (rIsi2 K) (tCons (tVar 0) (tCons (tC (.ref D)) tNil))) τ G (IsV (.bl (j == i))) := fun i _ s1 hv hi hd => ev_isi (hx.same s1) X hv (ClsV.own _) (ent_kit T en.c hi hd)
  refine asg_ev (R := LsV (kb j 24 3)) (ev_three (k 24 (Same.refl _) rfl (by decide) rfl) (k 25 (Same.refl _) rfl (by decide) rfl) (k 26 (Same.refl _) rfl (by decide) rfl)) ?_
  intro v1 H1 s1 l1
  refine asg_ev (R := LsV (kb j 24 6)) (by rw [← kb_more]; exact ev_moreV l1 rfl (by simp [kb]) (k 27 s1 rfl (by decide) rfl) (k 28 s1 rfl (by decide) rfl) (k 29 s1 rfl (by decide) rfl)) ?_
  intro v2 H2 t2 l2
  have s2 := s1.trans t2
  refine asg_ev (R := LsV (kb j 24 9)) (by rw [← kb_more]; exact ev_moreV l2 rfl (by simp [kb]) (k 30 s2 rfl (by decide) rfl) (k 31 s2 rfl (by decide) rfl) (k 32 s2 rfl (by decide) rfl)) ?_
  intro v3 H3 t3 l3
  have s3 := s2.trans t3
  refine asg_ev (R := LsV (kb j 24 12)) (by rw [← kb_more]; exact ev_moreV l3 rfl (by simp [kb]) (k 33 s3 rfl (by decide) rfl) (k 34 s3 rfl (by decide) rfl) (k 35 s3 rfl (by decide) rfl)) ?_
  intro v4 H4 t4 l4
  have s4 := s3.trans t4
  refine asg_ev (R := LsV (kb j 24 15)) (by rw [← kb_more]; exact ev_moreV l4 rfl (by simp [kb]) (k 36 s4 rfl (by decide) rfl) (k 37 s4 rfl (by decide) rfl) (k 38 s4 rfl (by decide) rfl)) ?_
  intro v5 H5 t5 l5
  have s5 := s4.trans t5
  refine ret_ev (R := LsV (kb j 24 18)) (by rw [← kb_more]; exact ev_moreV l5 rfl (by simp [kb]) (k 39 s5 rfl (by decide) rfl) (k 40 s5 rfl (by decide) rfl) (k 41 s5 rfl (by decide) rfl)) fun u H' s' l' => q u H' (s5.trans s') l'
end
end TL
namespace TL
open PySem L2

/-! ### steps of a reading -/
local macro_rules | `(tactic| walk_at "hp") => `(tactic| first | assumption | exact upd_same | (refine (upd_ne (by first | assumption | (exact Ne.symm (by assumption)))).trans ?_; walk_at "hp"))
local macro_rules | `(tactic| walk_at "ok") => `(tactic| first | (exact Or.inr ⟨by decide, by decide⟩) | (exact ⟨by decide, by decide⟩) | (exact ⟨by decide, by decide, by decide⟩) | (show _ ≠ _; omega) | (show _ ≠ _; decide) | (exact Or.inl ⟨by omega, by omega⟩) | decide)
local macro_rules | `(tactic| walk_at "sq") => `(tactic| first | assumption | exact SqL.of (by walk_at "hp") | exact SqT.of (by walk_at "hp"))
local macro_rules | `(tactic| walk_at "ty") => `(tactic| first | refine ⟨_, _, Value.type "int", Value.type "list", false, rfl, ClsV.ty _, TyX.base (TyOf.int _), kt_int_list, ?_⟩ | refine ⟨_, _, Value.type "bool", Value.type "list", false, rfl, ClsV.ty _, TyX.base (TyOf.bl _), kt_bool_list, ?_⟩ | refine ⟨_, _, Value.type "str", Value.type "list", false, rfl, ClsV.ty _, TyX.base (TyOf.str _), kt_str_list, ?_⟩ | refine ⟨_, _, Value.type "NoneType", Value.type "list", false, rfl, ClsV.ty _, TyX.base TyOf.non, kt_NoneType_list, ?_⟩ | refine ⟨_, _, Value.type "list", Value.type "list", true, rfl, ClsV.ty _, tyx_L (by walk_at "sq"), kt_list_list, ?_⟩ | refine ⟨_, _, Value.type "tuple", Value.type "list", false, rfl, ClsV.ty _, tyx_T (by walk_at "sq"), kt_tuple_list, ?_⟩ | refine ⟨_, _, Value.type "int", Value.type "tuple", false, rfl, ClsV.ty _, TyX.base (TyOf.int _), kt_int_tuple, ?_⟩ | refine ⟨_, _, Value.type "bool", Value.type "tuple", false, rfl, ClsV.ty _, TyX.base (TyOf.bl _), kt_bool_tuple, ?_⟩ | refine ⟨_, _, Value.type "str", Value.type "tuple", false, rfl, ClsV.ty _, TyX.base (TyOf.str _), kt_str_tuple, ?_⟩ | refine ⟨_, _, Value.type "NoneType", Value.type "tuple", false, rfl, ClsV.ty _, TyX.base TyOf.non, kt_NoneType_tuple, ?_⟩ | refine ⟨_, _, Value.type "list", Value.type "tuple", false, rfl, ClsV.ty _, tyx_L (by walk_at "sq"), kt_list_tuple, ?_⟩ | refine ⟨_, _, Value.type "tuple", Value.type "tuple", true, rfl, ClsV.ty _, tyx_T (by walk_at "sq"), kt_tuple_tuple, ?_⟩ | refine ⟨_, _, Value.type "int", Value.type "bool", false, rfl, ClsV.ty _, TyX.base (TyOf.int _), kt_int_bool, ?_⟩ | refine ⟨_, _, Value.type "bool", Value.type "bool", true, rfl, ClsV.ty _, TyX.base (TyOf.bl _), kt_bool_bool, ?_⟩ | refine ⟨_, _, Value.type "str", Value.type "bool", false, rfl, ClsV.ty _, TyX.base (TyOf.str _), kt_str_bool, ?_⟩ | refine ⟨_, _, Value.type "NoneType", Value.type "bool", false, rfl, ClsV.ty _, TyX.base TyOf.non, kt_NoneType_bool, ?_⟩ | refine ⟨_, _, Value.type "list", Value.type "bool", false, rfl, ClsV.ty _, tyx_L (by walk_at "sq"), kt_list_bool, ?_⟩ | refine ⟨_, _, Value.type "tuple", Value.type "bool", false, rfl, ClsV.ty _, tyx_T (by walk_at "sq"), kt_tuple_bool, ?_⟩ | refine ⟨_, _, Value.type "int", Value.type "int", true, rfl, ClsV.ty _, TyX.base (TyOf.int _), kt_int_int, ?_⟩ | refine ⟨_, _, Value.type "bool", Value.type "int", true, rfl, ClsV.ty _, TyX.base (TyOf.bl _), kt_bool_int, ?_⟩ | refine ⟨_, _, Value.type "str", Value.type "int", false, rfl, ClsV.ty _, TyX.base (TyOf.str _), kt_str_int, ?_⟩ | refine ⟨_, _, Value.type "NoneType", Value.type "int", false, rfl, ClsV.ty _, TyX.base TyOf.non, kt_NoneType_int, ?_⟩ | refine ⟨_, _, Value.type "list", Value.type "int", false, rfl, ClsV.ty _, tyx_L (by walk_at "sq"), kt_list_int, ?_⟩ | refine ⟨_, _, Value.type "tuple", Value.type "int", false, rfl, ClsV.ty _, tyx_T (by walk_at "sq"), kt_tuple_int, ?_⟩ | refine ⟨_, _, Value.type "int", Value.type "str", false, rfl, ClsV.ty _, TyX.base (TyOf.int _), kt_int_str, ?_⟩ | refine ⟨_, _, Value.type "bool", Value.type "str", false, rfl, ClsV.ty _, TyX.base (TyOf.bl _), kt_bool_str, ?_⟩ | refine ⟨_, _, Value.type "str", Value.type "str", true, rfl, ClsV.ty _, TyX.base (TyOf.str _), kt_str_str, ?_⟩ | refine ⟨_, _, Value.type "NoneType", Value.type "str", false, rfl, ClsV.ty _, TyX.base TyOf.non, kt_NoneType_str, ?_⟩ | refine ⟨_, _, Value.type "list", Value.type "str", false, rfl, ClsV.ty _, tyx_L (by walk_at "sq"), kt_list_str, ?_⟩ | refine ⟨_, _, Value.type "tuple", Value.type "str", false, rfl, ClsV.ty _, tyx_T (by walk_at "sq"), kt_tuple_str, ?_⟩)
local macro_rules | `(tactic| walk_at "go1") => `(tactic| first
  | (refine ⟨_, rfl, ?_⟩)
  | (refine ⟨_, _, rfl, rfl, ?_⟩)
  | (refine ⟨_, _, _, _, rfl, rfl, SqL.of (by walk_at "hp"), rfl, ?_⟩)
  | (refine Or.inl ⟨_, rfl, ?_⟩)
  | (refine ⟨rfl, ?_⟩)
  | (refine ⟨_, _, rfl, .inl (SqL.of (by walk_at "hp")), ?_⟩)
  | (refine ⟨_, _, rfl, Or.inl (by assumption), ?_⟩)
  | (refine ⟨_, _, rfl, Or.inr (by assumption), ?_⟩)
  | (refine ⟨(by walk_at "ok"), ?_⟩)
  | (refine ⟨_, _, _, _, rfl, rfl, (by walk_at "hp"), rfl, ?_⟩))
local macro_rules | `(tactic| walk_at "go") => `(tactic| repeat (walk_at "go1"))
local macro_rules | `(tactic| walk_at "gt") => `(tactic| repeat (first | walk_at "go1" | walk_at "ty"))

section
variable {P : Program} {w : World} {K : PySem.W.Frag} {mg : Str → Option Value} {base : Heap}
-- [0=_law_found] [0=_law_code, 1=_law_a, 2=_law_b]
theorem ev_lstC {σ : L2.St} {H : Hp} {ta : TA} (L : List V) (hL : L.length ≤ sizeLine) (hta : ∀ (G : Hp) (Q : List V → Hp → Prop), Q L G → ta σ G Q) : Ev (tLst ta) σ H (LsV L) := fun H1 s1 Q q =>
  hta H1 _ ⟨hL, fun p hp => q _ _ (Same.new hp) ⟨p, rfl, upd_same⟩⟩
def spCodes : Sp := fun vs H Q _ => vs = [] ∧ ∀ u H', Same H H' → LsV (strsV ERCODE) H' u → Q u H'
theorem ok_codes (T : Tx K mg) : FnOk P w K mg base CX0 1 T.f_l_codes T.d_l_codes [] spCodes := by
  refine T.F_l_codes.ok sc_l_codes (fun vs H Q E h => ?_) (fun cdv A outer s H vs Q E hr h => ?_)
  · obtain ⟨rfl, _⟩ := h
    rfl
  obtain ⟨rfl, q⟩ := h
  have nd := sc_l_codes.nd
  refine ⟨_, (pss_cons (ps_set (i := 0) nd rfl (Or.inl rfl) (pe_lst (pa_cons pe_str (pa_cons pe_str (pa_cons pe_str (pa_cons pe_str (pa_cons pe_str (pa_cons pe_str (pa_cons pe_str (pa_cons pe_str (pa_cons pe_str pa_nil)))))))))))
    (pss_cons (ps_set (i := 0) nd rfl (Or.inl rfl) (pe_op op_cat (pv 0) (pe_lst (pa_cons pe_str (pa_cons pe_str (pa_cons pe_str (pa_cons pe_str (pa_cons pe_str (pa_cons pe_str (pa_cons pe_str (pa_cons pe_str pa_nil)))))))))))
    (pss_cons (ps_set (i := 0) nd rfl (Or.inl rfl) (pe_op op_cat (pv 0) (pe_lst (pa_cons pe_str (pa_cons pe_str (pa_cons pe_str (pa_cons pe_str (pa_cons pe_str (pa_cons pe_str (pa_cons pe_str (pa_cons pe_str pa_nil)))))))))))
    (pss_cons (ps_set (i := 0) nd rfl (Or.inl rfl) (pe_op op_cat (pv 0) (pe_lst (pa_cons pe_str (pa_cons pe_str (pa_cons pe_str (pa_cons pe_str (pa_cons pe_str (pa_cons pe_str (pa_cons pe_str (pa_cons pe_str pa_nil)))))))))))
    (pss_cons (ps_set (i := 0) nd rfl (Or.inl rfl) (pe_op op_cat (pv 0) (pe_lst (pa_cons pe_str (pa_cons pe_str (pa_cons pe_str (pa_cons pe_str (pa_cons pe_str (pa_cons pe_str (pa_cons pe_str (pa_cons pe_str (pa_cons pe_str pa_nil))))))))))))
    (pss_one (ps_ret (pv 0)))))))), ?_⟩
  refine asg_ev (R := LsV (strsV (ERCODE.take 9))) (ev_lstC _ (by decide) fun _ _ q => q) ?_
  intro v1 H1 s1 l1
  refine asg_ev (R := LsV (strsV (ERCODE.take 17))) (ev_catV l1 rfl (ev_lstC _ (by decide) fun _ _ q => q) (by decide)) ?_
  intro v2 H2 t2 l2
  refine asg_ev (R := LsV (strsV (ERCODE.take 25))) (ev_catV l2 rfl (ev_lstC _ (by decide) fun _ _ q => q) (by decide)) ?_
  intro v3 H3 t3 l3
  refine asg_ev (R := LsV (strsV (ERCODE.take 33))) (ev_catV l3 rfl (ev_lstC _ (by decide) fun _ _ q => q) (by decide)) ?_
  intro v4 H4 t4 l4
  refine asg_ev (R := LsV (strsV ERCODE)) (ev_catV l4 rfl (ev_lstC _ (by decide) fun _ _ q => q) (by decide)) ?_
  intro v5 H5 t5 l5
  exact ⟨_, rfl, q _ _ ((((s1.trans t2).trans t3).trans t4).trans t5) l5⟩
/-- how many values an error of a code bears -/
def dueOf (c : V) : Nat :=
  if inV c (strsV ["Overlap", "NotFair", "NoRoot"]) then 2 else
  if inV c (strsV ["BadRatio", "BadText", "BadTop", "BadStart", "BadOrder", "OtherLine", "BadRoom", "Meet", "BadWedge"]) then 0 else
  if inV c (strsV ["BadReading", "BadWindow", "BadExchange", "OtherSteps", "NothingLeft", "NotIn", "NotKept", "Level"]) then 0 else
  if decide (c = .str (Str.ofString "NoEntry")) then 0 else 1
theorem due_tab : ((ERCODE.zip ERF).all fun p => decide (dueOf (.str (Str.ofString p.1)) = p.2.length)) = true := by decide +kernel
theorem due_ent {j : Nat} {code : String} {fs : List String} (n : ERCODE[j]? = some code) (f : ERF[j]? = some fs) : dueOf (.str (Str.ofString code)) = fs.length := by
  have h := List.all_eq_true.mp due_tab (code, fs) (List.mem_of_getElem? (i := j) (by rw [List.getElem?_zip_eq_some]; exact ⟨n, f⟩))
  exact of_decide_eq_true h
def spDue : Sp := fun vs H Q _ => ∃ (code : String) (fs : List String) (a b : V) (j : Nat), vs = [.str (Str.ofString code), a, b] ∧ ERCODE[j]? = some code ∧ ERF[j]? = some fs ∧ ∀ t H', Same H H' → H t = none → H' t = some (.tup ([a, b].take fs.length)) → Q (.ref t) H'
theorem ok_due (T : Tx K mg) : FnOk P w K mg base CX0 1 T.f_l_due T.d_l_due ["_law_code", "_law_a", "_law_b"] spDue := by
  refine T.F_l_due.ok sc_l_due (fun vs H Q E h => ?_) (fun cdv A outer s H vs Q E hr h => ?_)
  · obtain ⟨code, fs, a, b, j, rfl, _⟩ := h
    rfl
  obtain ⟨code, fs, va, vb, j, rfl, en, ef, q⟩ := h
  have nd := sc_l_due.nd
  refine ⟨_, (pss_cons (ps_if (pt_cmpR (show OpR _ _ (rIn K false) from op_in_seq) (pv 0) (pe_lst (pa_cons pe_str (pa_cons pe_str (pa_cons pe_str pa_nil)))) rfl) (pss_one (ps_ret (pe_tup (pa_cons (pv 1) (pa_cons (pv 2) pa_nil))))) pss_nil)
    (pss_cons (ps_if (pt_cmpR (show OpR _ _ (rIn K false) from op_in_seq) (pv 0) (pe_lst (pa_cons pe_str (pa_cons pe_str (pa_cons pe_str (pa_cons pe_str (pa_cons pe_str (pa_cons pe_str (pa_cons pe_str (pa_cons pe_str (pa_cons pe_str pa_nil)))))))))) rfl) (pss_one (ps_ret (pe_tup pa_nil))) pss_nil)
    (pss_cons (ps_if (pt_cmpR (show OpR _ _ (rIn K false) from op_in_seq) (pv 0) (pe_lst (pa_cons pe_str (pa_cons pe_str (pa_cons pe_str (pa_cons pe_str (pa_cons pe_str (pa_cons pe_str (pa_cons pe_str (pa_cons pe_str pa_nil))))))))) rfl) (pss_one (ps_ret (pe_tup pa_nil))) pss_nil)
    (pss_one (ps_ret (pe_ifExp (pt_cmpR op_eq (pv 0) pe_str (nomark _)) (pe_tup pa_nil) (pe_tup (pa_cons (pv 1) pa_nil)))))))), ?_⟩
  have hst : L2.start N_l_due [.str (Str.ofString code), va, vb] = [some (.str (Str.ofString code)), some va, some vb] := rfl
  rw [hst]
  have ht := due_ent en ef
  have rc : ∀ {H1 : Hp}, Rd (tVar 0) [some (.str (Str.ofString code)), some va, some vb] H1 (.str (Str.ofString code)) := fun H2 s2 Q q => ⟨_, rfl, q⟩
  have fin : ∀ {H1 : Hp} {xs : List V}, Same H H1 → xs = [va, vb].take fs.length → ∀ t, H1 t = none → Q (.ref t) (upd H1 t (.tup xs)) := fun s1 e t h1 => q t _ (s1.trans (Same.new h1)) (s1.free h1) (by rw [e]; exact upd_same)
  unfold dueOf at ht
  refine seq_in ht rc (by decide) (by decide) (fun e H1 s1 => ?_) (fun ht H1 s1 => ?_)
  · rw [← e] at fin
    exact ⟨_, rfl, _, rfl, by show 2 ≤ sizeLine; decide, fin s1 rfl⟩
  refine seq_in ht rc (by decide) (by decide) (fun e H2 t2 => ?_) (fun ht H2 t2 => ?_)
  · rw [← e] at fin
    exact ⟨by show 0 ≤ sizeLine; decide, fin (s1.trans t2) rfl⟩
  refine seq_in ht rc (by decide) (by decide) (fun e H3 t3 => ?_) (fun ht H3 t3 => ?_)
  · rw [← e] at fin
    exact ⟨by show 0 ≤ sizeLine; decide, fin ((s1.trans t2).trans t3) rfl⟩
  refine ret_eq ht rc (fun e => ?_) (fun e => ?_)
  · rw [← e] at fin
    exact ⟨by show 0 ≤ sizeLine; decide, fin ((s1.trans t2).trans t3) rfl⟩
  · rw [← e] at fin
    exact ⟨_, rfl, by show 1 ≤ sizeLine; decide, fin ((s1.trans t2).trans t3) rfl⟩
end
end TL
namespace TL
open PySem L2

/-! ### steps of a reading -/
local macro_rules | `(tactic| walk_at "hp") => `(tactic| first | assumption | exact upd_same | (refine (upd_ne (by first | assumption | (exact Ne.symm (by assumption)))).trans ?_; walk_at "hp"))
local macro_rules | `(tactic| walk_at "ok") => `(tactic| first | (exact Or.inr ⟨by decide, by decide⟩) | (exact ⟨by decide, by decide⟩) | (exact ⟨by decide, by decide, by decide⟩) | (show _ ≠ _; omega) | (show _ ≠ _; decide) | (exact Or.inl ⟨by omega, by omega⟩) | decide)
local macro_rules | `(tactic| walk_at "sq") => `(tactic| first | assumption | exact SqL.of (by walk_at "hp") | exact SqT.of (by walk_at "hp"))
local macro_rules | `(tactic| walk_at "ty") => `(tactic| first | refine ⟨_, _, Value.type "int", Value.type "list", false, rfl, ClsV.ty _, TyX.base (TyOf.int _), kt_int_list, ?_⟩ | refine ⟨_, _, Value.type "bool", Value.type "list", false, rfl, ClsV.ty _, TyX.base (TyOf.bl _), kt_bool_list, ?_⟩ | refine ⟨_, _, Value.type "str", Value.type "list", false, rfl, ClsV.ty _, TyX.base (TyOf.str _), kt_str_list, ?_⟩ | refine ⟨_, _, Value.type "NoneType", Value.type "list", false, rfl, ClsV.ty _, TyX.base TyOf.non, kt_NoneType_list, ?_⟩ | refine ⟨_, _, Value.type "list", Value.type "list", true, rfl, ClsV.ty _, tyx_L (by walk_at "sq"), kt_list_list, ?_⟩ | refine ⟨_, _, Value.type "tuple", Value.type "list", false, rfl, ClsV.ty _, tyx_T (by walk_at "sq"), kt_tuple_list, ?_⟩ | refine ⟨_, _, Value.type "int", Value.type "tuple", false, rfl, ClsV.ty _, TyX.base (TyOf.int _), kt_int_tuple, ?_⟩ | refine ⟨_, _, Value.type "bool", Value.type "tuple", false, rfl, ClsV.ty _, TyX.base (TyOf.bl _), kt_bool_tuple, ?_⟩ | refine ⟨_, _, Value.type "str", Value.type "tuple", false, rfl, ClsV.ty _, TyX.base (TyOf.str _), kt_str_tuple, ?_⟩ | refine ⟨_, _, Value.type "NoneType", Value.type "tuple", false, rfl, ClsV.ty _, TyX.base TyOf.non, kt_NoneType_tuple, ?_⟩ | refine ⟨_, _, Value.type "list", Value.type "tuple", false, rfl, ClsV.ty _, tyx_L (by walk_at "sq"), kt_list_tuple, ?_⟩ | refine ⟨_, _, Value.type "tuple", Value.type "tuple", true, rfl, ClsV.ty _, tyx_T (by walk_at "sq"), kt_tuple_tuple, ?_⟩ | refine ⟨_, _, Value.type "int", Value.type "bool", false, rfl, ClsV.ty _, TyX.base (TyOf.int _), kt_int_bool, ?_⟩ | refine ⟨_, _, Value.type "bool", Value.type "bool", true, rfl, ClsV.ty _, TyX.base (TyOf.bl _), kt_bool_bool, ?_⟩ | refine ⟨_, _, Value.type "str", Value.type "bool", false, rfl, ClsV.ty _, TyX.base (TyOf.str _), kt_str_bool, ?_⟩ | refine ⟨_, _, Value.type "NoneType", Value.type "bool", false, rfl, ClsV.ty _, TyX.base TyOf.non, kt_NoneType_bool, ?_⟩ | refine ⟨_, _, Value.type "list", Value.type "bool", false, rfl, ClsV.ty _, tyx_L (by walk_at "sq"), kt_list_bool, ?_⟩ | refine ⟨_, _, Value.type "tuple", Value.type "bool", false, rfl, ClsV.ty _, tyx_T (by walk_at "sq"), kt_tuple_bool, ?_⟩ | refine ⟨_, _, Value.type "int", Value.type "int", true, rfl, ClsV.ty _, TyX.base (TyOf.int _), kt_int_int, ?_⟩ | refine ⟨_, _, Value.type "bool", Value.type "int", true, rfl, ClsV.ty _, TyX.base (TyOf.bl _), kt_bool_int, ?_⟩ | refine ⟨_, _, Value.type "str", Value.type "int", false, rfl, ClsV.ty _, TyX.base (TyOf.str _), kt_str_int, ?_⟩ | refine ⟨_, _, Value.type "NoneType", Value.type "int", false, rfl, ClsV.ty _, TyX.base TyOf.non, kt_NoneType_int, ?_⟩ | refine ⟨_, _, Value.type "list", Value.type "int", false, rfl, ClsV.ty _, tyx_L (by walk_at "sq"), kt_list_int, ?_⟩ | refine ⟨_, _, Value.type "tuple", Value.type "int", false, rfl, ClsV.ty _, tyx_T (by walk_at "sq"), kt_tuple_int, ?_⟩ | refine ⟨_, _, Value.type "int", Value.type "str", false, rfl, ClsV.ty _, TyX.base (TyOf.int _), kt_int_str, ?_⟩ | refine ⟨_, _, Value.type "bool", Value.type "str", false, rfl, ClsV.ty _, TyX.base (TyOf.bl _), kt_bool_str, ?_⟩ | refine ⟨_, _, Value.type "str", Value.type "str", true, rfl, ClsV.ty _, TyX.base (TyOf.str _), kt_str_str, ?_⟩ | refine ⟨_, _, Value.type "NoneType", Value.type "str", false, rfl, ClsV.ty _, TyX.base TyOf.non, kt_NoneType_str, ?_⟩ | refine ⟨_, _, Value.type "list", Value.type "str", false, rfl, ClsV.ty _, tyx_L (by walk_at "sq"), kt_list_str, ?_⟩ | refine ⟨_, _, Value.type "tuple", Value.type "str", false, rfl, ClsV.ty _, tyx_T (by walk_at "sq"), kt_tuple_str, ?_⟩)
local macro_rules | `(tactic| walk_at "go1") => `(tactic| first
  | (refine ⟨_, rfl, ?_⟩)
  | (refine ⟨_, _, rfl, rfl, ?_⟩)
  | (refine ⟨_, _, _, _, rfl, rfl, SqL.of (by walk_at "hp"), rfl, ?_⟩)
  | (refine Or.inl ⟨_, rfl, ?_⟩)
  | (refine ⟨rfl, ?_⟩)
  | (refine ⟨_, _, rfl, .inl (SqL.of (by walk_at "hp")), ?_⟩)
  | (refine ⟨_, _, rfl, Or.inl (by assumption), ?_⟩)
  | (refine ⟨_, _, rfl, Or.inr (by assumption), ?_⟩)
  | (refine ⟨(by walk_at "ok"), ?_⟩)
  | (refine ⟨_, _, _, _, rfl, rfl, (by walk_at "hp"), rfl, ?_⟩))
local macro_rules | `(tactic| walk_at "go") => `(tactic| repeat (walk_at "go1"))
local macro_rules | `(tactic| walk_at "gt") => `(tactic| repeat (first | walk_at "go1" | walk_at "ty"))

section
variable {P : Program} {w : World} {K : PySem.W.Frag} {mg : Str → Option Value} {base : Heap}
-- [0=_law_a, 1=_law_b, 2=_law_found] [0=_law_a, 1=_law_b, 2=_law_found]
section
variable {σ : L2.St} {H : Hp} {te : TE} {a b : V} {C : Addr} {code f g : String} {i k : Nat}
theorem evj {T : Tx K mg} {j : Nat} {fs : List String} (en : Ent T j C code fs) (h : Ev te σ H (ErR C (erFs code fs ([a, b].take fs.length)))) : Ev te σ H (ErJ T j a b) := fun H1 s1 Q q => h H1 s1 Q fun v H2 s2 hv => q v H2 s2 ⟨C, code, fs, en, hv⟩
theorem ErJ.mono {T : Tx K mg} {j : Nat} : Mono (ErJ T j a b) := fun H H' v s ⟨C, code, fs, en, hv⟩ => ⟨C, code, fs, en, ErR.mono _ _ _ s hv⟩
theorem erP1 (hi : σ[i]? = some (some a)) : Ev (tEr C (spEr C code [f]) (fun vs _ => vs) (tCons (tVar i) tNil) tNil) σ H (ErR C (erFs code [f] [a])) := ev_er rfl (by simp) fun H1 _ Q q => ⟨_, hi, q [a] [] H1 (Same.refl _) (by simp) fun _ => rfl⟩
theorem erP2 (hi : σ[i]? = some (some a)) (hk : σ[k]? = some (some b)) : Ev (tEr C (spEr C code [f, g]) (fun vs _ => vs) (tCons (tVar i) (tCons (tVar k) tNil)) tNil) σ H (ErR C (erFs code [f, g] [a, b])) := ev_er rfl (by simp) fun H1 _ Q q => ⟨_, hi, _, hk, q [a, b] [] H1 (Same.refl _) (by simp) fun _ => rfl⟩
theorem erK1 (hi : σ[i]? = some (some a)) : Ev (tEr C (spEr C code [f]) g11 tNil (tCons (tVar i) tNil)) σ H (ErR C (erFs code [f] [a])) := ev_er rfl (by simp) fun H1 _ Q q => ⟨_, hi, q [] [a] H1 (Same.refl _) (by simp) fun _ => rfl⟩
theorem erK2 (hi : σ[i]? = some (some a)) (hk : σ[k]? = some (some b)) : Ev (tEr C (spEr C code [f, g]) g12 tNil (tCons (tVar i) (tCons (tVar k) tNil))) σ H (ErR C (erFs code [f, g] [a, b])) := ev_er rfl (by simp) fun H1 _ Q q => ⟨_, hi, _, hk, q [] [a, b] H1 (Same.refl _) (by simp) fun _ => rfl⟩
theorem erK2s (hi : σ[i]? = some (some a)) (hk : σ[k]? = some (some b)) : Ev (tEr C (spEr C code [f, g]) g12s tNil (tCons (tVar k) (tCons (tVar i) tNil))) σ H (ErR C (erFs code [f, g] [a, b])) := ev_er rfl (by simp) fun H1 _ Q q => ⟨_, hk, _, hi, q [] [b, a] H1 (Same.refl _) (by simp) fun _ => rfl⟩
end
/-- errors of the first n classes of the table -/
def LsJ (T : Tx K mg) (a b : V) (n : Nat) : Hp → V → Prop := LstR ((List.range n).map fun j => ErJ T j a b)
theorem monosJ {T : Tx K mg} {a b : V} : ∀ {l : List Nat}, Monos (l.map fun j => ErJ T j a b)
  | [] => trivial
  | _ :: l => ⟨ErJ.mono, monosJ (l := l)⟩
theorem LsJ.mono {T : Tx K mg} {a b : V} {n : Nat} : Mono (LsJ T a b n) := LstR.mono monosJ
def spMade (T : Tx K mg) : Sp := fun vs H Q _ => ∃ a b, vs = [a, b] ∧ ∀ u H', Same H H' → LsJ T a b 42 H' u → Q u H'

theorem ok_place (T : Tx K mg) : FnOk P w K mg base CX0 3 T.f_l_by_place T.d_l_by_place ["_law_a", "_law_b"] (spMade T) := by
  have G_BadRatio_init := ok_BadRatio (P := P) (w := w) (base := base) T
  have G_BadText_init := ok_BadText (P := P) (w := w) (base := base) T
  have G_BadLine_init := ok_BadLine (P := P) (w := w) (base := base) T
  have G_BadTop_init := ok_BadTop (P := P) (w := w) (base := base) T
  have G_BadStart_init := ok_BadStart (P := P) (w := w) (base := base) T
  have G_BadLength_init := ok_BadLength (P := P) (w := w) (base := base) T
  have G_BadOrder_init := ok_BadOrder (P := P) (w := w) (base := base) T
  have G_BadRow_init := ok_BadRow (P := P) (w := w) (base := base) T
  have G_OffLine_init := ok_OffLine (P := P) (w := w) (base := base) T
  have G_Overlap_init := ok_Overlap (P := P) (w := w) (base := base) T
  have G_NotFilled_init := ok_NotFilled (P := P) (w := w) (base := base) T
  have G_OtherLine_init := ok_OtherLine (P := P) (w := w) (base := base) T
  have G_BadRoom_init := ok_BadRoom (P := P) (w := w) (base := base) T
  have G_BadSwap_init := ok_BadSwap (P := P) (w := w) (base := base) T
  have G_Meet_init := ok_Meet (P := P) (w := w) (base := base) T
  have G_BadWedge_init := ok_BadWedge (P := P) (w := w) (base := base) T
  have G_BadReading_init := ok_BadReading (P := P) (w := w) (base := base) T
  have G_BadWindow_init := ok_BadWindow (P := P) (w := w) (base := base) T
  have G_BadName_init := ok_BadName (P := P) (w := w) (base := base) T
  have G_BadNumber_init := ok_BadNumber (P := P) (w := w) (base := base) T
  have G_BadDeed_init := ok_BadDeed (P := P) (w := w) (base := base) T
  have G_BadExchange_init := ok_BadExchange (P := P) (w := w) (base := base) T
  have G_BadLimit_init := ok_BadLimit (P := P) (w := w) (base := base) T
  have G_Double_init := ok_Double (P := P) (w := w) (base := base) T
  have G_TooMany_init := ok_TooMany (P := P) (w := w) (base := base) T
  have G_Unlike_init := ok_Unlike (P := P) (w := w) (base := base) T
  have G_OtherSteps_init := ok_OtherSteps (P := P) (w := w) (base := base) T
  have G_NothingLeft_init := ok_NothingLeft (P := P) (w := w) (base := base) T
  have G_OwesMore_init := ok_OwesMore (P := P) (w := w) (base := base) T
  have G_NotOnLine_init := ok_NotOnLine (P := P) (w := w) (base := base) T
  have G_NoPrime_init := ok_NoPrime (P := P) (w := w) (base := base) T
  have G_UnknownName_init := ok_UnknownName (P := P) (w := w) (base := base) T
  have G_NotIn_init := ok_NotIn (P := P) (w := w) (base := base) T
  have G_NotFair_init := ok_NotFair (P := P) (w := w) (base := base) T
  have G_NotKept_init := ok_NotKept (P := P) (w := w) (base := base) T
  have G_Odd_init := ok_Odd (P := P) (w := w) (base := base) T
  have G_NoRoot_init := ok_NoRoot (P := P) (w := w) (base := base) T
  have G_Unfit_init := ok_Unfit (P := P) (w := w) (base := base) T
  have G_Unmade_init := ok_Unmade (P := P) (w := w) (base := base) T
  have G_TooLong_init := ok_TooLong (P := P) (w := w) (base := base) T
  have G_Level_init := ok_Level (P := P) (w := w) (base := base) T
  have G_NoEntry_init := ok_NoEntry (P := P) (w := w) (base := base) T
  refine T.F_l_by_place.ok sc_l_by_place (fun vs H Q E h => ?_) (fun cdv A outer s H vs Q E hr h => ?_)
  · obtain ⟨a, b, rfl, _⟩ := h
    rfl
  obtain ⟨va, vb, rfl, q⟩ := h
  have nd := sc_l_by_place.nd
  refine ⟨_, (pss_cons (ps_set (i := 2) nd rfl (Or.inl rfl) (pe_lst (pa_cons (pe_er0 T.x_BadRatio T.iC_BadRatio T.tI_BadRatio G_BadRatio_init hr pass0 (by rfl) T.g_BadRatio T.b_BadRatio_init) (pa_cons (pe_er0 T.x_BadText T.iC_BadText T.tI_BadText G_BadText_init hr pass0 (by rfl) T.g_BadText T.b_BadText_init) (pa_cons (pe_erA T.x_BadLine T.iC_BadLine T.tI_BadLine G_BadLine_init hr pass0 (by rfl) T.g_BadLine T.b_BadLine_init (pa_cons (pv 0) pa_nil)) (pa_cons (pe_er0 T.x_BadTop T.iC_BadTop T.tI_BadTop G_BadTop_init hr pass0 (by rfl) T.g_BadTop T.b_BadTop_init) (pa_cons (pe_er0 T.x_BadStart T.iC_BadStart T.tI_BadStart G_BadStart_init hr pass0 (by rfl) T.g_BadStart T.b_BadStart_init) (pa_cons (pe_erA T.x_BadLength T.iC_BadLength T.tI_BadLength G_BadLength_init hr pass0 (by rfl) T.g_BadLength T.b_BadLength_init (pa_cons (pv 0) pa_nil)) (pa_cons (pe_er0 T.x_BadOrder T.iC_BadOrder T.tI_BadOrder G_BadOrder_init hr pass0 (by rfl) T.g_BadOrder T.b_BadOrder_init) (pa_cons (pe_erA T.x_BadRow T.iC_BadRow T.tI_BadRow G_BadRow_init hr pass0 (by rfl) T.g_BadRow T.b_BadRow_init (pa_cons (pv 0) pa_nil)) (pa_cons (pe_erA T.x_OffLine T.iC_OffLine T.tI_OffLine G_OffLine_init hr pass0 (by rfl) T.g_OffLine T.b_OffLine_init (pa_cons (pv 0) pa_nil)) pa_nil)))))))))))
    (pss_cons (ps_set (i := 2) nd rfl (Or.inl rfl) (pe_op op_cat (pv 2) (pe_lst (pa_cons (pe_erA T.x_Overlap T.iC_Overlap T.tI_Overlap G_Overlap_init hr pass0 (by rfl) T.g_Overlap T.b_Overlap_init (pa_cons (pv 0) (pa_cons (pv 1) pa_nil))) (pa_cons (pe_erA T.x_NotFilled T.iC_NotFilled T.tI_NotFilled G_NotFilled_init hr pass0 (by rfl) T.g_NotFilled T.b_NotFilled_init (pa_cons (pv 0) pa_nil)) (pa_cons (pe_er0 T.x_OtherLine T.iC_OtherLine T.tI_OtherLine G_OtherLine_init hr pass0 (by rfl) T.g_OtherLine T.b_OtherLine_init) (pa_cons (pe_er0 T.x_BadRoom T.iC_BadRoom T.tI_BadRoom G_BadRoom_init hr pass0 (by rfl) T.g_BadRoom T.b_BadRoom_init) (pa_cons (pe_erA T.x_BadSwap T.iC_BadSwap T.tI_BadSwap G_BadSwap_init hr pass0 (by rfl) T.g_BadSwap T.b_BadSwap_init (pa_cons (pv 0) pa_nil)) (pa_cons (pe_er0 T.x_Meet T.iC_Meet T.tI_Meet G_Meet_init hr pass0 (by rfl) T.g_Meet T.b_Meet_init) (pa_cons (pe_er0 T.x_BadWedge T.iC_BadWedge T.tI_BadWedge G_BadWedge_init hr pass0 (by rfl) T.g_BadWedge T.b_BadWedge_init) pa_nil))))))))))
    (pss_cons (ps_set (i := 2) nd rfl (Or.inl rfl) (pe_op op_cat (pv 2) (pe_lst (pa_cons (pe_er0 T.x_BadReading T.iC_BadReading T.tI_BadReading G_BadReading_init hr pass0 (by rfl) T.g_BadReading T.b_BadReading_init) (pa_cons (pe_er0 T.x_BadWindow T.iC_BadWindow T.tI_BadWindow G_BadWindow_init hr pass0 (by rfl) T.g_BadWindow T.b_BadWindow_init) (pa_cons (pe_erA T.x_BadName T.iC_BadName T.tI_BadName G_BadName_init hr pass0 (by rfl) T.g_BadName T.b_BadName_init (pa_cons (pv 0) pa_nil)) (pa_cons (pe_erA T.x_BadNumber T.iC_BadNumber T.tI_BadNumber G_BadNumber_init hr pass0 (by rfl) T.g_BadNumber T.b_BadNumber_init (pa_cons (pv 0) pa_nil)) (pa_cons (pe_erA T.x_BadDeed T.iC_BadDeed T.tI_BadDeed G_BadDeed_init hr pass0 (by rfl) T.g_BadDeed T.b_BadDeed_init (pa_cons (pv 0) pa_nil)) (pa_cons (pe_er0 T.x_BadExchange T.iC_BadExchange T.tI_BadExchange G_BadExchange_init hr pass0 (by rfl) T.g_BadExchange T.b_BadExchange_init) (pa_cons (pe_erA T.x_BadLimit T.iC_BadLimit T.tI_BadLimit G_BadLimit_init hr pass0 (by rfl) T.g_BadLimit T.b_BadLimit_init (pa_cons (pv 0) pa_nil)) pa_nil))))))))))
    (pss_cons (ps_set (i := 2) nd rfl (Or.inl rfl) (pe_op op_cat (pv 2) (pe_lst (pa_cons (pe_erA T.x_Double T.iC_Double T.tI_Double G_Double_init hr pass0 (by rfl) T.g_Double T.b_Double_init (pa_cons (pv 0) pa_nil)) (pa_cons (pe_erA T.x_TooMany T.iC_TooMany T.tI_TooMany G_TooMany_init hr pass0 (by rfl) T.g_TooMany T.b_TooMany_init (pa_cons (pv 0) pa_nil)) (pa_cons (pe_erA T.x_Unlike T.iC_Unlike T.tI_Unlike G_Unlike_init hr pass0 (by rfl) T.g_Unlike T.b_Unlike_init (pa_cons (pv 0) pa_nil)) (pa_cons (pe_er0 T.x_OtherSteps T.iC_OtherSteps T.tI_OtherSteps G_OtherSteps_init hr pass0 (by rfl) T.g_OtherSteps T.b_OtherSteps_init) (pa_cons (pe_er0 T.x_NothingLeft T.iC_NothingLeft T.tI_NothingLeft G_NothingLeft_init hr pass0 (by rfl) T.g_NothingLeft T.b_NothingLeft_init) (pa_cons (pe_erA T.x_OwesMore T.iC_OwesMore T.tI_OwesMore G_OwesMore_init hr pass0 (by rfl) T.g_OwesMore T.b_OwesMore_init (pa_cons (pv 0) pa_nil)) (pa_cons (pe_erA T.x_NotOnLine T.iC_NotOnLine T.tI_NotOnLine G_NotOnLine_init hr pass0 (by rfl) T.g_NotOnLine T.b_NotOnLine_init (pa_cons (pv 0) pa_nil)) pa_nil))))))))))
    (pss_cons (ps_set (i := 2) nd rfl (Or.inl rfl) (pe_op op_cat (pv 2) (pe_lst (pa_cons (pe_erA T.x_NoPrime T.iC_NoPrime T.tI_NoPrime G_NoPrime_init hr pass0 (by rfl) T.g_NoPrime T.b_NoPrime_init (pa_cons (pv 0) pa_nil)) (pa_cons (pe_erA T.x_UnknownName T.iC_UnknownName T.tI_UnknownName G_UnknownName_init hr pass0 (by rfl) T.g_UnknownName T.b_UnknownName_init (pa_cons (pv 0) pa_nil)) (pa_cons (pe_er0 T.x_NotIn T.iC_NotIn T.tI_NotIn G_NotIn_init hr pass0 (by rfl) T.g_NotIn T.b_NotIn_init) (pa_cons (pe_erA T.x_NotFair T.iC_NotFair T.tI_NotFair G_NotFair_init hr pass0 (by rfl) T.g_NotFair T.b_NotFair_init (pa_cons (pv 0) (pa_cons (pv 1) pa_nil))) (pa_cons (pe_er0 T.x_NotKept T.iC_NotKept T.tI_NotKept G_NotKept_init hr pass0 (by rfl) T.g_NotKept T.b_NotKept_init) (pa_cons (pe_erA T.x_Odd T.iC_Odd T.tI_Odd G_Odd_init hr pass0 (by rfl) T.g_Odd T.b_Odd_init (pa_cons (pv 0) pa_nil)) (pa_cons (pe_erA T.x_NoRoot T.iC_NoRoot T.tI_NoRoot G_NoRoot_init hr pass0 (by rfl) T.g_NoRoot T.b_NoRoot_init (pa_cons (pv 0) (pa_cons (pv 1) pa_nil))) (pa_cons (pe_erA T.x_Unfit T.iC_Unfit T.tI_Unfit G_Unfit_init hr pass0 (by rfl) T.g_Unfit T.b_Unfit_init (pa_cons (pv 0) pa_nil)) pa_nil)))))))))))
    (pss_one (ps_ret (pe_op op_cat (pv 2) (pe_lst (pa_cons (pe_erA T.x_Unmade T.iC_Unmade T.tI_Unmade G_Unmade_init hr pass0 (by rfl) T.g_Unmade T.b_Unmade_init (pa_cons (pv 0) pa_nil)) (pa_cons (pe_erA T.x_TooLong T.iC_TooLong T.tI_TooLong G_TooLong_init hr pass0 (by rfl) T.g_TooLong T.b_TooLong_init (pa_cons (pv 0) pa_nil)) (pa_cons (pe_er0 T.x_Level T.iC_Level T.tI_Level G_Level_init hr pass0 (by rfl) T.g_Level T.b_Level_init) (pa_cons (pe_er0 T.x_NoEntry T.iC_NoEntry T.tI_NoEntry G_NoEntry_init hr pass0 (by rfl) T.g_NoEntry T.b_NoEntry_init) pa_nil))))))))))))), ?_⟩
  refine asg_ev (R := LsJ T va vb 9) (ev_lst (evs_cons (evj (C := T.C_BadRatio) (j := 0) ⟨rfl, rfl, rfl⟩ ev_er0) ErJ.mono (evs_cons (evj (C := T.C_BadText) (j := 1) ⟨rfl, rfl, rfl⟩ ev_er0) ErJ.mono (evs_cons (evj (C := T.C_BadLine) (j := 2) ⟨rfl, rfl, rfl⟩ (erP1 rfl)) ErJ.mono (evs_cons (evj (C := T.C_BadTop) (j := 3) ⟨rfl, rfl, rfl⟩ ev_er0) ErJ.mono (evs_cons (evj (C := T.C_BadStart) (j := 4) ⟨rfl, rfl, rfl⟩ ev_er0) ErJ.mono (evs_cons (evj (C := T.C_BadLength) (j := 5) ⟨rfl, rfl, rfl⟩ (erP1 rfl)) ErJ.mono (evs_cons (evj (C := T.C_BadOrder) (j := 6) ⟨rfl, rfl, rfl⟩ ev_er0) ErJ.mono (evs_cons (evj (C := T.C_BadRow) (j := 7) ⟨rfl, rfl, rfl⟩ (erP1 rfl)) ErJ.mono (evs_cons (evj (C := T.C_OffLine) (j := 8) ⟨rfl, rfl, rfl⟩ (erP1 rfl)) ErJ.mono evs_nil))))))))) ⟨ErJ.mono, ErJ.mono, ErJ.mono, ErJ.mono, ErJ.mono, ErJ.mono, ErJ.mono, ErJ.mono, ErJ.mono, trivial⟩ (by simp)) ?_
  intro v1 H1 s1 l1
  refine asg_ev (R := LsJ T va vb 16) (ev_cat (Rs := (List.range 9).map fun j => ErJ T j va vb) (ev_var rfl fun H' s => LsJ.mono _ _ _ s l1) monosJ (ev_lst (evs_cons (evj (C := T.C_Overlap) (j := 9) ⟨rfl, rfl, rfl⟩ (erP2 rfl rfl)) ErJ.mono (evs_cons (evj (C := T.C_NotFilled) (j := 10) ⟨rfl, rfl, rfl⟩ (erP1 rfl)) ErJ.mono (evs_cons (evj (C := T.C_OtherLine) (j := 11) ⟨rfl, rfl, rfl⟩ ev_er0) ErJ.mono (evs_cons (evj (C := T.C_BadRoom) (j := 12) ⟨rfl, rfl, rfl⟩ ev_er0) ErJ.mono (evs_cons (evj (C := T.C_BadSwap) (j := 13) ⟨rfl, rfl, rfl⟩ (erP1 rfl)) ErJ.mono (evs_cons (evj (C := T.C_Meet) (j := 14) ⟨rfl, rfl, rfl⟩ ev_er0) ErJ.mono (evs_cons (evj (C := T.C_BadWedge) (j := 15) ⟨rfl, rfl, rfl⟩ ev_er0) ErJ.mono evs_nil))))))) ⟨ErJ.mono, ErJ.mono, ErJ.mono, ErJ.mono, ErJ.mono, ErJ.mono, ErJ.mono, trivial⟩ (by simp)) ⟨ErJ.mono, ErJ.mono, ErJ.mono, ErJ.mono, ErJ.mono, ErJ.mono, ErJ.mono, trivial⟩ (by simp)) ?_
  intro v2 H2 t2 l2
  have s2 := s1.trans t2
  refine asg_ev (R := LsJ T va vb 23) (ev_cat (Rs := (List.range 16).map fun j => ErJ T j va vb) (ev_var rfl fun H' s => LsJ.mono _ _ _ s l2) monosJ (ev_lst (evs_cons (evj (C := T.C_BadReading) (j := 16) ⟨rfl, rfl, rfl⟩ ev_er0) ErJ.mono (evs_cons (evj (C := T.C_BadWindow) (j := 17) ⟨rfl, rfl, rfl⟩ ev_er0) ErJ.mono (evs_cons (evj (C := T.C_BadName) (j := 18) ⟨rfl, rfl, rfl⟩ (erP1 rfl)) ErJ.mono (evs_cons (evj (C := T.C_BadNumber) (j := 19) ⟨rfl, rfl, rfl⟩ (erP1 rfl)) ErJ.mono (evs_cons (evj (C := T.C_BadDeed) (j := 20) ⟨rfl, rfl, rfl⟩ (erP1 rfl)) ErJ.mono (evs_cons (evj (C := T.C_BadExchange) (j := 21) ⟨rfl, rfl, rfl⟩ ev_er0) ErJ.mono (evs_cons (evj (C := T.C_BadLimit) (j := 22) ⟨rfl, rfl, rfl⟩ (erP1 rfl)) ErJ.mono evs_nil))))))) ⟨ErJ.mono, ErJ.mono, ErJ.mono, ErJ.mono, ErJ.mono, ErJ.mono, ErJ.mono, trivial⟩ (by simp)) ⟨ErJ.mono, ErJ.mono, ErJ.mono, ErJ.mono, ErJ.mono, ErJ.mono, ErJ.mono, trivial⟩ (by simp)) ?_
  intro v3 H3 t3 l3
  have s3 := s2.trans t3
  refine asg_ev (R := LsJ T va vb 30) (ev_cat (Rs := (List.range 23).map fun j => ErJ T j va vb) (ev_var rfl fun H' s => LsJ.mono _ _ _ s l3) monosJ (ev_lst (evs_cons (evj (C := T.C_Double) (j := 23) ⟨rfl, rfl, rfl⟩ (erP1 rfl)) ErJ.mono (evs_cons (evj (C := T.C_TooMany) (j := 24) ⟨rfl, rfl, rfl⟩ (erP1 rfl)) ErJ.mono (evs_cons (evj (C := T.C_Unlike) (j := 25) ⟨rfl, rfl, rfl⟩ (erP1 rfl)) ErJ.mono (evs_cons (evj (C := T.C_OtherSteps) (j := 26) ⟨rfl, rfl, rfl⟩ ev_er0) ErJ.mono (evs_cons (evj (C := T.C_NothingLeft) (j := 27) ⟨rfl, rfl, rfl⟩ ev_er0) ErJ.mono (evs_cons (evj (C := T.C_OwesMore) (j := 28) ⟨rfl, rfl, rfl⟩ (erP1 rfl)) ErJ.mono (evs_cons (evj (C := T.C_NotOnLine) (j := 29) ⟨rfl, rfl, rfl⟩ (erP1 rfl)) ErJ.mono evs_nil))))))) ⟨ErJ.mono, ErJ.mono, ErJ.mono, ErJ.mono, ErJ.mono, ErJ.mono, ErJ.mono, trivial⟩ (by simp)) ⟨ErJ.mono, ErJ.mono, ErJ.mono, ErJ.mono, ErJ.mono, ErJ.mono, ErJ.mono, trivial⟩ (by simp)) ?_
  intro v4 H4 t4 l4
  have s4 := s3.trans t4
  refine asg_ev (R := LsJ T va vb 38) (ev_cat (Rs := (List.range 30).map fun j => ErJ T j va vb) (ev_var rfl fun H' s => LsJ.mono _ _ _ s l4) monosJ (ev_lst (evs_cons (evj (C := T.C_NoPrime) (j := 30) ⟨rfl, rfl, rfl⟩ (erP1 rfl)) ErJ.mono (evs_cons (evj (C := T.C_UnknownName) (j := 31) ⟨rfl, rfl, rfl⟩ (erP1 rfl)) ErJ.mono (evs_cons (evj (C := T.C_NotIn) (j := 32) ⟨rfl, rfl, rfl⟩ ev_er0) ErJ.mono (evs_cons (evj (C := T.C_NotFair) (j := 33) ⟨rfl, rfl, rfl⟩ (erP2 rfl rfl)) ErJ.mono (evs_cons (evj (C := T.C_NotKept) (j := 34) ⟨rfl, rfl, rfl⟩ ev_er0) ErJ.mono (evs_cons (evj (C := T.C_Odd) (j := 35) ⟨rfl, rfl, rfl⟩ (erP1 rfl)) ErJ.mono (evs_cons (evj (C := T.C_NoRoot) (j := 36) ⟨rfl, rfl, rfl⟩ (erP2 rfl rfl)) ErJ.mono (evs_cons (evj (C := T.C_Unfit) (j := 37) ⟨rfl, rfl, rfl⟩ (erP1 rfl)) ErJ.mono evs_nil)))))))) ⟨ErJ.mono, ErJ.mono, ErJ.mono, ErJ.mono, ErJ.mono, ErJ.mono, ErJ.mono, ErJ.mono, trivial⟩ (by simp)) ⟨ErJ.mono, ErJ.mono, ErJ.mono, ErJ.mono, ErJ.mono, ErJ.mono, ErJ.mono, ErJ.mono, trivial⟩ (by simp)) ?_
  intro v5 H5 t5 l5
  have s5 := s4.trans t5
  exact ret_ev (R := LsJ T va vb 42) (ev_cat (Rs := (List.range 38).map fun j => ErJ T j va vb) (ev_var rfl fun H' s => LsJ.mono _ _ _ s l5) monosJ (ev_lst (evs_cons (evj (C := T.C_Unmade) (j := 38) ⟨rfl, rfl, rfl⟩ (erP1 rfl)) ErJ.mono (evs_cons (evj (C := T.C_TooLong) (j := 39) ⟨rfl, rfl, rfl⟩ (erP1 rfl)) ErJ.mono (evs_cons (evj (C := T.C_Level) (j := 40) ⟨rfl, rfl, rfl⟩ ev_er0) ErJ.mono (evs_cons (evj (C := T.C_NoEntry) (j := 41) ⟨rfl, rfl, rfl⟩ ev_er0) ErJ.mono evs_nil)))) ⟨ErJ.mono, ErJ.mono, ErJ.mono, ErJ.mono, trivial⟩ (by simp)) ⟨ErJ.mono, ErJ.mono, ErJ.mono, ErJ.mono, trivial⟩ (by simp)) fun u H' s' l' => q u H' (s5.trans s') l'
theorem ok_name (T : Tx K mg) : FnOk P w K mg base CX0 3 T.f_l_by_name T.d_l_by_name ["_law_a", "_law_b"] (spMade T) := by
  have G_BadRatio_init := ok_BadRatio (P := P) (w := w) (base := base) T
  have G_BadText_init := ok_BadText (P := P) (w := w) (base := base) T
  have G_BadLine_init := ok_BadLine (P := P) (w := w) (base := base) T
  have G_BadTop_init := ok_BadTop (P := P) (w := w) (base := base) T
  have G_BadStart_init := ok_BadStart (P := P) (w := w) (base := base) T
  have G_BadLength_init := ok_BadLength (P := P) (w := w) (base := base) T
  have G_BadOrder_init := ok_BadOrder (P := P) (w := w) (base := base) T
  have G_BadRow_init := ok_BadRow (P := P) (w := w) (base := base) T
  have G_OffLine_init := ok_OffLine (P := P) (w := w) (base := base) T
  have G_Overlap_init := ok_Overlap (P := P) (w := w) (base := base) T
  have G_NotFilled_init := ok_NotFilled (P := P) (w := w) (base := base) T
  have G_OtherLine_init := ok_OtherLine (P := P) (w := w) (base := base) T
  have G_BadRoom_init := ok_BadRoom (P := P) (w := w) (base := base) T
  have G_BadSwap_init := ok_BadSwap (P := P) (w := w) (base := base) T
  have G_Meet_init := ok_Meet (P := P) (w := w) (base := base) T
  have G_BadWedge_init := ok_BadWedge (P := P) (w := w) (base := base) T
  have G_BadReading_init := ok_BadReading (P := P) (w := w) (base := base) T
  have G_BadWindow_init := ok_BadWindow (P := P) (w := w) (base := base) T
  have G_BadName_init := ok_BadName (P := P) (w := w) (base := base) T
  have G_BadNumber_init := ok_BadNumber (P := P) (w := w) (base := base) T
  have G_BadDeed_init := ok_BadDeed (P := P) (w := w) (base := base) T
  have G_BadExchange_init := ok_BadExchange (P := P) (w := w) (base := base) T
  have G_BadLimit_init := ok_BadLimit (P := P) (w := w) (base := base) T
  have G_Double_init := ok_Double (P := P) (w := w) (base := base) T
  have G_TooMany_init := ok_TooMany (P := P) (w := w) (base := base) T
  have G_Unlike_init := ok_Unlike (P := P) (w := w) (base := base) T
  have G_OtherSteps_init := ok_OtherSteps (P := P) (w := w) (base := base) T
  have G_NothingLeft_init := ok_NothingLeft (P := P) (w := w) (base := base) T
  have G_OwesMore_init := ok_OwesMore (P := P) (w := w) (base := base) T
  have G_NotOnLine_init := ok_NotOnLine (P := P) (w := w) (base := base) T
  have G_NoPrime_init := ok_NoPrime (P := P) (w := w) (base := base) T
  have G_UnknownName_init := ok_UnknownName (P := P) (w := w) (base := base) T
  have G_NotIn_init := ok_NotIn (P := P) (w := w) (base := base) T
  have G_NotFair_init := ok_NotFair (P := P) (w := w) (base := base) T
  have G_NotKept_init := ok_NotKept (P := P) (w := w) (base := base) T
  have G_Odd_init := ok_Odd (P := P) (w := w) (base := base) T
  have G_NoRoot_init := ok_NoRoot (P := P) (w := w) (base := base) T
  have G_Unfit_init := ok_Unfit (P := P) (w := w) (base := base) T
  have G_Unmade_init := ok_Unmade (P := P) (w := w) (base := base) T
  have G_TooLong_init := ok_TooLong (P := P) (w := w) (base := base) T
  have G_Level_init := ok_Level (P := P) (w := w) (base := base) T
  have G_NoEntry_init := ok_NoEntry (P := P) (w := w) (base := base) T
  refine T.F_l_by_name.ok sc_l_by_name (fun vs H Q E h => ?_) (fun cdv A outer s H vs Q E hr h => ?_)
  · obtain ⟨a, b, rfl, _⟩ := h
    rfl
  obtain ⟨va, vb, rfl, q⟩ := h
  have nd := sc_l_by_name.nd
  refine ⟨_, (pss_cons (ps_set (i := 2) nd rfl (Or.inl rfl) (pe_lst (pa_cons (pe_er0 T.x_BadRatio T.iC_BadRatio T.tI_BadRatio G_BadRatio_init hr pass0 (by rfl) T.g_BadRatio T.b_BadRatio_init) (pa_cons (pe_er0 T.x_BadText T.iC_BadText T.tI_BadText G_BadText_init hr pass0 (by rfl) T.g_BadText T.b_BadText_init) (pa_cons (pe_erK T.x_BadLine T.iC_BadLine T.tI_BadLine G_BadLine_init hr pass0 (by rfl) T.g_BadLine T.kb_BadLine_line (pk_cons (pv 0) pk_nil)) (pa_cons (pe_er0 T.x_BadTop T.iC_BadTop T.tI_BadTop G_BadTop_init hr pass0 (by rfl) T.g_BadTop T.b_BadTop_init) (pa_cons (pe_er0 T.x_BadStart T.iC_BadStart T.tI_BadStart G_BadStart_init hr pass0 (by rfl) T.g_BadStart T.b_BadStart_init) (pa_cons (pe_erK T.x_BadLength T.iC_BadLength T.tI_BadLength G_BadLength_init hr pass0 (by rfl) T.g_BadLength T.kb_BadLength_at (pk_cons (pv 0) pk_nil)) (pa_cons (pe_er0 T.x_BadOrder T.iC_BadOrder T.tI_BadOrder G_BadOrder_init hr pass0 (by rfl) T.g_BadOrder T.b_BadOrder_init) (pa_cons (pe_erK T.x_BadRow T.iC_BadRow T.tI_BadRow G_BadRow_init hr pass0 (by rfl) T.g_BadRow T.kb_BadRow_at (pk_cons (pv 0) pk_nil)) pa_nil))))))))))
    (pss_cons (ps_set (i := 2) nd rfl (Or.inl rfl) (pe_op op_cat (pv 2) (pe_lst (pa_cons (pe_erK T.x_OffLine T.iC_OffLine T.tI_OffLine G_OffLine_init hr pass0 (by rfl) T.g_OffLine T.kb_OffLine_at (pk_cons (pv 0) pk_nil)) (pa_cons (pe_erK T.x_Overlap T.iC_Overlap T.tI_Overlap G_Overlap_init hr pass0 (by rfl) T.g_Overlap T.kb_Overlap_other_one (pk_cons (pv 1) (pk_cons (pv 0) pk_nil))) (pa_cons (pe_erK T.x_NotFilled T.iC_NotFilled T.tI_NotFilled G_NotFilled_init hr pass0 (by rfl) T.g_NotFilled T.kb_NotFilled_missing (pk_cons (pv 0) pk_nil)) (pa_cons (pe_er0 T.x_OtherLine T.iC_OtherLine T.tI_OtherLine G_OtherLine_init hr pass0 (by rfl) T.g_OtherLine T.b_OtherLine_init) (pa_cons (pe_er0 T.x_BadRoom T.iC_BadRoom T.tI_BadRoom G_BadRoom_init hr pass0 (by rfl) T.g_BadRoom T.b_BadRoom_init) pa_nil))))))))
    (pss_cons (ps_set (i := 2) nd rfl (Or.inl rfl) (pe_op op_cat (pv 2) (pe_lst (pa_cons (pe_erK T.x_BadSwap T.iC_BadSwap T.tI_BadSwap G_BadSwap_init hr pass0 (by rfl) T.g_BadSwap T.kb_BadSwap_at (pk_cons (pv 0) pk_nil)) (pa_cons (pe_er0 T.x_Meet T.iC_Meet T.tI_Meet G_Meet_init hr pass0 (by rfl) T.g_Meet T.b_Meet_init) (pa_cons (pe_er0 T.x_BadWedge T.iC_BadWedge T.tI_BadWedge G_BadWedge_init hr pass0 (by rfl) T.g_BadWedge T.b_BadWedge_init) (pa_cons (pe_er0 T.x_BadReading T.iC_BadReading T.tI_BadReading G_BadReading_init hr pass0 (by rfl) T.g_BadReading T.b_BadReading_init) (pa_cons (pe_er0 T.x_BadWindow T.iC_BadWindow T.tI_BadWindow G_BadWindow_init hr pass0 (by rfl) T.g_BadWindow T.b_BadWindow_init) (pa_cons (pe_erK T.x_BadName T.iC_BadName T.tI_BadName G_BadName_init hr pass0 (by rfl) T.g_BadName T.kb_BadName_value (pk_cons (pv 0) pk_nil)) pa_nil)))))))))
    (pss_cons (ps_set (i := 2) nd rfl (Or.inl rfl) (pe_op op_cat (pv 2) (pe_lst (pa_cons (pe_erK T.x_BadNumber T.iC_BadNumber T.tI_BadNumber G_BadNumber_init hr pass0 (by rfl) T.g_BadNumber T.kb_BadNumber_value (pk_cons (pv 0) pk_nil)) (pa_cons (pe_erK T.x_BadDeed T.iC_BadDeed T.tI_BadDeed G_BadDeed_init hr pass0 (by rfl) T.g_BadDeed T.kb_BadDeed_at (pk_cons (pv 0) pk_nil)) (pa_cons (pe_er0 T.x_BadExchange T.iC_BadExchange T.tI_BadExchange G_BadExchange_init hr pass0 (by rfl) T.g_BadExchange T.b_BadExchange_init) (pa_cons (pe_erK T.x_BadLimit T.iC_BadLimit T.tI_BadLimit G_BadLimit_init hr pass0 (by rfl) T.g_BadLimit T.kb_BadLimit_value (pk_cons (pv 0) pk_nil)) (pa_cons (pe_erK T.x_Double T.iC_Double T.tI_Double G_Double_init hr pass0 (by rfl) T.g_Double T.kb_Double_name (pk_cons (pv 0) pk_nil)) pa_nil))))))))
    (pss_cons (ps_set (i := 2) nd rfl (Or.inl rfl) (pe_op op_cat (pv 2) (pe_lst (pa_cons (pe_erK T.x_TooMany T.iC_TooMany T.tI_TooMany G_TooMany_init hr pass0 (by rfl) T.g_TooMany T.kb_TooMany_most (pk_cons (pv 0) pk_nil)) (pa_cons (pe_erK T.x_Unlike T.iC_Unlike T.tI_Unlike G_Unlike_init hr pass0 (by rfl) T.g_Unlike T.kb_Unlike_colour (pk_cons (pv 0) pk_nil)) (pa_cons (pe_er0 T.x_OtherSteps T.iC_OtherSteps T.tI_OtherSteps G_OtherSteps_init hr pass0 (by rfl) T.g_OtherSteps T.b_OtherSteps_init) (pa_cons (pe_er0 T.x_NothingLeft T.iC_NothingLeft T.tI_NothingLeft G_NothingLeft_init hr pass0 (by rfl) T.g_NothingLeft T.b_NothingLeft_init) (pa_cons (pe_erK T.x_OwesMore T.iC_OwesMore T.tI_OwesMore G_OwesMore_init hr pass0 (by rfl) T.g_OwesMore T.kb_OwesMore_name (pk_cons (pv 0) pk_nil)) pa_nil))))))))
    (pss_cons (ps_set (i := 2) nd rfl (Or.inl rfl) (pe_op op_cat (pv 2) (pe_lst (pa_cons (pe_erK T.x_NotOnLine T.iC_NotOnLine T.tI_NotOnLine G_NotOnLine_init hr pass0 (by rfl) T.g_NotOnLine T.kb_NotOnLine_tone (pk_cons (pv 0) pk_nil)) (pa_cons (pe_erK T.x_NoPrime T.iC_NoPrime T.tI_NoPrime G_NoPrime_init hr pass0 (by rfl) T.g_NoPrime T.kb_NoPrime_value (pk_cons (pv 0) pk_nil)) (pa_cons (pe_erK T.x_UnknownName T.iC_UnknownName T.tI_UnknownName G_UnknownName_init hr pass0 (by rfl) T.g_UnknownName T.kb_UnknownName_name (pk_cons (pv 0) pk_nil)) (pa_cons (pe_er0 T.x_NotIn T.iC_NotIn T.tI_NotIn G_NotIn_init hr pass0 (by rfl) T.g_NotIn T.b_NotIn_init) (pa_cons (pe_erK T.x_NotFair T.iC_NotFair T.tI_NotFair G_NotFair_init hr pass0 (by rfl) T.g_NotFair T.kb_NotFair_second_first (pk_cons (pv 1) (pk_cons (pv 0) pk_nil))) pa_nil))))))))
    (pss_cons (ps_set (i := 2) nd rfl (Or.inl rfl) (pe_op op_cat (pv 2) (pe_lst (pa_cons (pe_er0 T.x_NotKept T.iC_NotKept T.tI_NotKept G_NotKept_init hr pass0 (by rfl) T.g_NotKept T.b_NotKept_init) (pa_cons (pe_erK T.x_Odd T.iC_Odd T.tI_Odd G_Odd_init hr pass0 (by rfl) T.g_Odd T.kb_Odd_prime (pk_cons (pv 0) pk_nil)) (pa_cons (pe_erK T.x_NoRoot T.iC_NoRoot T.tI_NoRoot G_NoRoot_init hr pass0 (by rfl) T.g_NoRoot T.kb_NoRoot_first_second (pk_cons (pv 0) (pk_cons (pv 1) pk_nil))) (pa_cons (pe_erK T.x_Unfit T.iC_Unfit T.tI_Unfit G_Unfit_init hr pass0 (by rfl) T.g_Unfit T.kb_Unfit_counts (pk_cons (pv 0) pk_nil)) (pa_cons (pe_erK T.x_Unmade T.iC_Unmade T.tI_Unmade G_Unmade_init hr pass0 (by rfl) T.g_Unmade T.kb_Unmade_reading (pk_cons (pv 0) pk_nil)) pa_nil))))))))
    (pss_one (ps_ret (pe_op op_cat (pv 2) (pe_lst (pa_cons (pe_erK T.x_TooLong T.iC_TooLong T.tI_TooLong G_TooLong_init hr pass0 (by rfl) T.g_TooLong T.kb_TooLong_most (pk_cons (pv 0) pk_nil)) (pa_cons (pe_er0 T.x_Level T.iC_Level T.tI_Level G_Level_init hr pass0 (by rfl) T.g_Level T.b_Level_init) (pa_cons (pe_er0 T.x_NoEntry T.iC_NoEntry T.tI_NoEntry G_NoEntry_init hr pass0 (by rfl) T.g_NoEntry T.b_NoEntry_init) pa_nil)))))))))))))), ?_⟩
  refine asg_ev (R := LsJ T va vb 8) (ev_lst (evs_cons (evj (C := T.C_BadRatio) (j := 0) ⟨rfl, rfl, rfl⟩ ev_er0) ErJ.mono (evs_cons (evj (C := T.C_BadText) (j := 1) ⟨rfl, rfl, rfl⟩ ev_er0) ErJ.mono (evs_cons (evj (C := T.C_BadLine) (j := 2) ⟨rfl, rfl, rfl⟩ (erK1 rfl)) ErJ.mono (evs_cons (evj (C := T.C_BadTop) (j := 3) ⟨rfl, rfl, rfl⟩ ev_er0) ErJ.mono (evs_cons (evj (C := T.C_BadStart) (j := 4) ⟨rfl, rfl, rfl⟩ ev_er0) ErJ.mono (evs_cons (evj (C := T.C_BadLength) (j := 5) ⟨rfl, rfl, rfl⟩ (erK1 rfl)) ErJ.mono (evs_cons (evj (C := T.C_BadOrder) (j := 6) ⟨rfl, rfl, rfl⟩ ev_er0) ErJ.mono (evs_cons (evj (C := T.C_BadRow) (j := 7) ⟨rfl, rfl, rfl⟩ (erK1 rfl)) ErJ.mono evs_nil)))))))) ⟨ErJ.mono, ErJ.mono, ErJ.mono, ErJ.mono, ErJ.mono, ErJ.mono, ErJ.mono, ErJ.mono, trivial⟩ (by simp)) ?_
  intro v1 H1 s1 l1
  refine asg_ev (R := LsJ T va vb 13) (ev_cat (Rs := (List.range 8).map fun j => ErJ T j va vb) (ev_var rfl fun H' s => LsJ.mono _ _ _ s l1) monosJ (ev_lst (evs_cons (evj (C := T.C_OffLine) (j := 8) ⟨rfl, rfl, rfl⟩ (erK1 rfl)) ErJ.mono (evs_cons (evj (C := T.C_Overlap) (j := 9) ⟨rfl, rfl, rfl⟩ (erK2s rfl rfl)) ErJ.mono (evs_cons (evj (C := T.C_NotFilled) (j := 10) ⟨rfl, rfl, rfl⟩ (erK1 rfl)) ErJ.mono (evs_cons (evj (C := T.C_OtherLine) (j := 11) ⟨rfl, rfl, rfl⟩ ev_er0) ErJ.mono (evs_cons (evj (C := T.C_BadRoom) (j := 12) ⟨rfl, rfl, rfl⟩ ev_er0) ErJ.mono evs_nil))))) ⟨ErJ.mono, ErJ.mono, ErJ.mono, ErJ.mono, ErJ.mono, trivial⟩ (by simp)) ⟨ErJ.mono, ErJ.mono, ErJ.mono, ErJ.mono, ErJ.mono, trivial⟩ (by simp)) ?_
  intro v2 H2 t2 l2
  have s2 := s1.trans t2
  refine asg_ev (R := LsJ T va vb 19) (ev_cat (Rs := (List.range 13).map fun j => ErJ T j va vb) (ev_var rfl fun H' s => LsJ.mono _ _ _ s l2) monosJ (ev_lst (evs_cons (evj (C := T.C_BadSwap) (j := 13) ⟨rfl, rfl, rfl⟩ (erK1 rfl)) ErJ.mono (evs_cons (evj (C := T.C_Meet) (j := 14) ⟨rfl, rfl, rfl⟩ ev_er0) ErJ.mono (evs_cons (evj (C := T.C_BadWedge) (j := 15) ⟨rfl, rfl, rfl⟩ ev_er0) ErJ.mono (evs_cons (evj (C := T.C_BadReading) (j := 16) ⟨rfl, rfl, rfl⟩ ev_er0) ErJ.mono (evs_cons (evj (C := T.C_BadWindow) (j := 17) ⟨rfl, rfl, rfl⟩ ev_er0) ErJ.mono (evs_cons (evj (C := T.C_BadName) (j := 18) ⟨rfl, rfl, rfl⟩ (erK1 rfl)) ErJ.mono evs_nil)))))) ⟨ErJ.mono, ErJ.mono, ErJ.mono, ErJ.mono, ErJ.mono, ErJ.mono, trivial⟩ (by simp)) ⟨ErJ.mono, ErJ.mono, ErJ.mono, ErJ.mono, ErJ.mono, ErJ.mono, trivial⟩ (by simp)) ?_
  intro v3 H3 t3 l3
  have s3 := s2.trans t3
  refine asg_ev (R := LsJ T va vb 24) (ev_cat (Rs := (List.range 19).map fun j => ErJ T j va vb) (ev_var rfl fun H' s => LsJ.mono _ _ _ s l3) monosJ (ev_lst (evs_cons (evj (C := T.C_BadNumber) (j := 19) ⟨rfl, rfl, rfl⟩ (erK1 rfl)) ErJ.mono (evs_cons (evj (C := T.C_BadDeed) (j := 20) ⟨rfl, rfl, rfl⟩ (erK1 rfl)) ErJ.mono (evs_cons (evj (C := T.C_BadExchange) (j := 21) ⟨rfl, rfl, rfl⟩ ev_er0) ErJ.mono (evs_cons (evj (C := T.C_BadLimit) (j := 22) ⟨rfl, rfl, rfl⟩ (erK1 rfl)) ErJ.mono (evs_cons (evj (C := T.C_Double) (j := 23) ⟨rfl, rfl, rfl⟩ (erK1 rfl)) ErJ.mono evs_nil))))) ⟨ErJ.mono, ErJ.mono, ErJ.mono, ErJ.mono, ErJ.mono, trivial⟩ (by simp)) ⟨ErJ.mono, ErJ.mono, ErJ.mono, ErJ.mono, ErJ.mono, trivial⟩ (by simp)) ?_
  intro v4 H4 t4 l4
  have s4 := s3.trans t4
  refine asg_ev (R := LsJ T va vb 29) (ev_cat (Rs := (List.range 24).map fun j => ErJ T j va vb) (ev_var rfl fun H' s => LsJ.mono _ _ _ s l4) monosJ (ev_lst (evs_cons (evj (C := T.C_TooMany) (j := 24) ⟨rfl, rfl, rfl⟩ (erK1 rfl)) ErJ.mono (evs_cons (evj (C := T.C_Unlike) (j := 25) ⟨rfl, rfl, rfl⟩ (erK1 rfl)) ErJ.mono (evs_cons (evj (C := T.C_OtherSteps) (j := 26) ⟨rfl, rfl, rfl⟩ ev_er0) ErJ.mono (evs_cons (evj (C := T.C_NothingLeft) (j := 27) ⟨rfl, rfl, rfl⟩ ev_er0) ErJ.mono (evs_cons (evj (C := T.C_OwesMore) (j := 28) ⟨rfl, rfl, rfl⟩ (erK1 rfl)) ErJ.mono evs_nil))))) ⟨ErJ.mono, ErJ.mono, ErJ.mono, ErJ.mono, ErJ.mono, trivial⟩ (by simp)) ⟨ErJ.mono, ErJ.mono, ErJ.mono, ErJ.mono, ErJ.mono, trivial⟩ (by simp)) ?_
  intro v5 H5 t5 l5
  have s5 := s4.trans t5
  refine asg_ev (R := LsJ T va vb 34) (ev_cat (Rs := (List.range 29).map fun j => ErJ T j va vb) (ev_var rfl fun H' s => LsJ.mono _ _ _ s l5) monosJ (ev_lst (evs_cons (evj (C := T.C_NotOnLine) (j := 29) ⟨rfl, rfl, rfl⟩ (erK1 rfl)) ErJ.mono (evs_cons (evj (C := T.C_NoPrime) (j := 30) ⟨rfl, rfl, rfl⟩ (erK1 rfl)) ErJ.mono (evs_cons (evj (C := T.C_UnknownName) (j := 31) ⟨rfl, rfl, rfl⟩ (erK1 rfl)) ErJ.mono (evs_cons (evj (C := T.C_NotIn) (j := 32) ⟨rfl, rfl, rfl⟩ ev_er0) ErJ.mono (evs_cons (evj (C := T.C_NotFair) (j := 33) ⟨rfl, rfl, rfl⟩ (erK2s rfl rfl)) ErJ.mono evs_nil))))) ⟨ErJ.mono, ErJ.mono, ErJ.mono, ErJ.mono, ErJ.mono, trivial⟩ (by simp)) ⟨ErJ.mono, ErJ.mono, ErJ.mono, ErJ.mono, ErJ.mono, trivial⟩ (by simp)) ?_
  intro v6 H6 t6 l6
  have s6 := s5.trans t6
  refine asg_ev (R := LsJ T va vb 39) (ev_cat (Rs := (List.range 34).map fun j => ErJ T j va vb) (ev_var rfl fun H' s => LsJ.mono _ _ _ s l6) monosJ (ev_lst (evs_cons (evj (C := T.C_NotKept) (j := 34) ⟨rfl, rfl, rfl⟩ ev_er0) ErJ.mono (evs_cons (evj (C := T.C_Odd) (j := 35) ⟨rfl, rfl, rfl⟩ (erK1 rfl)) ErJ.mono (evs_cons (evj (C := T.C_NoRoot) (j := 36) ⟨rfl, rfl, rfl⟩ (erK2 rfl rfl)) ErJ.mono (evs_cons (evj (C := T.C_Unfit) (j := 37) ⟨rfl, rfl, rfl⟩ (erK1 rfl)) ErJ.mono (evs_cons (evj (C := T.C_Unmade) (j := 38) ⟨rfl, rfl, rfl⟩ (erK1 rfl)) ErJ.mono evs_nil))))) ⟨ErJ.mono, ErJ.mono, ErJ.mono, ErJ.mono, ErJ.mono, trivial⟩ (by simp)) ⟨ErJ.mono, ErJ.mono, ErJ.mono, ErJ.mono, ErJ.mono, trivial⟩ (by simp)) ?_
  intro v7 H7 t7 l7
  have s7 := s6.trans t7
  exact ret_ev (R := LsJ T va vb 42) (ev_cat (Rs := (List.range 39).map fun j => ErJ T j va vb) (ev_var rfl fun H' s => LsJ.mono _ _ _ s l7) monosJ (ev_lst (evs_cons (evj (C := T.C_TooLong) (j := 39) ⟨rfl, rfl, rfl⟩ (erK1 rfl)) ErJ.mono (evs_cons (evj (C := T.C_Level) (j := 40) ⟨rfl, rfl, rfl⟩ ev_er0) ErJ.mono (evs_cons (evj (C := T.C_NoEntry) (j := 41) ⟨rfl, rfl, rfl⟩ ev_er0) ErJ.mono evs_nil))) ⟨ErJ.mono, ErJ.mono, ErJ.mono, trivial⟩ (by simp)) ⟨ErJ.mono, ErJ.mono, ErJ.mono, trivial⟩ (by simp)) fun u H' s' l' => q u H' (s7.trans s') l'
end
end TL
namespace TL
open PySem L2
section
variable {J : It} {n : Nat} {G : Hp → Prop} {D : Addr} {g : TG} {tt : TT} {te : TE} {vs : List Nat} {σ : L2.St} {H0 : Hp} {Qd : Hp → Prop}
end
end TL
namespace TL
open PySem L2

/-! ### steps of a reading -/
local macro_rules | `(tactic| walk_at "hp") => `(tactic| first | assumption | exact upd_same | (refine (upd_ne (by first | assumption | (exact Ne.symm (by assumption)))).trans ?_; walk_at "hp"))
local macro_rules | `(tactic| walk_at "ok") => `(tactic| first | (exact Or.inr ⟨by decide, by decide⟩) | (exact ⟨by decide, by decide⟩) | (exact ⟨by decide, by decide, by decide⟩) | (show _ ≠ _; omega) | (show _ ≠ _; decide) | (exact Or.inl ⟨by omega, by omega⟩) | decide)
local macro_rules | `(tactic| walk_at "sq") => `(tactic| first | assumption | exact SqL.of (by walk_at "hp") | exact SqT.of (by walk_at "hp"))
local macro_rules | `(tactic| walk_at "ty") => `(tactic| first | refine ⟨_, _, Value.type "int", Value.type "list", false, rfl, ClsV.ty _, TyX.base (TyOf.int _), kt_int_list, ?_⟩ | refine ⟨_, _, Value.type "bool", Value.type "list", false, rfl, ClsV.ty _, TyX.base (TyOf.bl _), kt_bool_list, ?_⟩ | refine ⟨_, _, Value.type "str", Value.type "list", false, rfl, ClsV.ty _, TyX.base (TyOf.str _), kt_str_list, ?_⟩ | refine ⟨_, _, Value.type "NoneType", Value.type "list", false, rfl, ClsV.ty _, TyX.base TyOf.non, kt_NoneType_list, ?_⟩ | refine ⟨_, _, Value.type "list", Value.type "list", true, rfl, ClsV.ty _, tyx_L (by walk_at "sq"), kt_list_list, ?_⟩ | refine ⟨_, _, Value.type "tuple", Value.type "list", false, rfl, ClsV.ty _, tyx_T (by walk_at "sq"), kt_tuple_list, ?_⟩ | refine ⟨_, _, Value.type "int", Value.type "tuple", false, rfl, ClsV.ty _, TyX.base (TyOf.int _), kt_int_tuple, ?_⟩ | refine ⟨_, _, Value.type "bool", Value.type "tuple", false, rfl, ClsV.ty _, TyX.base (TyOf.bl _), kt_bool_tuple, ?_⟩ | refine ⟨_, _, Value.type "str", Value.type "tuple", false, rfl, ClsV.ty _, TyX.base (TyOf.str _), kt_str_tuple, ?_⟩ | refine ⟨_, _, Value.type "NoneType", Value.type "tuple", false, rfl, ClsV.ty _, TyX.base TyOf.non, kt_NoneType_tuple, ?_⟩ | refine ⟨_, _, Value.type "list", Value.type "tuple", false, rfl, ClsV.ty _, tyx_L (by walk_at "sq"), kt_list_tuple, ?_⟩ | refine ⟨_, _, Value.type "tuple", Value.type "tuple", true, rfl, ClsV.ty _, tyx_T (by walk_at "sq"), kt_tuple_tuple, ?_⟩ | refine ⟨_, _, Value.type "int", Value.type "bool", false, rfl, ClsV.ty _, TyX.base (TyOf.int _), kt_int_bool, ?_⟩ | refine ⟨_, _, Value.type "bool", Value.type "bool", true, rfl, ClsV.ty _, TyX.base (TyOf.bl _), kt_bool_bool, ?_⟩ | refine ⟨_, _, Value.type "str", Value.type "bool", false, rfl, ClsV.ty _, TyX.base (TyOf.str _), kt_str_bool, ?_⟩ | refine ⟨_, _, Value.type "NoneType", Value.type "bool", false, rfl, ClsV.ty _, TyX.base TyOf.non, kt_NoneType_bool, ?_⟩ | refine ⟨_, _, Value.type "list", Value.type "bool", false, rfl, ClsV.ty _, tyx_L (by walk_at "sq"), kt_list_bool, ?_⟩ | refine ⟨_, _, Value.type "tuple", Value.type "bool", false, rfl, ClsV.ty _, tyx_T (by walk_at "sq"), kt_tuple_bool, ?_⟩ | refine ⟨_, _, Value.type "int", Value.type "int", true, rfl, ClsV.ty _, TyX.base (TyOf.int _), kt_int_int, ?_⟩ | refine ⟨_, _, Value.type "bool", Value.type "int", true, rfl, ClsV.ty _, TyX.base (TyOf.bl _), kt_bool_int, ?_⟩ | refine ⟨_, _, Value.type "str", Value.type "int", false, rfl, ClsV.ty _, TyX.base (TyOf.str _), kt_str_int, ?_⟩ | refine ⟨_, _, Value.type "NoneType", Value.type "int", false, rfl, ClsV.ty _, TyX.base TyOf.non, kt_NoneType_int, ?_⟩ | refine ⟨_, _, Value.type "list", Value.type "int", false, rfl, ClsV.ty _, tyx_L (by walk_at "sq"), kt_list_int, ?_⟩ | refine ⟨_, _, Value.type "tuple", Value.type "int", false, rfl, ClsV.ty _, tyx_T (by walk_at "sq"), kt_tuple_int, ?_⟩ | refine ⟨_, _, Value.type "int", Value.type "str", false, rfl, ClsV.ty _, TyX.base (TyOf.int _), kt_int_str, ?_⟩ | refine ⟨_, _, Value.type "bool", Value.type "str", false, rfl, ClsV.ty _, TyX.base (TyOf.bl _), kt_bool_str, ?_⟩ | refine ⟨_, _, Value.type "str", Value.type "str", true, rfl, ClsV.ty _, TyX.base (TyOf.str _), kt_str_str, ?_⟩ | refine ⟨_, _, Value.type "NoneType", Value.type "str", false, rfl, ClsV.ty _, TyX.base TyOf.non, kt_NoneType_str, ?_⟩ | refine ⟨_, _, Value.type "list", Value.type "str", false, rfl, ClsV.ty _, tyx_L (by walk_at "sq"), kt_list_str, ?_⟩ | refine ⟨_, _, Value.type "tuple", Value.type "str", false, rfl, ClsV.ty _, tyx_T (by walk_at "sq"), kt_tuple_str, ?_⟩)
local macro_rules | `(tactic| walk_at "go1") => `(tactic| first
  | (refine ⟨_, rfl, ?_⟩)
  | (refine ⟨_, _, rfl, rfl, ?_⟩)
  | (refine ⟨_, _, _, _, rfl, rfl, SqL.of (by walk_at "hp"), rfl, ?_⟩)
  | (refine Or.inl ⟨_, rfl, ?_⟩)
  | (refine ⟨rfl, ?_⟩)
  | (refine ⟨_, _, rfl, .inl (SqL.of (by walk_at "hp")), ?_⟩)
  | (refine ⟨_, _, rfl, Or.inl (by assumption), ?_⟩)
  | (refine ⟨_, _, rfl, Or.inr (by assumption), ?_⟩)
  | (refine ⟨(by walk_at "ok"), ?_⟩)
  | (refine ⟨_, _, _, _, rfl, rfl, (by walk_at "hp"), rfl, ?_⟩))
local macro_rules | `(tactic| walk_at "go") => `(tactic| repeat (walk_at "go1"))
local macro_rules | `(tactic| walk_at "gt") => `(tactic| repeat (first | walk_at "go1" | walk_at "ty"))

section
variable {P : Program} {w : World} {K : PySem.W.Frag} {mg : Str → Option Value} {base : Heap}
-- [0=_law_made, 1=_law_a, 2=_law_b, 3=_law_codes_here, 4=_law_j*, 5=_law_fault, 6=_law_found, 7=_law_head, 8=_law_middle, 9=_law_last, 10=_law_i]
theorem gn {i : Nat} {v : V} {σ : L2.St} {H : Hp} {k : L2.St → Hp → Prop} (h : k (σ.set i (some v)) H) : gName i v σ H k := h
theorem dpAll_bools {H : Hp} : ∀ bs : List Bool, DpAll K H (bs.map V.bl) (bs.map PyData.bool)
  | [] => .nil
  | b :: bs => .cons (.bl b) (dpAll_bools bs)
theorem bools_lay : ∀ bs : List Bool, PyData.canLayAll0 (bs.map PyData.bool) = true ∧ PyData.depthAll (bs.map PyData.bool) ≤ 1
  | [] => ⟨rfl, Nat.zero_le _⟩
  | x :: xs => by
    obtain ⟨h1, h2⟩ := bools_lay xs
    refine ⟨by rw [List.map_cons, PyData.canLayAll0, h1]; rfl, ?_⟩
    rw [List.map_cons, PyData.depthAll]
    exact Nat.max_le.mpr ⟨by unfold PyData.depth; decide, h2⟩
theorem bools_shaped (bs : List Bool) : SeqAt.shaped (.list (bs.map PyData.bool)) = true ∧ PyData.eqv (.list (bs.map PyData.bool)) (.list (bs.map PyData.bool)) = true := by
  obtain ⟨h1, h2⟩ := bools_lay bs
  have hc : (PyData.list (bs.map PyData.bool)).canLay0 = true := by
    unfold PyData.canLay0
    exact h1
  refine ⟨?_, SeqAt.eqv_refl _ hc⟩
  unfold SeqAt.shaped
  rw [hc]
  have : (PyData.list (bs.map PyData.bool)).depth ≤ 64 := by
    unfold PyData.depth
    omega
  rw [decide_eq_true this]
  rfl
/-- two lists of the same truths -/
theorem neq_bools {H : Hp} {x y : V} {bs : List Bool} {Q : VK} (h1 : LsV (bs.map .bl) H x) (h2 : LsV (bs.map .bl) H y) (q : Q (.bl false) H) : rNeD K x y H Q := by
  obtain ⟨a, rfl, e1⟩ := h1
  obtain ⟨b, rfl, e2⟩ := h2
  obtain ⟨s1, s2⟩ := bools_shaped bs
  refine ⟨_, _, .lst (SqL.of e1) (dpAll_bools bs), .lst (SqL.of e2) (dpAll_bools bs), s1, s1, ?_⟩
  rw [s2]
  exact q
/-- the errors of all classes, one by one -/
theorem lsj_at {T : Tx K mg} {a b u : V} {H : Hp} (h : LsJ T a b 42 H u) : ∃ p vs, u = .ref p ∧ H p = some (.lst vs) ∧ vs.length = 42 ∧ ∀ j x, vs[j]? = some x → j < 42 ∧ ErJ T j a b H x := by
  obtain ⟨p, vs, e1, e2, e3⟩ := h
  have hl := e3.len
  rw [List.length_map, List.length_range] at hl
  refine ⟨p, vs, e1, e2, hl, fun j x hx => ?_⟩
  obtain ⟨R, h1, h2⟩ := e3.get j x hx
  have hj : j < 42 := by
    have := (List.getElem?_eq_some_iff.mp hx).1
    omega
  rw [List.getElem?_map, List.getElem?_range hj] at h1
  cases h1
  exact ⟨hj, h2⟩
theorem if_nsame {Es : List Addr} {m : Nat} {t1 t2 : TE} {tr rest : TS} {D : Ends} {σ : L2.St} {H : Hp} {R1 R2 : Hp → V → Prop} (h1 : Ev t1 σ H R1) (m1 : Mono R1) (h2 : Ev t2 σ H R2) (hd : ∀ H' x y, Same H H' → R1 H' x → R2 H' y → ∃ n, n < m ∧ DXE K Es H' n x y) (k : ∀ H', Same H H' → rest D σ H') :
    tSeq (tIfS (tNot (tB (tCall (spSameX K Es m) [] E0 (tCons t1 (tCons t2 tNil))))) tr tNext) rest D σ H :=
  h1 H (Same.refl H) _ fun x H1 s1 hx => h2 H1 s1 _ fun y H2 s2 hy => by
    obtain ⟨n, hn, hdx⟩ := hd H2 x y (s1.trans s2) (m1 _ _ _ s2 hx) hy
    exact ⟨n, x, y, rfl, hn, hdx, fun H3 s3 => ⟨_, rfl, iteF' rfl (k H3 ((s1.trans s2).trans s3))⟩⟩
/-- a tuple of values -/
def TsV (us : List V) : Hp → V → Prop := fun H v => ∃ p, v = .ref p ∧ H p = some (.tup us)
theorem TsV.mono {us : List V} : Mono (TsV us) := fun _ _ _ s ⟨p, e, h⟩ => ⟨p, e, s _ _ h⟩
theorem tsv_dx {Es : List Addr} {H : Hp} {n : Nat} {us : List V} {x y : V} (h1 : TsV us H x) (h2 : TsV us H y) (hz : us.length ≤ 1000) (h : ∀ u ∈ us, DXE K Es H n u u) : DXE K Es H (n + 1) x y := by
  obtain ⟨a, rfl, e1⟩ := h1
  obtain ⟨b, rfl, e2⟩ := h2
  refine .tup (SqT.of e1) (SqT.of e2) (by omega) rfl fun i x y e1 e2 => ?_
  rw [e1] at e2
  cases e2
  exact h x (List.mem_of_getElem? e1)
theorem ev_catVV {ta tb : TE} {σ : L2.St} {H : Hp} {us ws : List V} (h1 : Ev ta σ H (LsV us)) (h2 : Ev tb σ H (LsV ws)) (hz : us.length + ws.length ≤ 1000) : Ev (tOp rCat ta tb) σ H (LsV (us ++ ws)) :=
  lsv_of (Rs := us.map IsV ++ ws.map IsV) (by rw [List.map_append]) (ev_cat (fun H1 s1 Q q => h1 H1 s1 Q fun v H2 s2 hv => q v H2 s2 (lsv_to hv)) monos_isV (fun H1 s1 Q q => h2 H1 s1 Q fun v H2 s2 hv => q v H2 s2 (lsv_to hv)) monos_isV (by simpa using hz))
theorem ev_kinds {T : Tx K mg} {σ : L2.St} {H : Hp} {j lo n i : Nat} {a b x : V} (hi : σ[i]? = some (some x)) (h : ErJ T j a b H x) : Ev (tCall (spKinds T lo n) [] E0 (tCons (tVar i) tNil)) σ H (LsV (kb j lo n)) := fun H1 s1 Q q =>
  ⟨_, hi, x, a, b, j, rfl, ErJ.mono _ _ _ s1 h, fun u H' s hu => q u H' s hu⟩
theorem kb_bools (j lo n : Nat) : kb j lo n = ((List.range' lo n).map fun i => j == i).map V.bl := by
  rw [kb, List.map_map]
  rfl
theorem eq_ij (i j : Nat) : decide (V.int (0 + (i : Int)) = V.int (0 + (j : Int))) = (j == i) := by
  by_cases h : j = i
  · subst h
    simp
  · rw [decide_eq_false (fun z => h (by have := V.int.inj z; omega))]
    exact (beq_eq_false_iff_ne.mpr h).symm
/-- `xs != ys`, two lists of the same truths -/
theorem if_nbools {t1 t2 : TE} {tr rest : TS} {D : Ends} {σ : L2.St} {H : Hp} {bs : List Bool} (h1 : Ev t1 σ H (LsV (bs.map V.bl))) (h2 : Ev t2 σ H (LsV (bs.map V.bl))) (k : ∀ H', Same H H' → rest D σ H') : tSeq (tIfS (tTest (tOp (rNeD K) t1 t2)) tr tNext) rest D σ H :=
  h1 H (Same.refl H) _ fun x H1 s1 hx => h2 H1 s1 _ fun y H2 s2 hy => neq_bools (hx.same s2) hy ⟨_, rfl, iteF' rfl (k H2 (s1.trans s2))⟩
/-- the truths of the nine base classes -/
def bas (j : Nat) : List Bool := [decide (0 + (j : Int) < 29), decide (0 + (j : Int) < 29), decide (29 ≤ 0 + (j : Int)) && decide (0 + (j : Int) < 33), decide (29 ≤ 0 + (j : Int)) && decide (0 + (j : Int) < 33) || decide (V.int (0 + (j : Int)) = V.int 41), decide (33 ≤ 0 + (j : Int)) && decide (0 + (j : Int) < 41),
  decide (33 ≤ 0 + (j : Int)) && decide (0 + (j : Int) < 41), decide (V.int (0 + (j : Int)) = V.int 41), false, false]
theorem bas_row : ∀ j, j < 42 → ERB[j]? = some (bas j) := by decide +kernel
section
variable {σ : L2.St} {H : Hp} {te ta t1 t2 : TE} {x y v : V} {us : List V} {i : Nat} {n lo hi : Int} {b c : Bool}
theorem ev_two (h1 : Ev t1 σ H (IsV x)) (h2 : Ev t2 σ H (IsV y)) : Ev (tLst (tCons t1 (tCons t2 tNil))) σ H (LsV [x, y]) := lsv_of (Rs := [IsV x, IsV y]) rfl (ev_lst (evs_cons h1 mIsV (evs_cons h2 mIsV evs_nil)) ⟨mIsV, mIsV, trivial⟩ (by simp))
theorem ev_moreW (l : LsV us H v) (hv : σ[i]? = some (some v)) (hz : us.length ≤ 900) (h1 : Ev t1 σ H (IsV x)) (h2 : Ev t2 σ H (IsV y)) : Ev (tOp rCat (tVar i) (tLst (tCons t1 (tCons t2 tNil)))) σ H (LsV (us ++ [x, y])) := ev_catV l hv (ev_two h1 h2) (by simp; omega)
theorem ev_chain (hv : σ[i]? = some (some (.int n))) : Ev (tChain (rI0 fun i j => V.bl (decide (i ≤ j))) (rI0 fun i j => V.bl (decide (i < j))) (tC (.int lo)) (tVar i) (tC (.int hi))) σ H (IsV (.bl (decide (lo ≤ n) && decide (n < hi)))) := fun H1 _ Q q => by
  refine ⟨_, hv, _, _, rfl, rfl, _, rfl, ?_⟩
  by_cases h : lo ≤ n
  · refine iteT' (decide_eq_true h) ⟨_, _, rfl, rfl, ?_⟩
    refine q _ _ (Same.refl _) ?_
    show V.bl _ = V.bl _
    rw [decide_eq_true h, Bool.true_and]
  · refine iteF' (decide_eq_false h) ?_
    refine q _ _ (Same.refl _) ?_
    show V.bl _ = V.bl _
    rw [decide_eq_false h, Bool.false_and]
theorem ev_orV (h1 : σ[i]? = some (some (.bl b))) {k : Nat} (h2 : σ[k]? = some (some (.bl c))) : Ev (tOrV (tVar i) (tVar k)) σ H (IsV (.bl (b || c))) := fun H1 _ Q q => by
  refine ⟨_, h1, _, rfl, ?_⟩
  cases b with
  | true => exact iteT' rfl (q _ _ (Same.refl _) rfl)
  | false => exact iteF' rfl ⟨_, h2, q _ _ (Same.refl _) rfl⟩
theorem ev_vV (hv : σ[i]? = some (some v)) : Ev (tVar i) σ H (IsV v) := ev_var hv fun _ _ => rfl
theorem ev_cV : Ev (tC v) σ H (IsV v) := ev_c fun _ _ => rfl
end
theorem par3_ev {σ : L2.St} {H : Hp} {t1 t2 t3 : TE} {x y z : V} {D : Ends} {rest : TS} {i j l : Nat} (h1 : Ev t1 σ H (IsV x)) (h2 : Ev t2 σ H (IsV y)) (h3 : Ev t3 σ H (IsV z)) (k : ∀ H', Same H H' → rest D (((σ.set i (some x)).set j (some y)).set l (some z)) H') : tSeq (tPar3 i j l (tCons t1 (tCons t2 (tCons t3 tNil)))) rest D σ H :=
  h1 H (Same.refl H) _ fun u H1 s1 hu => h2 H1 s1 _ fun v H2 s2 hv => h3 H2 (s1.trans s2) _ fun w H3 s3 hw => ⟨u, v, w, rfl, by
    rw [show u = x from hu, show v = y from hv, show w = z from hw]
    exact k H3 ((s1.trans s2).trans s3)⟩
theorem if_nlast {t1 t2 : TE} {tr : TS} {D : Ends} {σ : L2.St} {H : Hp} {bs : List Bool} (h1 : Ev t1 σ H (LsV (bs.map V.bl))) (h2 : Ev t2 σ H (LsV (bs.map V.bl))) (k : ∀ H', Same H H' → D.nx σ H') : tIfS (tTest (tOp (rNeD K) t1 t2)) tr tNext D σ H :=
  h1 H (Same.refl H) _ fun x H1 s1 hx => h2 H1 s1 _ fun y H2 s2 hy => neq_bools (hx.same s2) hy ⟨_, rfl, iteF' rfl (k H2 (s1.trans s2))⟩
def spMadeSo (T : Tx K mg) : Sp := fun vs H Q _ => ∃ u a b, vs = [u, a, b] ∧ LsJ T a b 42 H u ∧ DXE K (esT T) H 3 a a ∧ DXE K (esT T) H 3 b b ∧ ∀ H', Same H H' → Q (.bl true) H'
theorem ok_made (T : Tx K mg) : FnOk P w K mg base CX0 8 T.f_l_made_so T.d_l_made_so ["_law_made", "_law_a", "_law_b"] (spMadeSo T) := by
  have G_l_codes := ok_codes (P := P) (w := w) (base := base) T
  have G_l_told := ok_told (P := P) (w := w) (base := base) T
  have G_l_due := ok_due (P := P) (w := w) (base := base) T
  have G_l_first_kinds := ok_first (P := P) (w := w) (base := base) T
  have G_l_second_kinds := ok_second (P := P) (w := w) (base := base) T
  have G_l_same := ok_sameX (P := P) (w := w) (base := base) T 5
  refine T.F_l_made_so.ok sc_l_made_so (fun vs H Q E h => ?_) (fun cdv A outer s H vs Q E hr h => ?_)
  · obtain ⟨u, a, b, rfl, _⟩ := h
    rfl
  obtain ⟨u, va, vb, rfl, hu, ea, eb, q⟩ := h
  have nd := sc_l_made_so.nd
  refine ⟨_, (pss_cons (ps_set (i := 3) nd rfl (Or.inl rfl) (pe_call0 G_l_codes (hr.mono (by decide)) (by rfl) T.m_l_codes T.F_l_codes.kp T.b_l_codes .nil pass0))
    (pss_cons (ps_if (pt_not (pt_val (pe_call G_l_same (hr.mono (by decide)) (by rfl) T.m_l_same T.F_l_same.kp T.b_l_same .nil pass0 (pa_cons (pe_lc (own := [("_law_fault", 5)]) (g := (gName 5)) rfl nd (show PI _ _ _ (iList K _) from pi_list (pv 0)) (blkOk_by (own := [("_law_fault", 5)]) (N := N_l_made_so) (sc := defScope s_l_made_so) (by decide +kernel)) (fun _ _ _ _ _ => by exact (pg_name (i := 5) nd rfl (Or.inl rfl))) (fun _ _ _ _ _ => by exact pts_nil) (fun _ _ _ _ _ => by exact (show PE _ _ (tXv K _ _) from pe_xv (pv 5)))) (pa_cons (pv 3) pa_nil))))) (pss_one (ps_ret pe_bl)) pss_nil)
    (pss_cons (ps_for PassesOwn.never rfl (pi_range1 (by rfl) T.z_range (pa_cons (pe_callB (show CallR _ _ (rLenSq K) from call_len_seq) (by rfl) T.z_len (by decide +kernel) (pa_cons (pv 0) pa_nil)) pa_nil)) (pg_name (i := 4) nd rfl (Or.inr rfl)) (pss_cons (ps_set (i := 5) nd rfl (Or.inl rfl) (pe_ix (show IxR _ (rIxL K) from ix_list) (pv 0) (pv 4) (fun _ _ => rfl)))
    (pss_cons (ps_if (pt_not (pt_val (pe_call G_l_same (hr.mono (by decide)) (by rfl) T.m_l_same T.F_l_same.kp T.b_l_same .nil pass0 (pa_cons (pe_call G_l_told (hr.mono (by decide)) (by rfl) T.m_l_told T.F_l_told.kp T.b_l_told .nil pass0 (pa_cons (pv 5) pa_nil)) (pa_cons (pe_call G_l_due (hr.mono (by decide)) (by rfl) T.m_l_due T.F_l_due.kp T.b_l_due .nil pass0 (pa_cons (pe_ix (show IxR _ (rIxL K) from ix_list) (pv 3) (pv 4) (fun _ _ => rfl)) (pa_cons (pv 1) (pa_cons (pv 2) pa_nil)))) pa_nil))))) (pss_one (ps_ret pe_bl)) pss_nil)
    (pss_cons (ps_if (pt_cmpR (show OpR _ _ (rNeD K) from op_neD hr.units) (pe_op op_cat (pe_call G_l_first_kinds (hr.mono (by decide)) (by rfl) T.m_l_first_kinds T.F_l_first_kinds.kp T.b_l_first_kinds .nil pass0 (pa_cons (pv 5) pa_nil)) (pe_call G_l_second_kinds (hr.mono (by decide)) (by rfl) T.m_l_second_kinds T.F_l_second_kinds.kp T.b_l_second_kinds .nil pass0 (pa_cons (pv 5) pa_nil))) (pe_lc (own := [("_law_i", 10)]) (g := (gName 10)) rfl nd (pi_range1 (by rfl) T.z_range (pa_cons (pe_callB (show CallR _ _ (rLenSq K) from call_len_seq) (by rfl) T.z_len (by decide +kernel) (pa_cons (pv 0) pa_nil)) pa_nil)) (blkOk_by (own := [("_law_i", 10)]) (N := N_l_made_so) (sc := defScope s_l_made_so) (by decide +kernel)) (fun _ _ _ _ _ => by exact (pg_name (i := 10) nd rfl (Or.inl rfl))) (fun _ _ _ _ _ => by exact pts_nil) (fun _ _ _ _ _ => by exact (pe_cmpR op_eq (pv 10) (pv 4) (nomark _)))) (nomark _)) (pss_one (ps_ret pe_bl)) pss_nil)
    (pss_cons (ps_set (i := 6) nd rfl (Or.inl rfl) (pe_lst (pa_cons (pe_callB (show CallR _ _ (rIsi2 K) from call_isi2) (by rfl) T.z_isinstance (by decide +kernel) (pa_cons (pv 5) (pa_cons (pe_glob (v := .ref T.C_TurnError) (by rfl) T.g_TurnError rfl) pa_nil))) (pa_cons (pe_callB (show CallR _ _ (rIsi2 K) from call_isi2) (by rfl) T.z_isinstance (by decide +kernel) (pa_cons (pv 5) (pa_cons (pe_bltn (v := .ty "ValueError") (u := .type "ValueError") (by rfl) T.z_ValueError (by decide +kernel) rfl) pa_nil))) (pa_cons (pe_callB (show CallR _ _ (rIsi2 K) from call_isi2) (by rfl) T.z_isinstance (by decide +kernel) (pa_cons (pv 5) (pa_cons (pe_glob (v := .ref T.C_NotThere) (by rfl) T.g_NotThere rfl) pa_nil))) pa_nil)))))
    (pss_cons (ps_set (i := 6) nd rfl (Or.inl rfl) (pe_op op_cat (pv 6) (pe_lst (pa_cons (pe_callB (show CallR _ _ (rIsi2 K) from call_isi2) (by rfl) T.z_isinstance (by decide +kernel) (pa_cons (pv 5) (pa_cons (pe_bltn (v := .ty "LookupError") (u := .type "LookupError") (by rfl) T.z_LookupError (by decide +kernel) rfl) pa_nil))) (pa_cons (pe_callB (show CallR _ _ (rIsi2 K) from call_isi2) (by rfl) T.z_isinstance (by decide +kernel) (pa_cons (pv 5) (pa_cons (pe_glob (v := .ref T.C_Impossible) (by rfl) T.g_Impossible rfl) pa_nil))) pa_nil)))))
    (pss_cons (ps_set (i := 6) nd rfl (Or.inl rfl) (pe_op op_cat (pv 6) (pe_lst (pa_cons (pe_callB (show CallR _ _ (rIsi2 K) from call_isi2) (by rfl) T.z_isinstance (by decide +kernel) (pa_cons (pv 5) (pa_cons (pe_bltn (v := .ty "ArithmeticError") (u := .type "ArithmeticError") (by rfl) T.z_ArithmeticError (by decide +kernel) rfl) pa_nil))) (pa_cons (pe_callB (show CallR _ _ (rIsi2 K) from call_isi2) (by rfl) T.z_isinstance (by decide +kernel) (pa_cons (pv 5) (pa_cons (pe_bltn (v := .ty "IndexError") (u := .type "IndexError") (by rfl) T.z_IndexError (by decide +kernel) rfl) pa_nil))) pa_nil)))))
    (pss_cons (ps_set (i := 6) nd rfl (Or.inl rfl) (pe_op op_cat (pv 6) (pe_lst (pa_cons (pe_callB (show CallR _ _ (rIsi2 K) from call_isi2) (by rfl) T.z_isinstance (by decide +kernel) (pa_cons (pv 5) (pa_cons (pe_bltn (v := .ty "KeyError") (u := .type "KeyError") (by rfl) T.z_KeyError (by decide +kernel) rfl) pa_nil))) (pa_cons (pe_callB (show CallR _ _ (rIsi2 K) from call_isi2) (by rfl) T.z_isinstance (by decide +kernel) (pa_cons (pv 5) (pa_cons (pe_bltn (v := .ty "ZeroDivisionError") (u := .type "ZeroDivisionError") (by rfl) T.z_ZeroDivisionError (by decide +kernel) rfl) pa_nil))) pa_nil)))))
    (pss_cons (ps_par3 (i := 7) (j := 8) (l := 9) rfl nd rfl rfl rfl (by decide) (by decide) (by decide) rfl rfl rfl (pa_cons (pe_cmpR op_lt (pv 4) pe_int (nomark _)) (pa_cons (pe_chain op_le op_lt pe_int (pv 4) pe_int) (pa_cons (pe_cmpR op_eq (pv 4) pe_int (nomark _)) pa_nil))) rfl)
    (pss_one (ps_if (pt_cmpR (show OpR _ _ (rNeD K) from op_neD hr.units) (pv 6) (pe_lst (pa_cons (pv 7) (pa_cons (pv 7) (pa_cons (pv 8) (pa_cons (pe_or (pv 8) (pe_one (pv 9))) (pa_cons (pe_chain op_le op_lt pe_int (pv 4) pe_int) (pa_cons (pe_chain op_le op_lt pe_int (pv 4) pe_int) (pa_cons (pv 9) (pa_cons pe_bl (pa_cons pe_bl pa_nil)))))))))) (nomark _)) (pss_one (ps_ret pe_bl)) pss_nil)))))))))))
    (pss_one (ps_ret pe_bl))))), ?_⟩
  have hst : L2.start N_l_made_so [u, va, vb] = [some u, some va, some vb, none, none, none, none, none, none, none, none] := rfl
  rw [hst]
  refine ⟨rfl, fun cv H1 s1 hcv => ?_⟩
  obtain ⟨p, vs, rfl, hp, hl, hvs⟩ := lsj_at hu
  obtain ⟨pc, rfl, hpc⟩ := hcv
  refine gn ?_
  dsimp only [List.set_cons_succ, List.set_cons_zero]
  have hp1 := s1 _ _ hp
  have codes : ∀ (G : Hp) (Q : VK), Same H1 G → (∀ c G', Same G G' → LsV (strsV ERCODE) G' c → Q c G') → ∀ {a4 a5 a6 a7 a8 a9 a10 : Option V}, tLc (iList K (tVar 0)) (gName 5) tYes (tXv K (tVar 5) (Str.ofString "code")) (List.map (fun x => x.snd) [(Str.ofString "_law_fault", 5)]) [some (.ref p), some va, some vb, some (.ref pc), a4, a5, a6, a7, a8, a9, a10] G Q := by
    intro G Q sG qG a4 a5 a6 a7 a8 a9 a10
    refine ⟨_, rfl, p, rfl, ⟨vs, SqL.of (sG _ _ hp1)⟩, fun D hD => ?_⟩
    refine lcm (walk_list (K := K) (a := p) (xs := vs)) (strsV ERCODE) (by rw [hl]; rfl) (by omega) hD (fun H' s => SqL.of (s _ _ (sG _ _ hp1))) ?_ ?_
    · rintro j y x G1 G2 hj hy sg ⟨rfl, hx⟩ k hk
      obtain ⟨hj42, C, code, fs, en, a, d, rfl, ha, hd⟩ := hvs j x hx
      have ok := er_ok T en.c en.f
      obtain rfl : y = .str (Str.ofString code) := by
        rw [strsV, List.getElem?_map, en.n] at hy
        exact (Option.some.inj hy).symm
      have s2 := (s1.trans sG).trans sg
      exact ⟨rfl, _, rfl, a, C, d, _, _, rfl, ok.xf, ok.nf "code" (by simp), s2 _ _ ha, s2 _ _ hd, rfl, hk _ (Same.refl _)⟩
    · intro G1 sg hD1
      exact qG _ _ sg ⟨D, rfl, hD1⟩
  have strs_dx : ∀ {G : Hp} {x y : V}, LsV (strsV ERCODE) G x → LsV (strsV ERCODE) G y → DXE K (esT T) G 1 x y := by
    rintro G x y ⟨a, rfl, h1⟩ ⟨b, rfl, h2⟩
    refine .lst (SqL.of h1) (SqL.of h2) (by decide) rfl fun i x y e1 e2 => ?_
    rw [e1] at e2
    cases e2
    rw [strsV, List.getElem?_map] at e1
    cases e : ERCODE[i]? with
    | none => rw [e] at e1; cases e1
    | some c => rw [e] at e1; cases e1; exact .str _
  refine if_nsame (R1 := LsV (strsV ERCODE)) (R2 := LsV (strsV ERCODE)) (fun G sG Q q => codes G Q sG q) (fun _ _ _ s h => h.same s) (ev_var rfl fun G s => ⟨pc, rfl, s _ _ hpc⟩) (fun G x y _ h1 h2 => ⟨1, by decide, strs_dx h1 h2⟩) fun H2 s2 => ?_
  have s02 := s1.trans s2
  refine ⟨_, rfl, p, vs, rfl, .inl (SqL.of (s02 _ _ hp)), ((vs.length : Nat) : Int), rfl, by omega, by omega, for_range (lo := 0) (n := ((vs.length : Nat) : Int).toNat) (fun i σ' H' => (∃ a4 a5 a6 a7 a8 a9 a10, σ' = [some (.ref p), some va, some vb, some (.ref pc), a4, a5, a6, a7, a8, a9, a10]) ∧ Same H2 H') ⟨⟨_, _, _, _, _, _, _, rfl⟩, Same.refl _⟩ ?_ ?_⟩
  · rintro j σ' H3 hj ⟨⟨a4, a5, a6, a7, a8, a9, a10, rfl⟩, s3⟩
    have hj : j < vs.length := by omega
    have hx : vs[j]? = some vs[j] := List.getElem?_eq_getElem hj
    generalize vs[j] = x at hx
    obtain ⟨hj42, hE⟩ := hvs j x hx
    have s03 := s02.trans s3
    refine gn ?_
    dsimp only [List.set_cons_succ, List.set_cons_zero]
    refine ⟨_, rfl, _, rfl, _, _, _, _, rfl, rfl, SqL.of (s03 _ _ hp), at_of (j := j) (by omega) hx, ?_⟩
    refine gn ?_
    dsimp only [List.set_cons_succ, List.set_cons_zero]
    obtain ⟨C, code, fs, en, hE1⟩ := id hE
    have hEs : ∀ {G : Hp}, Same H G → ErJ T j va vb G x := fun s => ErJ.mono _ _ _ s hE
    refine if_nsame (R1 := TsV ([va, vb].take fs.length)) (R2 := TsV ([va, vb].take fs.length)) ?_ TsV.mono ?_ ?_ fun H4 s4 => ?_
    · intro G sG Q qG
      refine ⟨_, rfl, x, va, vb, j, rfl, hEs (s03.trans sG), fun t G' fs' ef sG' hn ht => qG _ _ sG' ⟨t, rfl, ?_⟩⟩
      rw [en.f] at ef
      cases ef
      exact ht
    · intro G sG Q qG
      have hcj : (strsV ERCODE)[j]? = some (.str (Str.ofString code)) := by
        rw [strsV, List.getElem?_map, en.n]
        rfl
      refine ⟨_, rfl, _, rfl, _, _, _, _, rfl, rfl, SqL.of (sG _ _ (s3 _ _ (s2 _ _ hpc))), at_of (j := j) (by omega) hcj, _, rfl, _, rfl, ?_⟩
      exact ⟨code, fs, va, vb, j, rfl, en.n, en.f, fun t G' sG' hn ht => qG _ _ sG' ⟨t, rfl, ht⟩⟩
    · intro G x y sG h1 h2
      refine ⟨4, by decide, tsv_dx h1 h2 (by simp; omega) fun u hu => ?_⟩
      have hm := List.mem_of_mem_take hu
      simp only [List.mem_cons, List.not_mem_nil, or_false] at hm
      rcases hm with rfl | rfl
      · exact ea.same (s03.trans sG)
      · exact eb.same (s03.trans sG)
    have s04 := s03.trans s4
    refine if_nbools (bs := (List.range' 0 42).map fun i => j == i) ?_ ?_ fun H5 s5 => ?_
    · rw [← kb_bools]
      exact (show kb j 0 24 ++ kb j 24 18 = kb j 0 42 from rfl) ▸ ev_catVV (ev_kinds rfl (hEs s04)) (ev_kinds rfl (hEs s04)) (by simp [kb])
    · rw [← kb_bools]
      intro G sG Q qG
      refine ⟨_, rfl, p, vs, rfl, .inl (SqL.of ((s04.trans sG) _ _ hp)), ((vs.length : Nat) : Int), rfl, by omega, by omega, fun D hD => ?_⟩
      refine lcm (walk_range (lo := 0) (n := ((vs.length : Nat) : Int).toNat)) (kb j 0 42) (by simp [kb, hl]) (by omega) hD (fun _ _ => True.intro) ?_ ?_
      · rintro i y z G1 G2 hi hy sg ⟨rfl, rfl⟩ k hk
        have hi : i < 42 := by omega
        rw [kb, List.getElem?_map, List.getElem?_range' hi] at hy
        obtain rfl : y = .bl (j == i) := by
          have := (Option.some.inj hy).symm
          rw [this]
          simp
        refine ⟨rfl, _, rfl, _, rfl, rfl, ?_⟩
        rw [eq_ij]
        exact hk _ (Same.refl _)
      · intro G1 sg hD1
        exact qG _ _ sg ⟨D, rfl, hD1⟩
    have s05 := s04.trans s5
    obtain ⟨a, d, rfl, ha, hd⟩ := hE1
    have hx : XAt H a C := ⟨d, _, ha, hd⟩
    have X := (er_ec T (er_ok T en.c en.f)).ex
    obtain ⟨r, er, kr⟩ := kitAll_get T.kbT en.c
    rw [bas_row j hj42] at er
    cases er
    have k : ∀ {τ : L2.St} {G : Hp} (i : Nat) {c : V} {u : Value} {b : Bool}, Same H G → τ[5]? = some (some (.ref a)) → ClsV c u → ([.ref T.C_TurnError, .type "ValueError", .ref T.C_NotThere, .type "LookupError", .ref T.C_Impossible, .type "ArithmeticError", .type "IndexError", .type "KeyError", .type "ZeroDivisionError"] : List Value)[i]? = some u → (bas j)[i]? = some b → Ev (tCB (rIsi2 K) (tCons (tVar 5) (tCons (tC c) tNil))) τ G (IsV (.bl b)) := fun i _ _ _ s hv hc hu hb => ev_isi (hx.same s) X hv hc (kitRow_get kr hu hb)
    refine asg_ev (R := LsV ((bas j).map V.bl |>.take 3)) (ev_three (k 0 s05 rfl (ClsV.own _) rfl rfl) (k 1 s05 rfl (ClsV.ty _) rfl rfl) (k 2 s05 rfl (ClsV.own _) rfl rfl)) ?_
    intro v6 H6 s6 l6
    have s06 := s05.trans s6
    refine asg_ev (R := LsV ((bas j).map V.bl |>.take 5)) (ev_moreW l6 rfl (by simp [bas]) (k 3 s06 rfl (ClsV.ty _) rfl rfl) (k 4 s06 rfl (ClsV.own _) rfl rfl)) ?_
    intro v7 H7 s7 l7
    have s07 := s06.trans s7
    refine asg_ev (R := LsV ((bas j).map V.bl |>.take 7)) (ev_moreW l7 rfl (by simp [bas]) (k 5 s07 rfl (ClsV.ty _) rfl rfl) (k 6 s07 rfl (ClsV.ty _) rfl rfl)) ?_
    intro v8 H8 s8 l8
    have s08 := s07.trans s8
    refine asg_ev (R := LsV ((bas j).map V.bl)) (ev_moreW l8 rfl (by simp [bas]) (k 7 s08 rfl (ClsV.ty _) rfl rfl) (k 8 s08 rfl (ClsV.ty _) rfl rfl)) ?_
    intro v9 H9 s9 l9
    dsimp only [List.set_cons_succ, List.set_cons_zero]
    refine par3_ev (x := .bl (decide (0 + (j : Int) < 29))) (y := .bl (decide (29 ≤ 0 + (j : Int)) && decide (0 + (j : Int) < 33))) (z := .bl (decide (V.int (0 + (j : Int)) = V.int 41))) (fun G _ Q q => ⟨_, rfl, _, _, rfl, rfl, q _ _ (Same.refl _) rfl⟩) (ev_chain rfl) (fun G _ Q q => ⟨_, rfl, rfl, q _ _ (Same.refl _) rfl⟩) fun HA sA => ?_
    dsimp only [List.set_cons_succ, List.set_cons_zero]
    refine if_nlast (bs := bas j) (ev_var rfl fun G s => l9.same (sA.trans s)) ?_ fun HB sB => ⟨⟨_, _, _, _, _, _, _, rfl⟩, ((((((((s3.trans s4).trans s5).trans s6).trans s7).trans s8).trans s9).trans sA).trans sB)⟩
    refine lsv_of (Rs := ((bas j).map V.bl).map IsV) rfl (ev_lst ?_ monos_isV (by simp [bas]))
    exact evs_cons (ev_vV rfl) mIsV <| evs_cons (ev_vV rfl) mIsV <| evs_cons (ev_vV rfl) mIsV <| evs_cons (ev_orV rfl rfl) mIsV <| evs_cons (ev_chain rfl) mIsV <| evs_cons (ev_chain rfl) mIsV <| evs_cons (ev_vV rfl) mIsV <| evs_cons ev_cV mIsV <| evs_cons ev_cV mIsV evs_nil
  · rintro σ' H3 ⟨⟨a4, a5, a6, a7, a8, a9, a10, rfl⟩, s3⟩
    exact q H3 (s02.trans s3)
end
end TL
namespace TL
open PySem L2

/-! ### steps of a reading -/
local macro_rules | `(tactic| walk_at "hp") => `(tactic| first | assumption | exact upd_same | (refine (upd_ne (by first | assumption | (exact Ne.symm (by assumption)))).trans ?_; walk_at "hp"))
local macro_rules | `(tactic| walk_at "ok") => `(tactic| first | (exact Or.inr ⟨by decide, by decide⟩) | (exact ⟨by decide, by decide⟩) | (exact ⟨by decide, by decide, by decide⟩) | (show _ ≠ _; omega) | (show _ ≠ _; decide) | (exact Or.inl ⟨by omega, by omega⟩) | decide)
local macro_rules | `(tactic| walk_at "sq") => `(tactic| first | assumption | exact SqL.of (by walk_at "hp") | exact SqT.of (by walk_at "hp"))
local macro_rules | `(tactic| walk_at "ty") => `(tactic| first | refine ⟨_, _, Value.type "int", Value.type "list", false, rfl, ClsV.ty _, TyX.base (TyOf.int _), kt_int_list, ?_⟩ | refine ⟨_, _, Value.type "bool", Value.type "list", false, rfl, ClsV.ty _, TyX.base (TyOf.bl _), kt_bool_list, ?_⟩ | refine ⟨_, _, Value.type "str", Value.type "list", false, rfl, ClsV.ty _, TyX.base (TyOf.str _), kt_str_list, ?_⟩ | refine ⟨_, _, Value.type "NoneType", Value.type "list", false, rfl, ClsV.ty _, TyX.base TyOf.non, kt_NoneType_list, ?_⟩ | refine ⟨_, _, Value.type "list", Value.type "list", true, rfl, ClsV.ty _, tyx_L (by walk_at "sq"), kt_list_list, ?_⟩ | refine ⟨_, _, Value.type "tuple", Value.type "list", false, rfl, ClsV.ty _, tyx_T (by walk_at "sq"), kt_tuple_list, ?_⟩ | refine ⟨_, _, Value.type "int", Value.type "tuple", false, rfl, ClsV.ty _, TyX.base (TyOf.int _), kt_int_tuple, ?_⟩ | refine ⟨_, _, Value.type "bool", Value.type "tuple", false, rfl, ClsV.ty _, TyX.base (TyOf.bl _), kt_bool_tuple, ?_⟩ | refine ⟨_, _, Value.type "str", Value.type "tuple", false, rfl, ClsV.ty _, TyX.base (TyOf.str _), kt_str_tuple, ?_⟩ | refine ⟨_, _, Value.type "NoneType", Value.type "tuple", false, rfl, ClsV.ty _, TyX.base TyOf.non, kt_NoneType_tuple, ?_⟩ | refine ⟨_, _, Value.type "list", Value.type "tuple", false, rfl, ClsV.ty _, tyx_L (by walk_at "sq"), kt_list_tuple, ?_⟩ | refine ⟨_, _, Value.type "tuple", Value.type "tuple", true, rfl, ClsV.ty _, tyx_T (by walk_at "sq"), kt_tuple_tuple, ?_⟩ | refine ⟨_, _, Value.type "int", Value.type "bool", false, rfl, ClsV.ty _, TyX.base (TyOf.int _), kt_int_bool, ?_⟩ | refine ⟨_, _, Value.type "bool", Value.type "bool", true, rfl, ClsV.ty _, TyX.base (TyOf.bl _), kt_bool_bool, ?_⟩ | refine ⟨_, _, Value.type "str", Value.type "bool", false, rfl, ClsV.ty _, TyX.base (TyOf.str _), kt_str_bool, ?_⟩ | refine ⟨_, _, Value.type "NoneType", Value.type "bool", false, rfl, ClsV.ty _, TyX.base TyOf.non, kt_NoneType_bool, ?_⟩ | refine ⟨_, _, Value.type "list", Value.type "bool", false, rfl, ClsV.ty _, tyx_L (by walk_at "sq"), kt_list_bool, ?_⟩ | refine ⟨_, _, Value.type "tuple", Value.type "bool", false, rfl, ClsV.ty _, tyx_T (by walk_at "sq"), kt_tuple_bool, ?_⟩ | refine ⟨_, _, Value.type "int", Value.type "int", true, rfl, ClsV.ty _, TyX.base (TyOf.int _), kt_int_int, ?_⟩ | refine ⟨_, _, Value.type "bool", Value.type "int", true, rfl, ClsV.ty _, TyX.base (TyOf.bl _), kt_bool_int, ?_⟩ | refine ⟨_, _, Value.type "str", Value.type "int", false, rfl, ClsV.ty _, TyX.base (TyOf.str _), kt_str_int, ?_⟩ | refine ⟨_, _, Value.type "NoneType", Value.type "int", false, rfl, ClsV.ty _, TyX.base TyOf.non, kt_NoneType_int, ?_⟩ | refine ⟨_, _, Value.type "list", Value.type "int", false, rfl, ClsV.ty _, tyx_L (by walk_at "sq"), kt_list_int, ?_⟩ | refine ⟨_, _, Value.type "tuple", Value.type "int", false, rfl, ClsV.ty _, tyx_T (by walk_at "sq"), kt_tuple_int, ?_⟩ | refine ⟨_, _, Value.type "int", Value.type "str", false, rfl, ClsV.ty _, TyX.base (TyOf.int _), kt_int_str, ?_⟩ | refine ⟨_, _, Value.type "bool", Value.type "str", false, rfl, ClsV.ty _, TyX.base (TyOf.bl _), kt_bool_str, ?_⟩ | refine ⟨_, _, Value.type "str", Value.type "str", true, rfl, ClsV.ty _, TyX.base (TyOf.str _), kt_str_str, ?_⟩ | refine ⟨_, _, Value.type "NoneType", Value.type "str", false, rfl, ClsV.ty _, TyX.base TyOf.non, kt_NoneType_str, ?_⟩ | refine ⟨_, _, Value.type "list", Value.type "str", false, rfl, ClsV.ty _, tyx_L (by walk_at "sq"), kt_list_str, ?_⟩ | refine ⟨_, _, Value.type "tuple", Value.type "str", false, rfl, ClsV.ty _, tyx_T (by walk_at "sq"), kt_tuple_str, ?_⟩)
local macro_rules | `(tactic| walk_at "go1") => `(tactic| first
  | (refine ⟨_, rfl, ?_⟩)
  | (refine ⟨_, _, rfl, rfl, ?_⟩)
  | (refine ⟨_, _, _, _, rfl, rfl, SqL.of (by walk_at "hp"), rfl, ?_⟩)
  | (refine Or.inl ⟨_, rfl, ?_⟩)
  | (refine ⟨rfl, ?_⟩)
  | (refine ⟨_, _, rfl, .inl (SqL.of (by walk_at "hp")), ?_⟩)
  | (refine ⟨_, _, rfl, Or.inl (by assumption), ?_⟩)
  | (refine ⟨_, _, rfl, Or.inr (by assumption), ?_⟩)
  | (refine ⟨(by walk_at "ok"), ?_⟩)
  | (refine ⟨_, _, _, _, rfl, rfl, (by walk_at "hp"), rfl, ?_⟩))
local macro_rules | `(tactic| walk_at "go") => `(tactic| repeat (walk_at "go1"))
local macro_rules | `(tactic| walk_at "gt") => `(tactic| repeat (first | walk_at "go1" | walk_at "ty"))

section
variable {P : Program} {w : World} {K : PySem.W.Frag} {mg : Str → Option Value} {base : Heap}
-- [0=_law_j, 1=_law_a, 2=_law_b]
section
variable {σ : L2.St} {H : Hp} {a b : V} {C : Addr} {code f g : String} {i k : Nat} {Q : XK}
theorem erx0 (q : ∀ d H', Same H H' → H d = none → H' d = some (.xd (erFs code [] [])) → Q (.ref C) (some d) H') : tErX C (spEr C code []) (fun vs _ => vs) tNil tNil σ H Q := erx_run (us := []) rfl (by decide) (fun Q q => q [] [] (by decide) fun _ => rfl) q
theorem erxP1 (hi : σ[i]? = some (some a)) (q : ∀ d H', Same H H' → H d = none → H' d = some (.xd (erFs code [f] [a])) → Q (.ref C) (some d) H') : tErX C (spEr C code [f]) (fun vs _ => vs) (tCons (tVar i) tNil) tNil σ H Q := erx_run (us := [a]) rfl (by simp) (fun Q q => ⟨_, hi, q [a] [] (by simp) fun _ => rfl⟩) q
theorem erxP2 (hi : σ[i]? = some (some a)) (hk : σ[k]? = some (some b)) (q : ∀ d H', Same H H' → H d = none → H' d = some (.xd (erFs code [f, g] [a, b])) → Q (.ref C) (some d) H') : tErX C (spEr C code [f, g]) (fun vs _ => vs) (tCons (tVar i) (tCons (tVar k) tNil)) tNil σ H Q := erx_run (us := [a, b]) rfl (by simp) (fun Q q => ⟨_, hi, _, hk, q [a, b] [] (by simp) fun _ => rfl⟩) q
theorem erxK1 (hi : σ[i]? = some (some a)) (q : ∀ d H', Same H H' → H d = none → H' d = some (.xd (erFs code [f] [a])) → Q (.ref C) (some d) H') : tErX C (spEr C code [f]) g11 tNil (tCons (tVar i) tNil) σ H Q := erx_run (us := [a]) rfl (by simp) (fun Q q => ⟨_, hi, q [] [a] (by simp) fun _ => rfl⟩) q
theorem erxK2s (hi : σ[i]? = some (some a)) (hk : σ[k]? = some (some b)) (q : ∀ d H', Same H H' → H d = none → H' d = some (.xd (erFs code [f, g] [a, b])) → Q (.ref C) (some d) H') : tErX C (spEr C code [f, g]) g12s tNil (tCons (tVar k) (tCons (tVar i) tNil)) σ H Q := erx_run (us := [a, b]) rfl (by simp) (fun Q q => ⟨_, hk, _, hi, q [] [b, a] (by simp) fun _ => rfl⟩) q
theorem seq_int {n : Nat} {m : Int} {tr rest : TS} {D : Ends} (hv : σ[i]? = some (some (.int (n : Int)))) (yes : (n : Int) = m → tr { nx := rest D, rt := D.rt, bk := D.bk, ct := D.ct } σ H) (no : (n : Int) ≠ m → rest D σ H) : tSeq (tIfS (tTest (tOp rEq (tVar i) (tC (.int m)))) tr tNext) rest D σ H := by
  refine ⟨_, hv, rfl, _, rfl, ?_⟩
  by_cases h : (n : Int) = m
  · exact iteT' (by rw [h]; exact decide_eq_true rfl) (yes h)
  · exact iteF' (decide_eq_false fun z => h (V.int.inj z)) (no h)
end
/-- the classes that are raised -/
def RIX : List Nat := [0, 9, 10, 28, 2, 29, 30, 32, 33, 40, 38, 41]
def spRaise (T : Tx K mg) : Sp := fun vs H _ E => ∃ (n : Nat) (a b : V), vs = [.int (n : Int), a, b] ∧ n < 12 ∧ ∀ j C code fs d H', RIX[n]? = some j → Ent T j C code fs → Same H H' → H' d = some (.xd (erFs code fs ([a, b].take fs.length))) → E (.ref C) (some d) H'
theorem ok_raise (T : Tx K mg) : FnOk P w K mg base (L2.CX P w) 3 T.f_l_raise T.d_l_raise ["_law_j", "_law_a", "_law_b"] (spRaise T) := by
  have G_BadRatio_init := ok_BadRatio (P := P) (w := w) (base := base) T
  have G_Overlap_init := ok_Overlap (P := P) (w := w) (base := base) T
  have G_NotFilled_init := ok_NotFilled (P := P) (w := w) (base := base) T
  have G_OwesMore_init := ok_OwesMore (P := P) (w := w) (base := base) T
  have G_BadLine_init := ok_BadLine (P := P) (w := w) (base := base) T
  have G_NotOnLine_init := ok_NotOnLine (P := P) (w := w) (base := base) T
  have G_NoPrime_init := ok_NoPrime (P := P) (w := w) (base := base) T
  have G_NotIn_init := ok_NotIn (P := P) (w := w) (base := base) T
  have G_NotFair_init := ok_NotFair (P := P) (w := w) (base := base) T
  have G_Level_init := ok_Level (P := P) (w := w) (base := base) T
  have G_Unmade_init := ok_Unmade (P := P) (w := w) (base := base) T
  have G_NoEntry_init := ok_NoEntry (P := P) (w := w) (base := base) T
  refine T.F_l_raise.okX sc_l_raise (fun vs H Q E h => ?_) (fun cdv A outer s H vs Q E hr h => ?_)
  · obtain ⟨n, a, b, rfl, _⟩ := h
    rfl
  obtain ⟨n, va, vb, rfl, hn, q⟩ := h
  have nd := sc_l_raise.nd
  refine ⟨_, (pss_cons (ps_if (pt_cmpR op_eq (pv 0) pe_int (nomark _)) (pss_one (ps_raise rfl (takes_of rfl rfl rfl rfl) (pmk_er0 T.x_BadRatio T.iC_BadRatio T.tI_BadRatio G_BadRatio_init hr pass0 (by rfl) T.g_BadRatio T.b_BadRatio_init))) pss_nil)
    (pss_cons (ps_if (pt_cmpR op_eq (pv 0) pe_int (nomark _)) (pss_one (ps_raise rfl (takes_of rfl rfl rfl rfl) (pmk_erA T.x_Overlap T.iC_Overlap T.tI_Overlap G_Overlap_init hr pass0 (by rfl) T.g_Overlap T.b_Overlap_init (pa_cons (pv 1) (pa_cons (pv 2) pa_nil))))) pss_nil)
    (pss_cons (ps_if (pt_cmpR op_eq (pv 0) pe_int (nomark _)) (pss_one (ps_raise rfl (takes_of rfl rfl rfl rfl) (pmk_erK T.x_NotFilled T.iC_NotFilled T.tI_NotFilled G_NotFilled_init hr pass0 (by rfl) T.g_NotFilled T.kb_NotFilled_missing (pk_cons (pv 1) pk_nil)))) pss_nil)
    (pss_cons (ps_if (pt_cmpR op_eq (pv 0) pe_int (nomark _)) (pss_one (ps_raise rfl (takes_of rfl rfl rfl rfl) (pmk_erA T.x_OwesMore T.iC_OwesMore T.tI_OwesMore G_OwesMore_init hr pass0 (by rfl) T.g_OwesMore T.b_OwesMore_init (pa_cons (pv 1) pa_nil)))) pss_nil)
    (pss_cons (ps_if (pt_cmpR op_eq (pv 0) pe_int (nomark _)) (pss_one (ps_raise rfl (takes_of rfl rfl rfl rfl) (pmk_erK T.x_BadLine T.iC_BadLine T.tI_BadLine G_BadLine_init hr pass0 (by rfl) T.g_BadLine T.kb_BadLine_line (pk_cons (pv 1) pk_nil)))) pss_nil)
    (pss_cons (ps_if (pt_cmpR op_eq (pv 0) pe_int (nomark _)) (pss_one (ps_raise rfl (takes_of rfl rfl rfl rfl) (pmk_erA T.x_NotOnLine T.iC_NotOnLine T.tI_NotOnLine G_NotOnLine_init hr pass0 (by rfl) T.g_NotOnLine T.b_NotOnLine_init (pa_cons (pv 1) pa_nil)))) pss_nil)
    (pss_cons (ps_if (pt_cmpR op_eq (pv 0) pe_int (nomark _)) (pss_one (ps_raise rfl (takes_of rfl rfl rfl rfl) (pmk_erK T.x_NoPrime T.iC_NoPrime T.tI_NoPrime G_NoPrime_init hr pass0 (by rfl) T.g_NoPrime T.kb_NoPrime_value (pk_cons (pv 1) pk_nil)))) pss_nil)
    (pss_cons (ps_if (pt_cmpR op_eq (pv 0) pe_int (nomark _)) (pss_one (ps_raise rfl (takes_of rfl rfl rfl rfl) (pmk_er0 T.x_NotIn T.iC_NotIn T.tI_NotIn G_NotIn_init hr pass0 (by rfl) T.g_NotIn T.b_NotIn_init))) pss_nil)
    (pss_cons (ps_if (pt_cmpR op_eq (pv 0) pe_int (nomark _)) (pss_one (ps_raise rfl (takes_of rfl rfl rfl rfl) (pmk_erK T.x_NotFair T.iC_NotFair T.tI_NotFair G_NotFair_init hr pass0 (by rfl) T.g_NotFair T.kb_NotFair_second_first (pk_cons (pv 2) (pk_cons (pv 1) pk_nil))))) pss_nil)
    (pss_cons (ps_if (pt_cmpR op_eq (pv 0) pe_int (nomark _)) (pss_one (ps_raise rfl (takes_of rfl rfl rfl rfl) (pmk_er0 T.x_Level T.iC_Level T.tI_Level G_Level_init hr pass0 (by rfl) T.g_Level T.b_Level_init))) pss_nil)
    (pss_cons (ps_if (pt_cmpR op_eq (pv 0) pe_int (nomark _)) (pss_one (ps_raise rfl (takes_of rfl rfl rfl rfl) (pmk_erK T.x_Unmade T.iC_Unmade T.tI_Unmade G_Unmade_init hr pass0 (by rfl) T.g_Unmade T.kb_Unmade_reading (pk_cons (pv 1) pk_nil)))) pss_nil)
    (pss_one (ps_raise rfl (takes_of rfl rfl rfl rfl) (pmk_er0 T.x_NoEntry T.iC_NoEntry T.tI_NoEntry G_NoEntry_init hr pass0 (by rfl) T.g_NoEntry T.b_NoEntry_init)))))))))))))), ?_⟩
  refine seq_int rfl (fun e => ?_) (fun e0 => ?_)
  · obtain rfl : n = 0 := by omega
    exact erx0 fun d H' s _ h => q 0 _ _ _ d H' rfl ⟨rfl, rfl, rfl⟩ s h
  refine seq_int rfl (fun e => ?_) (fun e1 => ?_)
  · obtain rfl : n = 1 := by omega
    exact erxP2 rfl rfl fun d H' s _ h => q 9 _ _ _ d H' rfl ⟨rfl, rfl, rfl⟩ s h
  refine seq_int rfl (fun e => ?_) (fun e2 => ?_)
  · obtain rfl : n = 2 := by omega
    exact erxK1 rfl fun d H' s _ h => q 10 _ _ _ d H' rfl ⟨rfl, rfl, rfl⟩ s h
  refine seq_int rfl (fun e => ?_) (fun e3 => ?_)
  · obtain rfl : n = 3 := by omega
    exact erxP1 rfl fun d H' s _ h => q 28 _ _ _ d H' rfl ⟨rfl, rfl, rfl⟩ s h
  refine seq_int rfl (fun e => ?_) (fun e4 => ?_)
  · obtain rfl : n = 4 := by omega
    exact erxK1 rfl fun d H' s _ h => q 2 _ _ _ d H' rfl ⟨rfl, rfl, rfl⟩ s h
  refine seq_int rfl (fun e => ?_) (fun e5 => ?_)
  · obtain rfl : n = 5 := by omega
    exact erxP1 rfl fun d H' s _ h => q 29 _ _ _ d H' rfl ⟨rfl, rfl, rfl⟩ s h
  refine seq_int rfl (fun e => ?_) (fun e6 => ?_)
  · obtain rfl : n = 6 := by omega
    exact erxK1 rfl fun d H' s _ h => q 30 _ _ _ d H' rfl ⟨rfl, rfl, rfl⟩ s h
  refine seq_int rfl (fun e => ?_) (fun e7 => ?_)
  · obtain rfl : n = 7 := by omega
    exact erx0 fun d H' s _ h => q 32 _ _ _ d H' rfl ⟨rfl, rfl, rfl⟩ s h
  refine seq_int rfl (fun e => ?_) (fun e8 => ?_)
  · obtain rfl : n = 8 := by omega
    exact erxK2s rfl rfl fun d H' s _ h => q 33 _ _ _ d H' rfl ⟨rfl, rfl, rfl⟩ s h
  refine seq_int rfl (fun e => ?_) (fun e9 => ?_)
  · obtain rfl : n = 9 := by omega
    exact erx0 fun d H' s _ h => q 40 _ _ _ d H' rfl ⟨rfl, rfl, rfl⟩ s h
  refine seq_int rfl (fun e => ?_) (fun e10 => ?_)
  · obtain rfl : n = 10 := by omega
    exact erxK1 rfl fun d H' s _ h => q 38 _ _ _ d H' rfl ⟨rfl, rfl, rfl⟩ s h
  obtain rfl : n = 11 := by omega
  exact erx0 fun d H' s _ h => q 41 _ _ _ d H' rfl ⟨rfl, rfl, rfl⟩ s h
end
end TL
namespace TL
open PySem L2

/-! ### steps of a reading -/
local macro_rules | `(tactic| walk_at "hp") => `(tactic| first | assumption | exact upd_same | (refine (upd_ne (by first | assumption | (exact Ne.symm (by assumption)))).trans ?_; walk_at "hp"))
local macro_rules | `(tactic| walk_at "ok") => `(tactic| first | (exact Or.inr ⟨by decide, by decide⟩) | (exact ⟨by decide, by decide⟩) | (exact ⟨by decide, by decide, by decide⟩) | (show _ ≠ _; omega) | (show _ ≠ _; decide) | (exact Or.inl ⟨by omega, by omega⟩) | decide)
local macro_rules | `(tactic| walk_at "sq") => `(tactic| first | assumption | exact SqL.of (by walk_at "hp") | exact SqT.of (by walk_at "hp"))
local macro_rules | `(tactic| walk_at "ty") => `(tactic| first | refine ⟨_, _, Value.type "int", Value.type "list", false, rfl, ClsV.ty _, TyX.base (TyOf.int _), kt_int_list, ?_⟩ | refine ⟨_, _, Value.type "bool", Value.type "list", false, rfl, ClsV.ty _, TyX.base (TyOf.bl _), kt_bool_list, ?_⟩ | refine ⟨_, _, Value.type "str", Value.type "list", false, rfl, ClsV.ty _, TyX.base (TyOf.str _), kt_str_list, ?_⟩ | refine ⟨_, _, Value.type "NoneType", Value.type "list", false, rfl, ClsV.ty _, TyX.base TyOf.non, kt_NoneType_list, ?_⟩ | refine ⟨_, _, Value.type "list", Value.type "list", true, rfl, ClsV.ty _, tyx_L (by walk_at "sq"), kt_list_list, ?_⟩ | refine ⟨_, _, Value.type "tuple", Value.type "list", false, rfl, ClsV.ty _, tyx_T (by walk_at "sq"), kt_tuple_list, ?_⟩ | refine ⟨_, _, Value.type "int", Value.type "tuple", false, rfl, ClsV.ty _, TyX.base (TyOf.int _), kt_int_tuple, ?_⟩ | refine ⟨_, _, Value.type "bool", Value.type "tuple", false, rfl, ClsV.ty _, TyX.base (TyOf.bl _), kt_bool_tuple, ?_⟩ | refine ⟨_, _, Value.type "str", Value.type "tuple", false, rfl, ClsV.ty _, TyX.base (TyOf.str _), kt_str_tuple, ?_⟩ | refine ⟨_, _, Value.type "NoneType", Value.type "tuple", false, rfl, ClsV.ty _, TyX.base TyOf.non, kt_NoneType_tuple, ?_⟩ | refine ⟨_, _, Value.type "list", Value.type "tuple", false, rfl, ClsV.ty _, tyx_L (by walk_at "sq"), kt_list_tuple, ?_⟩ | refine ⟨_, _, Value.type "tuple", Value.type "tuple", true, rfl, ClsV.ty _, tyx_T (by walk_at "sq"), kt_tuple_tuple, ?_⟩ | refine ⟨_, _, Value.type "int", Value.type "bool", false, rfl, ClsV.ty _, TyX.base (TyOf.int _), kt_int_bool, ?_⟩ | refine ⟨_, _, Value.type "bool", Value.type "bool", true, rfl, ClsV.ty _, TyX.base (TyOf.bl _), kt_bool_bool, ?_⟩ | refine ⟨_, _, Value.type "str", Value.type "bool", false, rfl, ClsV.ty _, TyX.base (TyOf.str _), kt_str_bool, ?_⟩ | refine ⟨_, _, Value.type "NoneType", Value.type "bool", false, rfl, ClsV.ty _, TyX.base TyOf.non, kt_NoneType_bool, ?_⟩ | refine ⟨_, _, Value.type "list", Value.type "bool", false, rfl, ClsV.ty _, tyx_L (by walk_at "sq"), kt_list_bool, ?_⟩ | refine ⟨_, _, Value.type "tuple", Value.type "bool", false, rfl, ClsV.ty _, tyx_T (by walk_at "sq"), kt_tuple_bool, ?_⟩ | refine ⟨_, _, Value.type "int", Value.type "int", true, rfl, ClsV.ty _, TyX.base (TyOf.int _), kt_int_int, ?_⟩ | refine ⟨_, _, Value.type "bool", Value.type "int", true, rfl, ClsV.ty _, TyX.base (TyOf.bl _), kt_bool_int, ?_⟩ | refine ⟨_, _, Value.type "str", Value.type "int", false, rfl, ClsV.ty _, TyX.base (TyOf.str _), kt_str_int, ?_⟩ | refine ⟨_, _, Value.type "NoneType", Value.type "int", false, rfl, ClsV.ty _, TyX.base TyOf.non, kt_NoneType_int, ?_⟩ | refine ⟨_, _, Value.type "list", Value.type "int", false, rfl, ClsV.ty _, tyx_L (by walk_at "sq"), kt_list_int, ?_⟩ | refine ⟨_, _, Value.type "tuple", Value.type "int", false, rfl, ClsV.ty _, tyx_T (by walk_at "sq"), kt_tuple_int, ?_⟩ | refine ⟨_, _, Value.type "int", Value.type "str", false, rfl, ClsV.ty _, TyX.base (TyOf.int _), kt_int_str, ?_⟩ | refine ⟨_, _, Value.type "bool", Value.type "str", false, rfl, ClsV.ty _, TyX.base (TyOf.bl _), kt_bool_str, ?_⟩ | refine ⟨_, _, Value.type "str", Value.type "str", true, rfl, ClsV.ty _, TyX.base (TyOf.str _), kt_str_str, ?_⟩ | refine ⟨_, _, Value.type "NoneType", Value.type "str", false, rfl, ClsV.ty _, TyX.base TyOf.non, kt_NoneType_str, ?_⟩ | refine ⟨_, _, Value.type "list", Value.type "str", false, rfl, ClsV.ty _, tyx_L (by walk_at "sq"), kt_list_str, ?_⟩ | refine ⟨_, _, Value.type "tuple", Value.type "str", false, rfl, ClsV.ty _, tyx_T (by walk_at "sq"), kt_tuple_str, ?_⟩)
local macro_rules | `(tactic| walk_at "go1") => `(tactic| first
  | (refine ⟨_, rfl, ?_⟩)
  | (refine ⟨_, _, rfl, rfl, ?_⟩)
  | (refine ⟨_, _, _, _, rfl, rfl, SqL.of (by walk_at "hp"), rfl, ?_⟩)
  | (refine Or.inl ⟨_, rfl, ?_⟩)
  | (refine ⟨rfl, ?_⟩)
  | (refine ⟨_, _, rfl, .inl (SqL.of (by walk_at "hp")), ?_⟩)
  | (refine ⟨_, _, rfl, Or.inl (by assumption), ?_⟩)
  | (refine ⟨_, _, rfl, Or.inr (by assumption), ?_⟩)
  | (refine ⟨(by walk_at "ok"), ?_⟩)
  | (refine ⟨_, _, _, _, rfl, rfl, (by walk_at "hp"), rfl, ?_⟩))
local macro_rules | `(tactic| walk_at "go") => `(tactic| repeat (walk_at "go1"))
local macro_rules | `(tactic| walk_at "gt") => `(tactic| repeat (first | walk_at "go1" | walk_at "ty"))

section
variable {P : Program} {w : World} {K : PySem.W.Frag} {mg : Str → Option Value} {base : Heap}
-- [0=_law_j, 1=_law_a, 2=_law_b, 3=_law_fault, 4=absent, 5=barred, 6=empty]
def KND : List String := ["turn", "turn", "turn", "turn", "turn", "there", "there", "there", "possible", "possible", "possible", "entry"]
/-- what the clauses make of the n-th class -/
theorem knd_tab : ∀ n, n < 12 → (ERX[n]? = some [true, false, false, false] ∧ KND[n]? = some "turn") ∨ (ERX[n]? = some [false, true, false, false] ∧ KND[n]? = some "there") ∨ (ERX[n]? = some [false, false, true, false] ∧ KND[n]? = some "possible") ∨ (ERX[n]? = some [false, false, false, true] ∧ KND[n]? = some "entry") := by decide +kernel
theorem rai_at (T : Tx K mg) : ∀ {n j : Nat}, RIX[n]? = some j → ([T.C_BadRatio, T.C_Overlap, T.C_NotFilled, T.C_OwesMore, T.C_BadLine, T.C_NotOnLine, T.C_NoPrime, T.C_NotIn, T.C_NotFair, T.C_Level, T.C_Unmade, T.C_NoEntry] : List Addr)[n]? = (erC T)[j]?
  | 0, j, e => by cases e; rfl
  | 1, j, e => by cases e; rfl
  | 2, j, e => by cases e; rfl
  | 3, j, e => by cases e; rfl
  | 4, j, e => by cases e; rfl
  | 5, j, e => by cases e; rfl
  | 6, j, e => by cases e; rfl
  | 7, j, e => by cases e; rfl
  | 8, j, e => by cases e; rfl
  | 9, j, e => by cases e; rfl
  | 10, j, e => by cases e; rfl
  | 11, j, e => by cases e; rfl
  | n + 12, j, e => by cases e
def spCaught (T : Tx K mg) : Sp := fun vs H Q _ => ∃ (n : Nat) (a b : V), vs = [.int (n : Int), a, b] ∧ n < 12 ∧ ∀ j kn code fs t u H', RIX[n]? = some j → KND[n]? = some kn → ERCODE[j]? = some code → ERF[j]? = some fs → Same H H' → H' t = some (.tup [.str (Str.ofString kn), .str (Str.ofString code), .ref u]) → H' u = some (.tup ([a, b].take fs.length)) → Q (.ref t) H'
theorem ok_caught (T : Tx K mg) : FnOk P w K mg base CX0 5 T.f_l_caught T.d_l_caught ["_law_j", "_law_a", "_law_b"] (spCaught T) := by
  have G_l_raise := ok_raise (P := P) (w := w) (base := base) T
  have G_l_told := ok_toldE (P := P) (w := w) (base := base) T
  refine T.F_l_caught.ok sc_l_caught (fun vs H Q E h => ?_) (fun cdv A outer s H vs Q E hr h => ?_)
  · obtain ⟨n, a, b, rfl, _⟩ := h
    rfl
  obtain ⟨n, va, vb, rfl, hn, q⟩ := h
  have nd := sc_l_caught.nd
  have hrs : ∀ {v : Option Value}, L2H.RoomH 2 ((A.deeper (PyProof.Rows.envOfC "_law_caught" (defScope s_l_caught) s.heap.objs.size T.f_l_caught cdv)).mark v) := fun {v} => (L2H.roomH_mark hr v).mono (by decide)
  refine ⟨_, (pss_cons (ps_try_list (Wout := fun _ _ _ _ => False) rfl rfl nd takes0 (fun W pn xe tk _ => by exact (pss_one (ps_expr (pe_callS G_l_raise (hr.mono (by decide)) (by rfl) T.m_l_raise T.F_l_raise.kp T.b_l_raise (fun σ => passAt tk σ) (pa_cons (pv 0) (pa_cons (pv 1) (pa_cons (pv 2) pa_nil))))))) (HdL.cons (q := ⟨.ref T.C_TurnError, 3, _⟩) rfl rfl ⟨rfl, by decide, Or.inl T.g_TurnError⟩ (fun a oe cls d pn hz hf => by exact (pss_one (ps_ret (pe_tup (pa_cons pe_str (pa_cons (pe_xfA hz hf (pv 3)) (pa_cons (pe_callE G_l_told hrs (by rfl) T.m_l_told T.F_l_told.kp hz hf (pv 3)) pa_nil))))))) (HdL.cons (q := ⟨.ref T.C_NotThere, 4, _⟩) rfl rfl ⟨rfl, by decide, Or.inl T.g_NotThere⟩ (fun a oe cls d pn hz hf => by exact (pss_one (ps_ret (pe_tup (pa_cons pe_str (pa_cons (pe_xfA hz hf (pv 4)) (pa_cons (pe_callE G_l_told hrs (by rfl) T.m_l_told T.F_l_told.kp hz hf (pv 4)) pa_nil))))))) (HdL.cons (q := ⟨.ref T.C_Impossible, 5, _⟩) rfl rfl ⟨rfl, by decide, Or.inl T.g_Impossible⟩ (fun a oe cls d pn hz hf => by exact (pss_one (ps_ret (pe_tup (pa_cons pe_str (pa_cons (pe_xfA hz hf (pv 5)) (pa_cons (pe_callE G_l_told hrs (by rfl) T.m_l_told T.F_l_told.kp hz hf (pv 5)) pa_nil))))))) (HdL.cons (q := ⟨.ref T.C_NoEntry, 6, _⟩) rfl rfl ⟨rfl, by decide, Or.inl T.g_NoEntry⟩ (fun a oe cls d pn hz hf => by exact (pss_one (ps_ret (pe_tup (pa_cons pe_str (pa_cons (pe_xfA hz hf (pv 6)) (pa_cons (pe_callE G_l_told hrs (by rfl) T.m_l_told T.F_l_told.kp hz hf (pv 6)) pa_nil))))))) HdL.nil)))))
    (pss_one (ps_ret (pe_tup (pa_cons pe_str (pa_cons pe_str (pa_cons (pe_tup pa_nil) pa_nil))))))), ?_⟩
  obtain ⟨jj, hjj⟩ : ∃ j, RIX[n]? = some j := ⟨_, List.getElem?_eq_getElem (by simpa [RIX] using hn)⟩
  refine ⟨_, rfl, _, rfl, _, rfl, n, va, vb, rfl, hn, fun j C code fs d H' hj en s he => ?_⟩
  have ok := er_ok T en.c en.f
  obtain ⟨r, er, hx⟩ := exmAll_get T.exT ((rai_at T hj).trans en.c)
  have told : ∀ (kn : String) (G : Hp), KND[n]? = some kn → Same H' G → ∀ t u G', Same G G' → G' t = some (.tup [.str (Str.ofString kn), .str (Str.ofString code), .ref u]) → G' u = some (.tup ([va, vb].take fs.length)) → Q (.ref t) G' := fun kn G hk sG t u G' sG' h1 h2 => q j kn code fs t u G' hj hk en.n en.f ((s.trans sG).trans sG') h1 h2
  have fin : ∀ (kn : String), KND[n]? = some kn → ∀ u G', Same H' G' → G' u = some (.tup ([va, vb].take fs.length)) → ∀ t, G' t = none → Q (.ref t) (upd G' t (.tup [.str (Str.ofString kn), .str (Str.ofString code), .ref u])) := fun kn hk u G' sG hu t ht => told kn H' hk (Same.refl _) t u _ (sG.trans (Same.new ht)) upd_same (Same.new ht _ _ hu)
  rcases knd_tab n hn with ⟨e, hk⟩ | ⟨e, hk⟩ | ⟨e, hk⟩ | ⟨e, hk⟩
  · rw [e] at er
    cases er
    refine ⟨true, exmRow_get hx (i := 0) rfl rfl, fun _ a ha => ?_, fun z => by cases z⟩
    refine ⟨rfl, C, d, _, .str (Str.ofString code), rfl, rfl, ok.xf, ok.nf "code" (by simp), he, rfl, ?_⟩
    exact ⟨rfl, j, va, vb, C, d, code, fs, en, rfl, rfl, he, fun u G' s' hn' hu => ⟨by show 3 ≤ sizeLine; decide, fin _ hk u G' s' hu⟩⟩
  · rw [e] at er
    cases er
    refine ⟨false, exmRow_get hx (i := 0) rfl rfl, fun z => absurd z (by decide), fun _ => ?_⟩
    refine ⟨true, exmRow_get hx (i := 1) rfl rfl, fun _ a ha => ?_, fun z => by cases z⟩
    refine ⟨rfl, C, d, _, .str (Str.ofString code), rfl, rfl, ok.xf, ok.nf "code" (by simp), he, rfl, ?_⟩
    exact ⟨rfl, j, va, vb, C, d, code, fs, en, rfl, rfl, he, fun u G' s' hn' hu => ⟨by show 3 ≤ sizeLine; decide, fin _ hk u G' s' hu⟩⟩
  · rw [e] at er
    cases er
    refine ⟨false, exmRow_get hx (i := 0) rfl rfl, fun z => absurd z (by decide), fun _ => ?_⟩
    refine ⟨false, exmRow_get hx (i := 1) rfl rfl, fun z => absurd z (by decide), fun _ => ?_⟩
    refine ⟨true, exmRow_get hx (i := 2) rfl rfl, fun _ a ha => ?_, fun z => by cases z⟩
    refine ⟨rfl, C, d, _, .str (Str.ofString code), rfl, rfl, ok.xf, ok.nf "code" (by simp), he, rfl, ?_⟩
    exact ⟨rfl, j, va, vb, C, d, code, fs, en, rfl, rfl, he, fun u G' s' hn' hu => ⟨by show 3 ≤ sizeLine; decide, fin _ hk u G' s' hu⟩⟩
  · rw [e] at er
    cases er
    refine ⟨false, exmRow_get hx (i := 0) rfl rfl, fun z => absurd z (by decide), fun _ => ?_⟩
    refine ⟨false, exmRow_get hx (i := 1) rfl rfl, fun z => absurd z (by decide), fun _ => ?_⟩
    refine ⟨false, exmRow_get hx (i := 2) rfl rfl, fun z => absurd z (by decide), fun _ => ?_⟩
    refine ⟨true, exmRow_get hx (i := 3) rfl rfl, fun _ a ha => ?_, fun z => by cases z⟩
    refine ⟨rfl, C, d, _, .str (Str.ofString code), rfl, rfl, ok.xf, ok.nf "code" (by simp), he, rfl, ?_⟩
    exact ⟨rfl, j, va, vb, C, d, code, fs, en, rfl, rfl, he, fun u G' s' hn' hu => ⟨by show 3 ≤ sizeLine; decide, fin _ hk u G' s' hu⟩⟩
end
end TL
namespace TL
open PySem L2

/-! ### steps of a reading -/
local macro_rules | `(tactic| walk_at "hp") => `(tactic| first | assumption | exact upd_same | (refine (upd_ne (by first | assumption | (exact Ne.symm (by assumption)))).trans ?_; walk_at "hp"))
local macro_rules | `(tactic| walk_at "ok") => `(tactic| first | (exact Or.inr ⟨by decide, by decide⟩) | (exact ⟨by decide, by decide⟩) | (exact ⟨by decide, by decide, by decide⟩) | (show _ ≠ _; omega) | (show _ ≠ _; decide) | (exact Or.inl ⟨by omega, by omega⟩) | decide)
local macro_rules | `(tactic| walk_at "sq") => `(tactic| first | assumption | exact SqL.of (by walk_at "hp") | exact SqT.of (by walk_at "hp"))
local macro_rules | `(tactic| walk_at "ty") => `(tactic| first | refine ⟨_, _, Value.type "int", Value.type "list", false, rfl, ClsV.ty _, TyX.base (TyOf.int _), kt_int_list, ?_⟩ | refine ⟨_, _, Value.type "bool", Value.type "list", false, rfl, ClsV.ty _, TyX.base (TyOf.bl _), kt_bool_list, ?_⟩ | refine ⟨_, _, Value.type "str", Value.type "list", false, rfl, ClsV.ty _, TyX.base (TyOf.str _), kt_str_list, ?_⟩ | refine ⟨_, _, Value.type "NoneType", Value.type "list", false, rfl, ClsV.ty _, TyX.base TyOf.non, kt_NoneType_list, ?_⟩ | refine ⟨_, _, Value.type "list", Value.type "list", true, rfl, ClsV.ty _, tyx_L (by walk_at "sq"), kt_list_list, ?_⟩ | refine ⟨_, _, Value.type "tuple", Value.type "list", false, rfl, ClsV.ty _, tyx_T (by walk_at "sq"), kt_tuple_list, ?_⟩ | refine ⟨_, _, Value.type "int", Value.type "tuple", false, rfl, ClsV.ty _, TyX.base (TyOf.int _), kt_int_tuple, ?_⟩ | refine ⟨_, _, Value.type "bool", Value.type "tuple", false, rfl, ClsV.ty _, TyX.base (TyOf.bl _), kt_bool_tuple, ?_⟩ | refine ⟨_, _, Value.type "str", Value.type "tuple", false, rfl, ClsV.ty _, TyX.base (TyOf.str _), kt_str_tuple, ?_⟩ | refine ⟨_, _, Value.type "NoneType", Value.type "tuple", false, rfl, ClsV.ty _, TyX.base TyOf.non, kt_NoneType_tuple, ?_⟩ | refine ⟨_, _, Value.type "list", Value.type "tuple", false, rfl, ClsV.ty _, tyx_L (by walk_at "sq"), kt_list_tuple, ?_⟩ | refine ⟨_, _, Value.type "tuple", Value.type "tuple", true, rfl, ClsV.ty _, tyx_T (by walk_at "sq"), kt_tuple_tuple, ?_⟩ | refine ⟨_, _, Value.type "int", Value.type "bool", false, rfl, ClsV.ty _, TyX.base (TyOf.int _), kt_int_bool, ?_⟩ | refine ⟨_, _, Value.type "bool", Value.type "bool", true, rfl, ClsV.ty _, TyX.base (TyOf.bl _), kt_bool_bool, ?_⟩ | refine ⟨_, _, Value.type "str", Value.type "bool", false, rfl, ClsV.ty _, TyX.base (TyOf.str _), kt_str_bool, ?_⟩ | refine ⟨_, _, Value.type "NoneType", Value.type "bool", false, rfl, ClsV.ty _, TyX.base TyOf.non, kt_NoneType_bool, ?_⟩ | refine ⟨_, _, Value.type "list", Value.type "bool", false, rfl, ClsV.ty _, tyx_L (by walk_at "sq"), kt_list_bool, ?_⟩ | refine ⟨_, _, Value.type "tuple", Value.type "bool", false, rfl, ClsV.ty _, tyx_T (by walk_at "sq"), kt_tuple_bool, ?_⟩ | refine ⟨_, _, Value.type "int", Value.type "int", true, rfl, ClsV.ty _, TyX.base (TyOf.int _), kt_int_int, ?_⟩ | refine ⟨_, _, Value.type "bool", Value.type "int", true, rfl, ClsV.ty _, TyX.base (TyOf.bl _), kt_bool_int, ?_⟩ | refine ⟨_, _, Value.type "str", Value.type "int", false, rfl, ClsV.ty _, TyX.base (TyOf.str _), kt_str_int, ?_⟩ | refine ⟨_, _, Value.type "NoneType", Value.type "int", false, rfl, ClsV.ty _, TyX.base TyOf.non, kt_NoneType_int, ?_⟩ | refine ⟨_, _, Value.type "list", Value.type "int", false, rfl, ClsV.ty _, tyx_L (by walk_at "sq"), kt_list_int, ?_⟩ | refine ⟨_, _, Value.type "tuple", Value.type "int", false, rfl, ClsV.ty _, tyx_T (by walk_at "sq"), kt_tuple_int, ?_⟩ | refine ⟨_, _, Value.type "int", Value.type "str", false, rfl, ClsV.ty _, TyX.base (TyOf.int _), kt_int_str, ?_⟩ | refine ⟨_, _, Value.type "bool", Value.type "str", false, rfl, ClsV.ty _, TyX.base (TyOf.bl _), kt_bool_str, ?_⟩ | refine ⟨_, _, Value.type "str", Value.type "str", true, rfl, ClsV.ty _, TyX.base (TyOf.str _), kt_str_str, ?_⟩ | refine ⟨_, _, Value.type "NoneType", Value.type "str", false, rfl, ClsV.ty _, TyX.base TyOf.non, kt_NoneType_str, ?_⟩ | refine ⟨_, _, Value.type "list", Value.type "str", false, rfl, ClsV.ty _, tyx_L (by walk_at "sq"), kt_list_str, ?_⟩ | refine ⟨_, _, Value.type "tuple", Value.type "str", false, rfl, ClsV.ty _, tyx_T (by walk_at "sq"), kt_tuple_str, ?_⟩)
local macro_rules | `(tactic| walk_at "go1") => `(tactic| first
  | (refine ⟨_, rfl, ?_⟩)
  | (refine ⟨_, _, rfl, rfl, ?_⟩)
  | (refine ⟨_, _, _, _, rfl, rfl, SqL.of (by walk_at "hp"), rfl, ?_⟩)
  | (refine Or.inl ⟨_, rfl, ?_⟩)
  | (refine ⟨rfl, ?_⟩)
  | (refine ⟨_, _, rfl, .inl (SqL.of (by walk_at "hp")), ?_⟩)
  | (refine ⟨_, _, rfl, Or.inl (by assumption), ?_⟩)
  | (refine ⟨_, _, rfl, Or.inr (by assumption), ?_⟩)
  | (refine ⟨(by walk_at "ok"), ?_⟩)
  | (refine ⟨_, _, _, _, rfl, rfl, (by walk_at "hp"), rfl, ?_⟩))
local macro_rules | `(tactic| walk_at "go") => `(tactic| repeat (walk_at "go1"))
local macro_rules | `(tactic| walk_at "gt") => `(tactic| repeat (first | walk_at "go1" | walk_at "ty"))

section
variable {P : Program} {w : World} {K : PySem.W.Frag} {mg : Str → Option Value} {base : Heap}
-- [0=_law_script, 1=_law_bag_here, 2=_law_left, 3=_law_right, 4=_law_placed, 5=_law_named, 6=_law_j, 7=_law_a, 8=_law_b, 9=_law_dues]
section
variable {σ : L2.St} {H : Hp} {a b u : V} {L : Addr} {i l : Nat}
theorem ix_zero {Q : VK} (h : σ[l]? = some (some (.ref L))) (e : H L = some (.lst [a, b])) (q : Q a H) : tOp (rIxL K) (tVar l) (tC (.int 0)) σ H Q := ⟨_, h, _, _, _, _, rfl, rfl, SqL.of e, at_of (j := 0) rfl rfl, q⟩
theorem ix_one {Q : VK} (h : σ[l]? = some (some (.ref L))) (e : H L = some (.lst [a, b])) (q : Q b H) : tOp (rIxL K) (tVar l) (tC (.int 1)) σ H Q := ⟨_, h, _, _, _, _, rfl, rfl, SqL.of e, at_of (j := 1) rfl rfl, q⟩
theorem ev_made {T : Tx K mg} (h : σ[l]? = some (some (.ref L))) (e : H L = some (.lst [a, b])) : Ev (tCall (spMade T) [] E0 (tCons (tOp (rIxL K) (tVar l) (tC (.int 0))) (tCons (tOp (rIxL K) (tVar l) (tC (.int 1))) tNil))) σ H (LsJ T a b 42) := fun G s Q q =>
  ix_zero h (s _ _ e) (ix_one h (s _ _ e) ⟨a, b, rfl, fun u H' s' hu => q u H' s' hu⟩)
theorem made_ne {T : Tx K mg} {k : Bool → Hp → Prop} (h1 : σ[i]? = some (some u)) (h : σ[l]? = some (some (.ref L))) (e : H L = some (.lst [a, b])) (hu : LsJ T a b 42 H u) (ea : DXE K (esT T) H 3 a a) (eb : DXE K (esT T) H 3 b b) (q : ∀ H', Same H H' → k false H') :
    tNot (tB (tCall (spMadeSo T) [] E0 (tCons (tVar i) (tCons (tOp (rIxL K) (tVar l) (tC (.int 0))) (tCons (tOp (rIxL K) (tVar l) (tC (.int 1))) tNil))))) σ H k :=
  ⟨_, h1, ix_zero h e (ix_one h e ⟨u, a, b, rfl, hu, ea, eb, fun H' s => ⟨_, rfl, q H' s⟩⟩)⟩
theorem if_made1 {T : Tx K mg} {tr rest : TS} {D : Ends} (h1 : σ[i]? = some (some u)) (h : σ[l]? = some (some (.ref L))) (e : H L = some (.lst [a, b])) (hu : LsJ T a b 42 H u) (ea : DXE K (esT T) H 3 a a) (eb : DXE K (esT T) H 3 b b) (q : ∀ H', Same H H' → rest D σ H') :
    tSeq (tIfS (tNot (tB (tCall (spMadeSo T) [] E0 (tCons (tVar i) (tCons (tOp (rIxL K) (tVar l) (tC (.int 0))) (tCons (tOp (rIxL K) (tVar l) (tC (.int 1))) tNil)))))) tr tNext) rest D σ H :=
  made_ne (k := fun c H1 => if c = true then tr { nx := rest D, rt := D.rt, bk := D.bk, ct := D.ct } σ H1 else tNext { nx := rest D, rt := D.rt, bk := D.bk, ct := D.ct } σ H1) h1 h e hu ea eb fun H' s => iteF' rfl (q H' s)
theorem if_made2 {T : Tx K mg} {tr rest : TS} {D : Ends} {a2 b2 u2 : V} {L2 : Addr} {i2 l2 : Nat} (h1 : σ[i]? = some (some u)) (h : σ[l]? = some (some (.ref L))) (e : H L = some (.lst [a, b])) (hu : LsJ T a b 42 H u) (ea : DXE K (esT T) H 3 a a) (eb : DXE K (esT T) H 3 b b)
    (h1' : σ[i2]? = some (some u2)) (h' : σ[l2]? = some (some (.ref L2))) (e' : H L2 = some (.lst [a2, b2])) (hu' : LsJ T a2 b2 42 H u2) (ea' : DXE K (esT T) H 3 a2 a2) (eb' : DXE K (esT T) H 3 b2 b2) (q : ∀ H', Same H H' → rest D σ H') :
    tSeq (tIfS (tOr (tNot (tB (tCall (spMadeSo T) [] E0 (tCons (tVar i) (tCons (tOp (rIxL K) (tVar l) (tC (.int 0))) (tCons (tOp (rIxL K) (tVar l) (tC (.int 1))) tNil)))))) (tNot (tB (tCall (spMadeSo T) [] E0 (tCons (tVar i2) (tCons (tOp (rIxL K) (tVar l2) (tC (.int 0))) (tCons (tOp (rIxL K) (tVar l2) (tC (.int 1))) tNil))))))) tr tNext) rest D σ H :=
  made_ne (k := fun c H1 => if c = true then (if true = true then tr { nx := rest D, rt := D.rt, bk := D.bk, ct := D.ct } σ H1 else tNext { nx := rest D, rt := D.rt, bk := D.bk, ct := D.ct } σ H1) else (tNot (tB (tCall (spMadeSo T) [] E0 (tCons (tVar i2) (tCons (tOp (rIxL K) (tVar l2) (tC (.int 0))) (tCons (tOp (rIxL K) (tVar l2) (tC (.int 1))) tNil)))))) σ H1 fun c H1 => if c = true then tr { nx := rest D, rt := D.rt, bk := D.bk, ct := D.ct } σ H1 else tNext { nx := rest D, rt := D.rt, bk := D.bk, ct := D.ct } σ H1) h1 h e hu ea eb fun H' s =>
    iteF' rfl (made_ne h1' h' (s _ _ e') (LsJ.mono _ _ _ s hu') (ea'.same s) (eb'.same s) fun H2 s2 => iteF' rfl (q H2 (s.trans s2)))
end
/-- what is due of the m-th class that is raised -/
def DueR (a b : V) (m : Nat) : Hp → V → Prop := fun H v => ∃ j kn code fs t u, RIX[m]? = some j ∧ KND[m]? = some kn ∧ ERCODE[j]? = some code ∧ ERF[j]? = some fs ∧ v = .ref t ∧ H t = some (.tup [.str (Str.ofString kn), .str (Str.ofString code), .ref u]) ∧ H u = some (.tup ([a, b].take fs.length))
theorem DueR.mono {a b : V} {m : Nat} : Mono (DueR a b m) := fun _ _ _ s ⟨j, kn, code, fs, t, u, h1, h2, h3, h4, h5, h6, h7⟩ => ⟨j, kn, code, fs, t, u, h1, h2, h3, h4, h5, s _ _ h6, s _ _ h7⟩
theorem monosD {a b : V} : ∀ {l : List Nat}, Monos (l.map (DueR a b))
  | [] => trivial
  | _ :: l => ⟨DueR.mono, monosD (l := l)⟩
section
variable {σ : L2.St} {H : Hp} {a b : V} {ta : TA} {m j : Nat} {kn code : String} {fs : List String} {i k : Nat}
theorem ev_due (h1 : RIX[m]? = some j) (h2 : KND[m]? = some kn) (h3 : ERCODE[j]? = some code) (h4 : ERF[j]? = some fs) (h : Ev (tTup ta) σ H (TsV ([a, b].take fs.length))) : Ev (tTup (tCons (tC (.str (Str.ofString kn))) (tCons (tC (.str (Str.ofString code))) (tCons (tTup ta) tNil)))) σ H (DueR a b m) := fun H1 s1 Q q =>
  ev_tup (Rs := [IsV _, IsV _, TsV _]) (evs_cons ev_cV mIsV (evs_cons ev_cV mIsV (evs_cons h TsV.mono evs_nil))) ⟨mIsV, mIsV, TsV.mono, trivial⟩ (by simp) H1 s1 Q fun v H2 s2 hv => by
    obtain ⟨t, vs, rfl, ht, ha⟩ := hv
    match vs, ha with
    | [x, y, z], ⟨hx, hy, ⟨u, hz, hu⟩, _⟩ =>
      rw [show x = _ from hx, show y = _ from hy, hz] at ht
      exact q _ _ s2 ⟨j, kn, code, fs, t, u, h1, h2, h3, h4, rfl, ht, hu⟩
theorem ev_tup0 : Ev (tTup tNil) σ H (TsV []) := fun H1 s1 Q q => ⟨by show 0 ≤ sizeLine; decide, fun t ht => q _ _ (Same.new ht) ⟨t, rfl, upd_same⟩⟩
theorem ev_tup1 (h : σ[i]? = some (some a)) : Ev (tTup (tCons (tVar i) tNil)) σ H (TsV [a]) := fun H1 s1 Q q => ⟨_, h, by show 1 ≤ sizeLine; decide, fun t ht => q _ _ (Same.new ht) ⟨t, rfl, upd_same⟩⟩
theorem ev_tup2 (h : σ[i]? = some (some a)) (h' : σ[k]? = some (some b)) : Ev (tTup (tCons (tVar i) (tCons (tVar k) tNil))) σ H (TsV [a, b]) := fun H1 s1 Q q => ⟨_, h, _, h', by show 2 ≤ sizeLine; decide, fun t ht => q _ _ (Same.new ht) ⟨t, rfl, upd_same⟩⟩
end
def spLaw (K : PySem.W.Frag) : Sp := fun vs H Q _ => ∃ (a : Addr) (ns : List Int), vs = [.ref a] ∧ SqL K H a (ns.map V.int) ∧ ns.length ≤ 63 ∧ ∀ H', Q (.bl true) H'
set_option maxHeartbeats 4000000 in
theorem ok_law (T : Tx K mg) : FnOk P w K mg base CX0 10 T.f_law T.d_law ["_law_script"] (spLaw K) := by
  have G_l_bag := ok_bag (P := P) (w := w) (base := base) T
  have G_l_draw := ok_draw (P := P) (w := w) (base := base) T
  have G_l_thing := ok_thing (P := P) (w := w) (base := base) T
  have G_l_by_place := ok_place (P := P) (w := w) (base := base) T
  have G_l_by_name := ok_name (P := P) (w := w) (base := base) T
  have G_l_made_so := ok_made (P := P) (w := w) (base := base) T
  have G_l_caught := ok_caught (P := P) (w := w) (base := base) T
  have G_l_same := ok_sameX (P := P) (w := w) (base := base) T 6
  refine T.F_law.ok sc_law (fun vs H Q E h => ?_) (fun cdv A outer s H vs Q E hr h => ?_)
  · obtain ⟨a, ns, rfl, _⟩ := h
    rfl
  obtain ⟨a, ns, rfl, hS, hl, q⟩ := h
  have nd := sc_law.nd
  refine ⟨_, (pss_cons (ps_set (i := 1) nd rfl (Or.inl rfl) (pe_call G_l_bag (hr.mono (by decide)) (by rfl) T.m_l_bag T.F_l_bag.kp T.b_l_bag .nil pass0 (pa_cons (pv 0) pa_nil)))
    (pss_cons (ps_par (i := 2) (j := 3) rfl nd rfl rfl (by decide) rfl rfl (pa_cons (pe_lst (pa_cons (pe_call G_l_thing (hr.mono (by decide)) (by rfl) T.m_l_thing T.F_l_thing.kp T.b_l_thing .nil pass0 (pa_cons (pv 1) pa_nil)) (pa_cons (pe_call G_l_thing (hr.mono (by decide)) (by rfl) T.m_l_thing T.F_l_thing.kp T.b_l_thing .nil pass0 (pa_cons (pv 1) pa_nil)) pa_nil))) (pa_cons (pe_lst (pa_cons (pe_call G_l_thing (hr.mono (by decide)) (by rfl) T.m_l_thing T.F_l_thing.kp T.b_l_thing .nil pass0 (pa_cons (pv 1) pa_nil)) (pa_cons (pe_call G_l_thing (hr.mono (by decide)) (by rfl) T.m_l_thing T.F_l_thing.kp T.b_l_thing .nil pass0 (pa_cons (pv 1) pa_nil)) pa_nil))) pa_nil)) rfl)
    (pss_cons (ps_set (i := 4) nd rfl (Or.inl rfl) (pe_call G_l_by_place (hr.mono (by decide)) (by rfl) T.m_l_by_place T.F_l_by_place.kp T.b_l_by_place .nil pass0 (pa_cons (pe_ix (show IxR _ (rIxL K) from ix_list) (pv 2) pe_int (fun _ _ => rfl)) (pa_cons (pe_ix (show IxR _ (rIxL K) from ix_list) (pv 2) pe_int (fun _ _ => rfl)) pa_nil))))
    (pss_cons (ps_set (i := 5) nd rfl (Or.inl rfl) (pe_call G_l_by_name (hr.mono (by decide)) (by rfl) T.m_l_by_name T.F_l_by_name.kp T.b_l_by_name .nil pass0 (pa_cons (pe_ix (show IxR _ (rIxL K) from ix_list) (pv 3) pe_int (fun _ _ => rfl)) (pa_cons (pe_ix (show IxR _ (rIxL K) from ix_list) (pv 3) pe_int (fun _ _ => rfl)) pa_nil))))
    (pss_cons (ps_if (PW.pt (pw_or (pt_not (pt_val (pe_call G_l_made_so (hr.mono (by decide)) (by rfl) T.m_l_made_so T.F_l_made_so.kp T.b_l_made_so .nil pass0 (pa_cons (pv 4) (pa_cons (pe_ix (show IxR _ (rIxL K) from ix_list) (pv 2) pe_int (fun _ _ => rfl)) (pa_cons (pe_ix (show IxR _ (rIxL K) from ix_list) (pv 2) pe_int (fun _ _ => rfl)) pa_nil)))))) (pw_or1 (pt_not (pt_val (pe_call G_l_made_so (hr.mono (by decide)) (by rfl) T.m_l_made_so T.F_l_made_so.kp T.b_l_made_so .nil pass0 (pa_cons (pv 5) (pa_cons (pe_ix (show IxR _ (rIxL K) from ix_list) (pv 3) pe_int (fun _ _ => rfl)) (pa_cons (pe_ix (show IxR _ (rIxL K) from ix_list) (pv 3) pe_int (fun _ _ => rfl)) pa_nil))))))))) (pss_one (ps_ret pe_bl)) pss_nil)
    (pss_cons (ps_if (pt_not (pt_val (pe_call G_l_made_so (hr.mono (by decide)) (by rfl) T.m_l_made_so T.F_l_made_so.kp T.b_l_made_so .nil pass0 (pa_cons (pv 4) (pa_cons (pe_ix (show IxR _ (rIxL K) from ix_list) (pv 2) pe_int (fun _ _ => rfl)) (pa_cons (pe_ix (show IxR _ (rIxL K) from ix_list) (pv 2) pe_int (fun _ _ => rfl)) pa_nil)))))) (pss_one (ps_ret pe_bl)) pss_nil)
    (pss_cons (ps_par3 (i := 6) (j := 7) (l := 8) rfl nd rfl rfl rfl (by decide) (by decide) (by decide) rfl rfl rfl (pa_cons (pe_call G_l_draw (hr.mono (by decide)) (by rfl) T.m_l_draw T.F_l_draw.kp T.b_l_draw .nil pass0 (pa_cons (pv 1) (pa_cons pe_int pa_nil))) (pa_cons (pe_call G_l_thing (hr.mono (by decide)) (by rfl) T.m_l_thing T.F_l_thing.kp T.b_l_thing .nil pass0 (pa_cons (pv 1) pa_nil)) (pa_cons (pe_call G_l_thing (hr.mono (by decide)) (by rfl) T.m_l_thing T.F_l_thing.kp T.b_l_thing .nil pass0 (pa_cons (pv 1) pa_nil)) pa_nil))) rfl)
    (pss_cons (ps_set (i := 9) nd rfl (Or.inl rfl) (pe_lst (pa_cons (pe_tup (pa_cons pe_str (pa_cons pe_str (pa_cons (pe_tup pa_nil) pa_nil)))) (pa_cons (pe_tup (pa_cons pe_str (pa_cons pe_str (pa_cons (pe_tup (pa_cons (pv 7) (pa_cons (pv 8) pa_nil))) pa_nil)))) (pa_cons (pe_tup (pa_cons pe_str (pa_cons pe_str (pa_cons (pe_tup (pa_cons (pv 7) pa_nil)) pa_nil)))) pa_nil)))))
    (pss_cons (ps_set (i := 9) nd rfl (Or.inl rfl) (pe_op op_cat (pv 9) (pe_lst (pa_cons (pe_tup (pa_cons pe_str (pa_cons pe_str (pa_cons (pe_tup (pa_cons (pv 7) pa_nil)) pa_nil)))) (pa_cons (pe_tup (pa_cons pe_str (pa_cons pe_str (pa_cons (pe_tup (pa_cons (pv 7) pa_nil)) pa_nil)))) (pa_cons (pe_tup (pa_cons pe_str (pa_cons pe_str (pa_cons (pe_tup (pa_cons (pv 7) pa_nil)) pa_nil)))) pa_nil))))))
    (pss_cons (ps_set (i := 9) nd rfl (Or.inl rfl) (pe_op op_cat (pv 9) (pe_lst (pa_cons (pe_tup (pa_cons pe_str (pa_cons pe_str (pa_cons (pe_tup (pa_cons (pv 7) pa_nil)) pa_nil)))) (pa_cons (pe_tup (pa_cons pe_str (pa_cons pe_str (pa_cons (pe_tup pa_nil) pa_nil)))) (pa_cons (pe_tup (pa_cons pe_str (pa_cons pe_str (pa_cons (pe_tup (pa_cons (pv 7) (pa_cons (pv 8) pa_nil))) pa_nil)))) pa_nil))))))
    (pss_cons (ps_set (i := 9) nd rfl (Or.inl rfl) (pe_op op_cat (pv 9) (pe_lst (pa_cons (pe_tup (pa_cons pe_str (pa_cons pe_str (pa_cons (pe_tup pa_nil) pa_nil)))) (pa_cons (pe_tup (pa_cons pe_str (pa_cons pe_str (pa_cons (pe_tup (pa_cons (pv 7) pa_nil)) pa_nil)))) (pa_cons (pe_tup (pa_cons pe_str (pa_cons pe_str (pa_cons (pe_tup pa_nil) pa_nil)))) pa_nil))))))
    (pss_one (ps_ret (pe_call G_l_same (hr.mono (by decide)) (by rfl) T.m_l_same T.F_l_same.kp T.b_l_same .nil pass0 (pa_cons (pe_call G_l_caught (hr.mono (by decide)) (by rfl) T.m_l_caught T.F_l_caught.kp T.b_l_caught .nil pass0 (pa_cons (pv 6) (pa_cons (pv 7) (pa_cons (pv 8) pa_nil)))) (pa_cons (pe_ix (show IxR _ (rIxL K) from ix_list) (pv 9) (pv 6) (fun _ _ => rfl)) pa_nil)))))))))))))))), ?_⟩
  refine ⟨_, rfl, a, ns, rfl, hS, hl, fun B H1 s1 hB1 hf1 => ?_⟩
  refine gn ?_
  refine ⟨_, rfl, B, rfl, hB1, fun v1 H2 hB2 kb1 d1 => ?_⟩
  refine ⟨_, rfl, B, rfl, hB2, fun v2 H3 hB3 kb2 d2 => ?_⟩
  refine ⟨by show 2 ≤ sizeLine; decide, fun l1 hl1 => ?_⟩
  have t1 := Same.new (o := .lst [v1, v2]) hl1
  have e1 : (upd H3 l1 (.lst [v1, v2])) l1 = some (.lst [v1, v2]) := upd_same
  have n1 : l1 ≠ B.b := by
    obtain ⟨i, r, z, c, e, _⟩ := hB3.ex
    intro z
    rw [z, e] at hl1
    cases hl1
  have hB4 := hB3.same t1
  have d1 := (d1.kb hB2 kb2).same t1
  have d2 := d2.same t1
  generalize upd H3 l1 (.lst [v1, v2]) = H4 at t1 e1 hB4 d1 d2
  refine ⟨_, rfl, B, rfl, hB4, fun v3 H5 hB5 kb3 d3 => ?_⟩
  refine ⟨_, rfl, B, rfl, hB5, fun v4 H6 hB6 kb4 d4 => ?_⟩
  refine ⟨by show 2 ≤ sizeLine; decide, fun l2 hl2 => ?_⟩
  have t2 := Same.new (o := .lst [v3, v4]) hl2
  have e2 : (upd H6 l2 (.lst [v3, v4])) l2 = some (.lst [v3, v4]) := upd_same
  have e1 := t2 _ _ (kb4 _ _ (kb3 _ _ e1 n1) n1)
  have hB7 := hB6.same t2
  have d1 := ((d1.kb hB4 kb3).kb hB5 kb4).same t2
  have d2 := ((d2.kb hB4 kb3).kb hB5 kb4).same t2
  have d3 := (d3.kb hB5 kb4).same t2
  have d4 := d4.same t2
  generalize upd H6 l2 (.lst [v3, v4]) = H7 at t2 e2 e1 hB7 d1 d2 d3 d4
  refine ⟨_, _, rfl, ?_⟩
  dsimp only [List.set_cons_succ, List.set_cons_zero]
  refine asg_ev (R := LsJ T v1 v2 42) (ev_made rfl e1) ?_
  intro u1 H8 s8 m1
  refine asg_ev (R := LsJ T v3 v4 42) (ev_made rfl (s8 _ _ e2)) ?_
  intro u2 H9 s9 m2
  have s79 := s8.trans s9
  refine if_made2 rfl rfl (s79 _ _ e1) (LsJ.mono _ _ _ s9 m1) (d1.same s79).self (d2.same s79).self rfl rfl (s79 _ _ e2) m2 (d3.same s79).self (d4.same s79).self fun HB sB => ?_
  have s7B := s79.trans sB
  refine if_made1 rfl rfl (s7B _ _ e1) (LsJ.mono _ _ _ (s9.trans sB) m1) (d1.same s7B).self (d2.same s7B).self fun HC sC => ?_
  have s7C := s7B.trans sC
  have hBC := hB7.same s7C
  clear d1 d2 d3 d4 m1 m2 e1 e2
  refine ⟨_, rfl, B, _, rfl, by decide, by decide, hBC, fun n HD n0 n12 hBD kD => ?_⟩
  refine ⟨_, rfl, B, rfl, hBD, fun va HE hBE kE da => ?_⟩
  refine ⟨_, rfl, B, rfl, hBE, fun vb HF hBF kF db => ?_⟩
  have da := da.kb hBE kF
  obtain ⟨m, rfl⟩ : ∃ m : Nat, n = (m : Int) := ⟨n.toNat, by omega⟩
  have hm : m < 12 := by omega
  refine ⟨_, _, _, rfl, ?_⟩
  dsimp only
  refine asg_ev (R := LstR ((List.range 3).map (DueR va vb))) (ev_lst (evs_cons (ev_due (m := 0) rfl rfl rfl rfl ev_tup0) DueR.mono (evs_cons (ev_due (m := 1) rfl rfl rfl rfl (ev_tup2 rfl rfl)) DueR.mono (evs_cons (ev_due (m := 2) rfl rfl rfl rfl (ev_tup1 rfl)) DueR.mono evs_nil))) ⟨DueR.mono, DueR.mono, DueR.mono, trivial⟩ (by simp)) ?_
  intro w1 G1 r1 l1
  refine asg_ev (R := LstR ((List.range 6).map (DueR va vb))) (ev_cat (Rs := (List.range 3).map (DueR va vb)) (ev_var rfl fun H' s => LstR.mono monosD _ _ _ s l1) monosD (ev_lst (evs_cons (ev_due (m := 3) rfl rfl rfl rfl (ev_tup1 rfl)) DueR.mono (evs_cons (ev_due (m := 4) rfl rfl rfl rfl (ev_tup1 rfl)) DueR.mono (evs_cons (ev_due (m := 5) rfl rfl rfl rfl (ev_tup1 rfl)) DueR.mono evs_nil))) ⟨DueR.mono, DueR.mono, DueR.mono, trivial⟩ (by simp)) ⟨DueR.mono, DueR.mono, DueR.mono, trivial⟩ (by simp)) ?_
  intro w2 G2 z2 l2
  have r2 := r1.trans z2
  refine asg_ev (R := LstR ((List.range 9).map (DueR va vb))) (ev_cat (Rs := (List.range 6).map (DueR va vb)) (ev_var rfl fun H' s => LstR.mono monosD _ _ _ s l2) monosD (ev_lst (evs_cons (ev_due (m := 6) rfl rfl rfl rfl (ev_tup1 rfl)) DueR.mono (evs_cons (ev_due (m := 7) rfl rfl rfl rfl ev_tup0) DueR.mono (evs_cons (ev_due (m := 8) rfl rfl rfl rfl (ev_tup2 rfl rfl)) DueR.mono evs_nil))) ⟨DueR.mono, DueR.mono, DueR.mono, trivial⟩ (by simp)) ⟨DueR.mono, DueR.mono, DueR.mono, trivial⟩ (by simp)) ?_
  intro w3 G3 z3 l3
  have r3 := r2.trans z3
  refine asg_ev (R := LstR ((List.range 12).map (DueR va vb))) (ev_cat (Rs := (List.range 9).map (DueR va vb)) (ev_var rfl fun H' s => LstR.mono monosD _ _ _ s l3) monosD (ev_lst (evs_cons (ev_due (m := 9) rfl rfl rfl rfl ev_tup0) DueR.mono (evs_cons (ev_due (m := 10) rfl rfl rfl rfl (ev_tup1 rfl)) DueR.mono (evs_cons (ev_due (m := 11) rfl rfl rfl rfl ev_tup0) DueR.mono evs_nil))) ⟨DueR.mono, DueR.mono, DueR.mono, trivial⟩ (by simp)) ⟨DueR.mono, DueR.mono, DueR.mono, trivial⟩ (by simp)) ?_
  intro w4 G4 z4 l4
  have r4 := r3.trans z4
  have da := da.same r4
  have db := db.same r4
  obtain ⟨pd, ds, rfl, hpd, hds⟩ := l4
  have hdl : ds.length = 12 := by
    have := hds.len
    simpa using this
  have hx : ds[m]? = some ds[m] := List.getElem?_eq_getElem (by omega)
  obtain ⟨R, hR1, hR2⟩ := hds.get m _ hx
  rw [List.getElem?_map, List.getElem?_range hm] at hR1
  cases hR1
  generalize ds[m] = dv at hx hR2
  refine ⟨_, rfl, _, rfl, _, rfl, m, va, vb, rfl, hm, fun j kn code fs t u H' e1 e2 e3 e4 s5 h6 h7 => ?_⟩
  obtain ⟨j', kn', code', fs', t', u', f1, f2, f3, f4, rfl, f6, f7⟩ := hR2
  rw [e1] at f1
  cases f1
  rw [e2] at f2
  cases f2
  rw [e3] at f3
  cases f3
  rw [e4] at f4
  cases f4
  refine ⟨_, rfl, _, rfl, _, _, _, _, rfl, rfl, SqL.of (s5 _ _ hpd), at_of (j := m) (by omega) hx, ?_⟩
  have f6 := s5 _ _ f6
  have f7 := s5 _ _ f7
  refine ⟨5, .ref t, .ref t', rfl, by decide, ?_, fun H2 _ => q H2⟩
  have hd2 : DXE K (esT T) H' 4 (.ref u) (.ref u') := tsv_dx ⟨u, rfl, h7⟩ ⟨u', rfl, f7⟩ (by simp; omega) fun v hv => by
    have hm := List.mem_of_mem_take hv
    simp only [List.mem_cons, List.not_mem_nil, or_false] at hm
    rcases hm with rfl | rfl
    · exact (da.same s5).self
    · exact (db.same s5).self
  refine .tup (SqT.of h6) (SqT.of f6) (by simp) rfl fun i x y x1 x2 => ?_
  match i, x1, x2 with
  | 0, rfl, rfl => exact .str _
  | 1, rfl, rfl => exact .str _
  | 2, rfl, rfl => exact hd2
end
end TL
namespace TL
open PySem L2
/-! ### the end -/
set_option maxHeartbeats 0 in
theorem all_mk {P : Program} {w : World} {K : PySem.W.Frag} {h : Heap} {mg : Str → Option Value} {fa : Addr} {C_TurnError : Addr} {C_NotThere : Addr} {C_Impossible : Addr} {C_BadRatio : Addr} {C_BadText : Addr} {C_BadLine : Addr} {C_BadTop : Addr} {C_BadStart : Addr} {C_BadLength : Addr} {C_BadOrder : Addr} {C_BadRow : Addr} {C_OffLine : Addr} {C_Overlap : Addr} {C_NotFilled : Addr} {C_OtherLine : Addr} {C_BadRoom : Addr} {C_BadSwap : Addr} {C_Meet : Addr} {C_BadWedge : Addr} {C_BadReading : Addr} {C_BadWindow : Addr} {C_BadName : Addr} {C_BadNumber : Addr} {C_BadDeed : Addr} {C_BadExchange : Addr} {C_BadLimit : Addr} {C_Double : Addr} {C_TooMany : Addr} {C_Unlike : Addr} {C_OtherSteps : Addr} {C_NothingLeft : Addr} {C_OwesMore : Addr} {C_NotOnLine : Addr} {C_NoPrime : Addr} {C_UnknownName : Addr} {C_NotIn : Addr} {C_NotFair : Addr} {C_NotKept : Addr} {C_Odd : Addr} {C_NoRoot : Addr} {C_Unfit : Addr} {C_Unmade : Addr} {C_TooLong : Addr} {C_Level : Addr} {C_NoEntry : Addr} {f1 : Addr} {od1 an1 : Option Addr} {sl1 : Array (Option Value)} {oc1 kV1 dc1 pm1 cd1 ct1 : Value} {f2 : Addr} {od2 an2 : Option Addr} {sl2 : Array (Option Value)} {oc2 kV2 dc2 pm2 cd2 ct2 : Value} {f3 : Addr} {od3 an3 : Option Addr} {sl3 : Array (Option Value)} {oc3 kV3 dc3 pm3 cd3 ct3 : Value} {f4 : Addr} {od4 an4 : Option Addr} {sl4 : Array (Option Value)} {oc4 kV4 dc4 pm4 cd4 ct4 : Value} {f5 : Addr} {od5 an5 : Option Addr} {sl5 : Array (Option Value)} {oc5 kV5 dc5 pm5 cd5 ct5 : Value} {f6 : Addr} {od6 an6 : Option Addr} {sl6 : Array (Option Value)} {oc6 kV6 dc6 pm6 cd6 ct6 : Value} {f7 : Addr} {od7 an7 : Option Addr} {sl7 : Array (Option Value)} {oc7 kV7 dc7 pm7 cd7 ct7 : Value} {f8 : Addr} {od8 an8 : Option Addr} {sl8 : Array (Option Value)} {oc8 kV8 dc8 pm8 cd8 ct8 : Value} {f9 : Addr} {od9 an9 : Option Addr} {sl9 : Array (Option Value)} {oc9 kV9 dc9 pm9 cd9 ct9 : Value} {f10 : Addr} {od10 an10 : Option Addr} {sl10 : Array (Option Value)} {oc10 kV10 dc10 pm10 cd10 ct10 : Value} {f11 : Addr} {od11 an11 : Option Addr} {sl11 : Array (Option Value)} {oc11 kV11 dc11 pm11 cd11 ct11 : Value} {f12 : Addr} {od12 an12 : Option Addr} {sl12 : Array (Option Value)} {oc12 kV12 dc12 pm12 cd12 ct12 : Value} {f13 : Addr} {od13 an13 : Option Addr} {sl13 : Array (Option Value)} {oc13 kV13 dc13 pm13 cd13 ct13 : Value} {f14 : Addr} {od14 an14 : Option Addr} {sl14 : Array (Option Value)} {oc14 kV14 dc14 pm14 cd14 ct14 : Value} {f15 : Addr} {od15 an15 : Option Addr} {sl15 : Array (Option Value)} {oc15 kV15 dc15 pm15 cd15 ct15 : Value} {f16 : Addr} {od16 an16 : Option Addr} {sl16 : Array (Option Value)} {oc16 kV16 dc16 pm16 cd16 ct16 : Value} {f17 : Addr} {od17 an17 : Option Addr} {sl17 : Array (Option Value)} {oc17 kV17 dc17 pm17 cd17 ct17 : Value} {f18 : Addr} {od18 an18 : Option Addr} {sl18 : Array (Option Value)} {oc18 kV18 dc18 pm18 cd18 ct18 : Value} {f19 : Addr} {od19 an19 : Option Addr} {sl19 : Array (Option Value)} {oc19 kV19 dc19 pm19 cd19 ct19 : Value} {f20 : Addr} {od20 an20 : Option Addr} {sl20 : Array (Option Value)} {oc20 kV20 dc20 pm20 cd20 ct20 : Value} {f21 : Addr} {od21 an21 : Option Addr} {sl21 : Array (Option Value)} {oc21 kV21 dc21 pm21 cd21 ct21 : Value} {f22 : Addr} {od22 an22 : Option Addr} {sl22 : Array (Option Value)} {oc22 kV22 dc22 pm22 cd22 ct22 : Value} {f23 : Addr} {od23 an23 : Option Addr} {sl23 : Array (Option Value)} {oc23 kV23 dc23 pm23 cd23 ct23 : Value} {f24 : Addr} {od24 an24 : Option Addr} {sl24 : Array (Option Value)} {oc24 kV24 dc24 pm24 cd24 ct24 : Value} {f25 : Addr} {od25 an25 : Option Addr} {sl25 : Array (Option Value)} {oc25 kV25 dc25 pm25 cd25 ct25 : Value} {f26 : Addr} {od26 an26 : Option Addr} {sl26 : Array (Option Value)} {oc26 kV26 dc26 pm26 cd26 ct26 : Value} {f27 : Addr} {od27 an27 : Option Addr} {sl27 : Array (Option Value)} {oc27 kV27 dc27 pm27 cd27 ct27 : Value} {f28 : Addr} {od28 an28 : Option Addr} {sl28 : Array (Option Value)} {oc28 kV28 dc28 pm28 cd28 ct28 : Value} {f29 : Addr} {od29 an29 : Option Addr} {sl29 : Array (Option Value)} {oc29 kV29 dc29 pm29 cd29 ct29 : Value} {f30 : Addr} {od30 an30 : Option Addr} {sl30 : Array (Option Value)} {oc30 kV30 dc30 pm30 cd30 ct30 : Value} {f31 : Addr} {od31 an31 : Option Addr} {sl31 : Array (Option Value)} {oc31 kV31 dc31 pm31 cd31 ct31 : Value} {f32 : Addr} {od32 an32 : Option Addr} {sl32 : Array (Option Value)} {oc32 kV32 dc32 pm32 cd32 ct32 : Value} {f33 : Addr} {od33 an33 : Option Addr} {sl33 : Array (Option Value)} {oc33 kV33 dc33 pm33 cd33 ct33 : Value} {f34 : Addr} {od34 an34 : Option Addr} {sl34 : Array (Option Value)} {oc34 kV34 dc34 pm34 cd34 ct34 : Value} {f35 : Addr} {od35 an35 : Option Addr} {sl35 : Array (Option Value)} {oc35 kV35 dc35 pm35 cd35 ct35 : Value} {f36 : Addr} {od36 an36 : Option Addr} {sl36 : Array (Option Value)} {oc36 kV36 dc36 pm36 cd36 ct36 : Value} {f37 : Addr} {od37 an37 : Option Addr} {sl37 : Array (Option Value)} {oc37 kV37 dc37 pm37 cd37 ct37 : Value} {f38 : Addr} {od38 an38 : Option Addr} {sl38 : Array (Option Value)} {oc38 kV38 dc38 pm38 cd38 ct38 : Value} {f39 : Addr} {od39 an39 : Option Addr} {sl39 : Array (Option Value)} {oc39 kV39 dc39 pm39 cd39 ct39 : Value} {f40 : Addr} {od40 an40 : Option Addr} {sl40 : Array (Option Value)} {oc40 kV40 dc40 pm40 cd40 ct40 : Value} {f41 : Addr} {od41 an41 : Option Addr} {sl41 : Array (Option Value)} {oc41 kV41 dc41 pm41 cd41 ct41 : Value} {f42 : Addr} {od42 an42 : Option Addr} {sl42 : Array (Option Value)} {oc42 kV42 dc42 pm42 cd42 ct42 : Value} {f43 : Addr} {od43 an43 : Option Addr} {sl43 : Array (Option Value)} {oc43 kV43 dc43 pm43 cd43 ct43 : Value} {f44 : Addr} {od44 an44 : Option Addr} {sl44 : Array (Option Value)} {oc44 kV44 dc44 pm44 cd44 ct44 : Value} {f45 : Addr} {od45 an45 : Option Addr} {sl45 : Array (Option Value)} {oc45 kV45 dc45 pm45 cd45 ct45 : Value} {f46 : Addr} {od46 an46 : Option Addr} {sl46 : Array (Option Value)} {oc46 kV46 dc46 pm46 cd46 ct46 : Value} {f47 : Addr} {od47 an47 : Option Addr} {sl47 : Array (Option Value)} {oc47 kV47 dc47 pm47 cd47 ct47 : Value} {f48 : Addr} {od48 an48 : Option Addr} {sl48 : Array (Option Value)} {oc48 kV48 dc48 pm48 cd48 ct48 : Value} {f49 : Addr} {od49 an49 : Option Addr} {sl49 : Array (Option Value)} {oc49 kV49 dc49 pm49 cd49 ct49 : Value} {f50 : Addr} {od50 an50 : Option Addr} {sl50 : Array (Option Value)} {oc50 kV50 dc50 pm50 cd50 ct50 : Value} {f51 : Addr} {od51 an51 : Option Addr} {sl51 : Array (Option Value)} {oc51 kV51 dc51 pm51 cd51 ct51 : Value} {f52 : Addr} {od52 an52 : Option Addr} {sl52 : Array (Option Value)} {oc52 kV52 dc52 pm52 cd52 ct52 : Value} {f53 : Addr} {od53 an53 : Option Addr} {sl53 : Array (Option Value)} {oc53 kV53 dc53 pm53 cd53 ct53 : Value} {f54 : Addr} {od54 an54 : Option Addr} {sl54 : Array (Option Value)} {oc54 kV54 dc54 pm54 cd54 ct54 : Value} {f55 : Addr} {od55 an55 : Option Addr} {sl55 : Array (Option Value)} {oc55 kV55 dc55 pm55 cd55 ct55 : Value} {f56 : Addr} {od56 an56 : Option Addr} {sl56 : Array (Option Value)} {oc56 kV56 dc56 pm56 cd56 ct56 : Value} {f57 : Addr} {od57 an57 : Option Addr} {sl57 : Array (Option Value)} {oc57 kV57 dc57 pm57 cd57 ct57 : Value} {f58 : Addr} {od58 an58 : Option Addr} {sl58 : Array (Option Value)} {oc58 kV58 dc58 pm58 cd58 ct58 : Value} (X : K.In h) (G : h.Ns mainGlobals mg) (hfa : mg "law" = some (.ref fa))
    (z_len : PySem.W.nsIn K mainGlobals "len" = some none)
    (z_abs : PySem.W.nsIn K mainGlobals "abs" = some none)
    (z_int : PySem.W.nsIn K mainGlobals "int" = some none)
    (z_isinstance : PySem.W.nsIn K mainGlobals "isinstance" = some none)
    (z_list : PySem.W.nsIn K mainGlobals "list" = some none)
    (z_tuple : PySem.W.nsIn K mainGlobals "tuple" = some none)
    (z_bool : PySem.W.nsIn K mainGlobals "bool" = some none)
    (z_str : PySem.W.nsIn K mainGlobals "str" = some none)
    (z_all : PySem.W.nsIn K mainGlobals "all" = some none)
    (z_zip : PySem.W.nsIn K mainGlobals "zip" = some none)
    (z_range : PySem.W.nsIn K mainGlobals "range" = some none)
    (z_ValueError : PySem.W.nsIn K mainGlobals "ValueError" = some none)
    (z_LookupError : PySem.W.nsIn K mainGlobals "LookupError" = some none)
    (z_ArithmeticError : PySem.W.nsIn K mainGlobals "ArithmeticError" = some none)
    (z_IndexError : PySem.W.nsIn K mainGlobals "IndexError" = some none)
    (z_KeyError : PySem.W.nsIn K mainGlobals "KeyError" = some none)
    (z_ZeroDivisionError : PySem.W.nsIn K mainGlobals "ZeroDivisionError" = some none)
    (aC_TurnError : PySem.W.nsIn K mainGlobals "TurnError" = some (some (.ref C_TurnError)))
    (aC_NotThere : PySem.W.nsIn K mainGlobals "NotThere" = some (some (.ref C_NotThere)))
    (aC_Impossible : PySem.W.nsIn K mainGlobals "Impossible" = some (some (.ref C_Impossible)))
    (aC_BadRatio : PySem.W.nsIn K mainGlobals "BadRatio" = some (some (.ref C_BadRatio)))
    (aC_BadText : PySem.W.nsIn K mainGlobals "BadText" = some (some (.ref C_BadText)))
    (aC_BadLine : PySem.W.nsIn K mainGlobals "BadLine" = some (some (.ref C_BadLine)))
    (aC_BadTop : PySem.W.nsIn K mainGlobals "BadTop" = some (some (.ref C_BadTop)))
    (aC_BadStart : PySem.W.nsIn K mainGlobals "BadStart" = some (some (.ref C_BadStart)))
    (aC_BadLength : PySem.W.nsIn K mainGlobals "BadLength" = some (some (.ref C_BadLength)))
    (aC_BadOrder : PySem.W.nsIn K mainGlobals "BadOrder" = some (some (.ref C_BadOrder)))
    (aC_BadRow : PySem.W.nsIn K mainGlobals "BadRow" = some (some (.ref C_BadRow)))
    (aC_OffLine : PySem.W.nsIn K mainGlobals "OffLine" = some (some (.ref C_OffLine)))
    (aC_Overlap : PySem.W.nsIn K mainGlobals "Overlap" = some (some (.ref C_Overlap)))
    (aC_NotFilled : PySem.W.nsIn K mainGlobals "NotFilled" = some (some (.ref C_NotFilled)))
    (aC_OtherLine : PySem.W.nsIn K mainGlobals "OtherLine" = some (some (.ref C_OtherLine)))
    (aC_BadRoom : PySem.W.nsIn K mainGlobals "BadRoom" = some (some (.ref C_BadRoom)))
    (aC_BadSwap : PySem.W.nsIn K mainGlobals "BadSwap" = some (some (.ref C_BadSwap)))
    (aC_Meet : PySem.W.nsIn K mainGlobals "Meet" = some (some (.ref C_Meet)))
    (aC_BadWedge : PySem.W.nsIn K mainGlobals "BadWedge" = some (some (.ref C_BadWedge)))
    (aC_BadReading : PySem.W.nsIn K mainGlobals "BadReading" = some (some (.ref C_BadReading)))
    (aC_BadWindow : PySem.W.nsIn K mainGlobals "BadWindow" = some (some (.ref C_BadWindow)))
    (aC_BadName : PySem.W.nsIn K mainGlobals "BadName" = some (some (.ref C_BadName)))
    (aC_BadNumber : PySem.W.nsIn K mainGlobals "BadNumber" = some (some (.ref C_BadNumber)))
    (aC_BadDeed : PySem.W.nsIn K mainGlobals "BadDeed" = some (some (.ref C_BadDeed)))
    (aC_BadExchange : PySem.W.nsIn K mainGlobals "BadExchange" = some (some (.ref C_BadExchange)))
    (aC_BadLimit : PySem.W.nsIn K mainGlobals "BadLimit" = some (some (.ref C_BadLimit)))
    (aC_Double : PySem.W.nsIn K mainGlobals "Double" = some (some (.ref C_Double)))
    (aC_TooMany : PySem.W.nsIn K mainGlobals "TooMany" = some (some (.ref C_TooMany)))
    (aC_Unlike : PySem.W.nsIn K mainGlobals "Unlike" = some (some (.ref C_Unlike)))
    (aC_OtherSteps : PySem.W.nsIn K mainGlobals "OtherSteps" = some (some (.ref C_OtherSteps)))
    (aC_NothingLeft : PySem.W.nsIn K mainGlobals "NothingLeft" = some (some (.ref C_NothingLeft)))
    (aC_OwesMore : PySem.W.nsIn K mainGlobals "OwesMore" = some (some (.ref C_OwesMore)))
    (aC_NotOnLine : PySem.W.nsIn K mainGlobals "NotOnLine" = some (some (.ref C_NotOnLine)))
    (aC_NoPrime : PySem.W.nsIn K mainGlobals "NoPrime" = some (some (.ref C_NoPrime)))
    (aC_UnknownName : PySem.W.nsIn K mainGlobals "UnknownName" = some (some (.ref C_UnknownName)))
    (aC_NotIn : PySem.W.nsIn K mainGlobals "NotIn" = some (some (.ref C_NotIn)))
    (aC_NotFair : PySem.W.nsIn K mainGlobals "NotFair" = some (some (.ref C_NotFair)))
    (aC_NotKept : PySem.W.nsIn K mainGlobals "NotKept" = some (some (.ref C_NotKept)))
    (aC_Odd : PySem.W.nsIn K mainGlobals "Odd" = some (some (.ref C_Odd)))
    (aC_NoRoot : PySem.W.nsIn K mainGlobals "NoRoot" = some (some (.ref C_NoRoot)))
    (aC_Unfit : PySem.W.nsIn K mainGlobals "Unfit" = some (some (.ref C_Unfit)))
    (aC_Unmade : PySem.W.nsIn K mainGlobals "Unmade" = some (some (.ref C_Unmade)))
    (aC_TooLong : PySem.W.nsIn K mainGlobals "TooLong" = some (some (.ref C_TooLong)))
    (aC_Level : PySem.W.nsIn K mainGlobals "Level" = some (some (.ref C_Level)))
    (aC_NoEntry : PySem.W.nsIn K mainGlobals "NoEntry" = some (some (.ref C_NoEntry)))
    (a1 : PySem.W.findIn K (.ref C_BadRatio) "__init__" = some (some (.ref f1)))
    (i1 : PySem.W.isFn K (.ref f1) = true)
    (l1 : K.lookup f1 = some ⟨oc1, od1, .func (PySem.W.fnOf "__init__" "BadRatio.__init__" (defArgs s_BadRatio_init) (defBody s_BadRatio_init) (defScope s_BadRatio_init) .none kV1 dc1 pm1 an1 cd1 ct1), sl1⟩)
    (c1 : PySem.W.codeIn K cd1 "BadRatio.__init__" = true)
    (k1 : PySem.W.keepIn K (.ref f1) = true)
    (tI_BadRatio : PySem.W.typeIn K (.ref f1) = some (.type "function"))
    (a2 : PySem.W.findIn K (.ref C_BadText) "__init__" = some (some (.ref f2)))
    (i2 : PySem.W.isFn K (.ref f2) = true)
    (l2 : K.lookup f2 = some ⟨oc2, od2, .func (PySem.W.fnOf "__init__" "BadText.__init__" (defArgs s_BadText_init) (defBody s_BadText_init) (defScope s_BadText_init) .none kV2 dc2 pm2 an2 cd2 ct2), sl2⟩)
    (c2 : PySem.W.codeIn K cd2 "BadText.__init__" = true)
    (k2 : PySem.W.keepIn K (.ref f2) = true)
    (tI_BadText : PySem.W.typeIn K (.ref f2) = some (.type "function"))
    (a3 : PySem.W.findIn K (.ref C_BadLine) "__init__" = some (some (.ref f3)))
    (i3 : PySem.W.isFn K (.ref f3) = true)
    (l3 : K.lookup f3 = some ⟨oc3, od3, .func (PySem.W.fnOf "__init__" "BadLine.__init__" (defArgs s_BadLine_init) (defBody s_BadLine_init) (defScope s_BadLine_init) .none kV3 dc3 pm3 an3 cd3 ct3), sl3⟩)
    (c3 : PySem.W.codeIn K cd3 "BadLine.__init__" = true)
    (k3 : PySem.W.keepIn K (.ref f3) = true)
    (tI_BadLine : PySem.W.typeIn K (.ref f3) = some (.type "function"))
    (a4 : PySem.W.findIn K (.ref C_BadTop) "__init__" = some (some (.ref f4)))
    (i4 : PySem.W.isFn K (.ref f4) = true)
    (l4 : K.lookup f4 = some ⟨oc4, od4, .func (PySem.W.fnOf "__init__" "BadTop.__init__" (defArgs s_BadTop_init) (defBody s_BadTop_init) (defScope s_BadTop_init) .none kV4 dc4 pm4 an4 cd4 ct4), sl4⟩)
    (c4 : PySem.W.codeIn K cd4 "BadTop.__init__" = true)
    (k4 : PySem.W.keepIn K (.ref f4) = true)
    (tI_BadTop : PySem.W.typeIn K (.ref f4) = some (.type "function"))
    (a5 : PySem.W.findIn K (.ref C_BadStart) "__init__" = some (some (.ref f5)))
    (i5 : PySem.W.isFn K (.ref f5) = true)
    (l5 : K.lookup f5 = some ⟨oc5, od5, .func (PySem.W.fnOf "__init__" "BadStart.__init__" (defArgs s_BadStart_init) (defBody s_BadStart_init) (defScope s_BadStart_init) .none kV5 dc5 pm5 an5 cd5 ct5), sl5⟩)
    (c5 : PySem.W.codeIn K cd5 "BadStart.__init__" = true)
    (k5 : PySem.W.keepIn K (.ref f5) = true)
    (tI_BadStart : PySem.W.typeIn K (.ref f5) = some (.type "function"))
    (a6 : PySem.W.findIn K (.ref C_BadLength) "__init__" = some (some (.ref f6)))
    (i6 : PySem.W.isFn K (.ref f6) = true)
    (l6 : K.lookup f6 = some ⟨oc6, od6, .func (PySem.W.fnOf "__init__" "BadLength.__init__" (defArgs s_BadLength_init) (defBody s_BadLength_init) (defScope s_BadLength_init) .none kV6 dc6 pm6 an6 cd6 ct6), sl6⟩)
    (c6 : PySem.W.codeIn K cd6 "BadLength.__init__" = true)
    (k6 : PySem.W.keepIn K (.ref f6) = true)
    (tI_BadLength : PySem.W.typeIn K (.ref f6) = some (.type "function"))
    (a7 : PySem.W.findIn K (.ref C_BadOrder) "__init__" = some (some (.ref f7)))
    (i7 : PySem.W.isFn K (.ref f7) = true)
    (l7 : K.lookup f7 = some ⟨oc7, od7, .func (PySem.W.fnOf "__init__" "BadOrder.__init__" (defArgs s_BadOrder_init) (defBody s_BadOrder_init) (defScope s_BadOrder_init) .none kV7 dc7 pm7 an7 cd7 ct7), sl7⟩)
    (c7 : PySem.W.codeIn K cd7 "BadOrder.__init__" = true)
    (k7 : PySem.W.keepIn K (.ref f7) = true)
    (tI_BadOrder : PySem.W.typeIn K (.ref f7) = some (.type "function"))
    (a8 : PySem.W.findIn K (.ref C_BadRow) "__init__" = some (some (.ref f8)))
    (i8 : PySem.W.isFn K (.ref f8) = true)
    (l8 : K.lookup f8 = some ⟨oc8, od8, .func (PySem.W.fnOf "__init__" "BadRow.__init__" (defArgs s_BadRow_init) (defBody s_BadRow_init) (defScope s_BadRow_init) .none kV8 dc8 pm8 an8 cd8 ct8), sl8⟩)
    (c8 : PySem.W.codeIn K cd8 "BadRow.__init__" = true)
    (k8 : PySem.W.keepIn K (.ref f8) = true)
    (tI_BadRow : PySem.W.typeIn K (.ref f8) = some (.type "function"))
    (a9 : PySem.W.findIn K (.ref C_OffLine) "__init__" = some (some (.ref f9)))
    (i9 : PySem.W.isFn K (.ref f9) = true)
    (l9 : K.lookup f9 = some ⟨oc9, od9, .func (PySem.W.fnOf "__init__" "OffLine.__init__" (defArgs s_OffLine_init) (defBody s_OffLine_init) (defScope s_OffLine_init) .none kV9 dc9 pm9 an9 cd9 ct9), sl9⟩)
    (c9 : PySem.W.codeIn K cd9 "OffLine.__init__" = true)
    (k9 : PySem.W.keepIn K (.ref f9) = true)
    (tI_OffLine : PySem.W.typeIn K (.ref f9) = some (.type "function"))
    (a10 : PySem.W.findIn K (.ref C_Overlap) "__init__" = some (some (.ref f10)))
    (i10 : PySem.W.isFn K (.ref f10) = true)
    (l10 : K.lookup f10 = some ⟨oc10, od10, .func (PySem.W.fnOf "__init__" "Overlap.__init__" (defArgs s_Overlap_init) (defBody s_Overlap_init) (defScope s_Overlap_init) .none kV10 dc10 pm10 an10 cd10 ct10), sl10⟩)
    (c10 : PySem.W.codeIn K cd10 "Overlap.__init__" = true)
    (k10 : PySem.W.keepIn K (.ref f10) = true)
    (tI_Overlap : PySem.W.typeIn K (.ref f10) = some (.type "function"))
    (a11 : PySem.W.findIn K (.ref C_NotFilled) "__init__" = some (some (.ref f11)))
    (i11 : PySem.W.isFn K (.ref f11) = true)
    (l11 : K.lookup f11 = some ⟨oc11, od11, .func (PySem.W.fnOf "__init__" "NotFilled.__init__" (defArgs s_NotFilled_init) (defBody s_NotFilled_init) (defScope s_NotFilled_init) .none kV11 dc11 pm11 an11 cd11 ct11), sl11⟩)
    (c11 : PySem.W.codeIn K cd11 "NotFilled.__init__" = true)
    (k11 : PySem.W.keepIn K (.ref f11) = true)
    (tI_NotFilled : PySem.W.typeIn K (.ref f11) = some (.type "function"))
    (a12 : PySem.W.findIn K (.ref C_OtherLine) "__init__" = some (some (.ref f12)))
    (i12 : PySem.W.isFn K (.ref f12) = true)
    (l12 : K.lookup f12 = some ⟨oc12, od12, .func (PySem.W.fnOf "__init__" "OtherLine.__init__" (defArgs s_OtherLine_init) (defBody s_OtherLine_init) (defScope s_OtherLine_init) .none kV12 dc12 pm12 an12 cd12 ct12), sl12⟩)
    (c12 : PySem.W.codeIn K cd12 "OtherLine.__init__" = true)
    (k12 : PySem.W.keepIn K (.ref f12) = true)
    (tI_OtherLine : PySem.W.typeIn K (.ref f12) = some (.type "function"))
    (a13 : PySem.W.findIn K (.ref C_BadRoom) "__init__" = some (some (.ref f13)))
    (i13 : PySem.W.isFn K (.ref f13) = true)
    (l13 : K.lookup f13 = some ⟨oc13, od13, .func (PySem.W.fnOf "__init__" "BadRoom.__init__" (defArgs s_BadRoom_init) (defBody s_BadRoom_init) (defScope s_BadRoom_init) .none kV13 dc13 pm13 an13 cd13 ct13), sl13⟩)
    (c13 : PySem.W.codeIn K cd13 "BadRoom.__init__" = true)
    (k13 : PySem.W.keepIn K (.ref f13) = true)
    (tI_BadRoom : PySem.W.typeIn K (.ref f13) = some (.type "function"))
    (a14 : PySem.W.findIn K (.ref C_BadSwap) "__init__" = some (some (.ref f14)))
    (i14 : PySem.W.isFn K (.ref f14) = true)
    (l14 : K.lookup f14 = some ⟨oc14, od14, .func (PySem.W.fnOf "__init__" "BadSwap.__init__" (defArgs s_BadSwap_init) (defBody s_BadSwap_init) (defScope s_BadSwap_init) .none kV14 dc14 pm14 an14 cd14 ct14), sl14⟩)
    (c14 : PySem.W.codeIn K cd14 "BadSwap.__init__" = true)
    (k14 : PySem.W.keepIn K (.ref f14) = true)
    (tI_BadSwap : PySem.W.typeIn K (.ref f14) = some (.type "function"))
    (a15 : PySem.W.findIn K (.ref C_Meet) "__init__" = some (some (.ref f15)))
    (i15 : PySem.W.isFn K (.ref f15) = true)
    (l15 : K.lookup f15 = some ⟨oc15, od15, .func (PySem.W.fnOf "__init__" "Meet.__init__" (defArgs s_Meet_init) (defBody s_Meet_init) (defScope s_Meet_init) .none kV15 dc15 pm15 an15 cd15 ct15), sl15⟩)
    (c15 : PySem.W.codeIn K cd15 "Meet.__init__" = true)
    (k15 : PySem.W.keepIn K (.ref f15) = true)
    (tI_Meet : PySem.W.typeIn K (.ref f15) = some (.type "function"))
    (a16 : PySem.W.findIn K (.ref C_BadWedge) "__init__" = some (some (.ref f16)))
    (i16 : PySem.W.isFn K (.ref f16) = true)
    (l16 : K.lookup f16 = some ⟨oc16, od16, .func (PySem.W.fnOf "__init__" "BadWedge.__init__" (defArgs s_BadWedge_init) (defBody s_BadWedge_init) (defScope s_BadWedge_init) .none kV16 dc16 pm16 an16 cd16 ct16), sl16⟩)
    (c16 : PySem.W.codeIn K cd16 "BadWedge.__init__" = true)
    (k16 : PySem.W.keepIn K (.ref f16) = true)
    (tI_BadWedge : PySem.W.typeIn K (.ref f16) = some (.type "function"))
    (a17 : PySem.W.findIn K (.ref C_BadReading) "__init__" = some (some (.ref f17)))
    (i17 : PySem.W.isFn K (.ref f17) = true)
    (l17 : K.lookup f17 = some ⟨oc17, od17, .func (PySem.W.fnOf "__init__" "BadReading.__init__" (defArgs s_BadReading_init) (defBody s_BadReading_init) (defScope s_BadReading_init) .none kV17 dc17 pm17 an17 cd17 ct17), sl17⟩)
    (c17 : PySem.W.codeIn K cd17 "BadReading.__init__" = true)
    (k17 : PySem.W.keepIn K (.ref f17) = true)
    (tI_BadReading : PySem.W.typeIn K (.ref f17) = some (.type "function"))
    (a18 : PySem.W.findIn K (.ref C_BadWindow) "__init__" = some (some (.ref f18)))
    (i18 : PySem.W.isFn K (.ref f18) = true)
    (l18 : K.lookup f18 = some ⟨oc18, od18, .func (PySem.W.fnOf "__init__" "BadWindow.__init__" (defArgs s_BadWindow_init) (defBody s_BadWindow_init) (defScope s_BadWindow_init) .none kV18 dc18 pm18 an18 cd18 ct18), sl18⟩)
    (c18 : PySem.W.codeIn K cd18 "BadWindow.__init__" = true)
    (k18 : PySem.W.keepIn K (.ref f18) = true)
    (tI_BadWindow : PySem.W.typeIn K (.ref f18) = some (.type "function"))
    (a19 : PySem.W.findIn K (.ref C_BadName) "__init__" = some (some (.ref f19)))
    (i19 : PySem.W.isFn K (.ref f19) = true)
    (l19 : K.lookup f19 = some ⟨oc19, od19, .func (PySem.W.fnOf "__init__" "BadName.__init__" (defArgs s_BadName_init) (defBody s_BadName_init) (defScope s_BadName_init) .none kV19 dc19 pm19 an19 cd19 ct19), sl19⟩)
    (c19 : PySem.W.codeIn K cd19 "BadName.__init__" = true)
    (k19 : PySem.W.keepIn K (.ref f19) = true)
    (tI_BadName : PySem.W.typeIn K (.ref f19) = some (.type "function"))
    (a20 : PySem.W.findIn K (.ref C_BadNumber) "__init__" = some (some (.ref f20)))
    (i20 : PySem.W.isFn K (.ref f20) = true)
    (l20 : K.lookup f20 = some ⟨oc20, od20, .func (PySem.W.fnOf "__init__" "BadNumber.__init__" (defArgs s_BadNumber_init) (defBody s_BadNumber_init) (defScope s_BadNumber_init) .none kV20 dc20 pm20 an20 cd20 ct20), sl20⟩)
    (c20 : PySem.W.codeIn K cd20 "BadNumber.__init__" = true)
    (k20 : PySem.W.keepIn K (.ref f20) = true)
    (tI_BadNumber : PySem.W.typeIn K (.ref f20) = some (.type "function"))
    (a21 : PySem.W.findIn K (.ref C_BadDeed) "__init__" = some (some (.ref f21)))
    (i21 : PySem.W.isFn K (.ref f21) = true)
    (l21 : K.lookup f21 = some ⟨oc21, od21, .func (PySem.W.fnOf "__init__" "BadDeed.__init__" (defArgs s_BadDeed_init) (defBody s_BadDeed_init) (defScope s_BadDeed_init) .none kV21 dc21 pm21 an21 cd21 ct21), sl21⟩)
    (c21 : PySem.W.codeIn K cd21 "BadDeed.__init__" = true)
    (k21 : PySem.W.keepIn K (.ref f21) = true)
    (tI_BadDeed : PySem.W.typeIn K (.ref f21) = some (.type "function"))
    (a22 : PySem.W.findIn K (.ref C_BadExchange) "__init__" = some (some (.ref f22)))
    (i22 : PySem.W.isFn K (.ref f22) = true)
    (l22 : K.lookup f22 = some ⟨oc22, od22, .func (PySem.W.fnOf "__init__" "BadExchange.__init__" (defArgs s_BadExchange_init) (defBody s_BadExchange_init) (defScope s_BadExchange_init) .none kV22 dc22 pm22 an22 cd22 ct22), sl22⟩)
    (c22 : PySem.W.codeIn K cd22 "BadExchange.__init__" = true)
    (k22 : PySem.W.keepIn K (.ref f22) = true)
    (tI_BadExchange : PySem.W.typeIn K (.ref f22) = some (.type "function"))
    (a23 : PySem.W.findIn K (.ref C_BadLimit) "__init__" = some (some (.ref f23)))
    (i23 : PySem.W.isFn K (.ref f23) = true)
    (l23 : K.lookup f23 = some ⟨oc23, od23, .func (PySem.W.fnOf "__init__" "BadLimit.__init__" (defArgs s_BadLimit_init) (defBody s_BadLimit_init) (defScope s_BadLimit_init) .none kV23 dc23 pm23 an23 cd23 ct23), sl23⟩)
    (c23 : PySem.W.codeIn K cd23 "BadLimit.__init__" = true)
    (k23 : PySem.W.keepIn K (.ref f23) = true)
    (tI_BadLimit : PySem.W.typeIn K (.ref f23) = some (.type "function"))
    (a24 : PySem.W.findIn K (.ref C_Double) "__init__" = some (some (.ref f24)))
    (i24 : PySem.W.isFn K (.ref f24) = true)
    (l24 : K.lookup f24 = some ⟨oc24, od24, .func (PySem.W.fnOf "__init__" "Double.__init__" (defArgs s_Double_init) (defBody s_Double_init) (defScope s_Double_init) .none kV24 dc24 pm24 an24 cd24 ct24), sl24⟩)
    (c24 : PySem.W.codeIn K cd24 "Double.__init__" = true)
    (k24 : PySem.W.keepIn K (.ref f24) = true)
    (tI_Double : PySem.W.typeIn K (.ref f24) = some (.type "function"))
    (a25 : PySem.W.findIn K (.ref C_TooMany) "__init__" = some (some (.ref f25)))
    (i25 : PySem.W.isFn K (.ref f25) = true)
    (l25 : K.lookup f25 = some ⟨oc25, od25, .func (PySem.W.fnOf "__init__" "TooMany.__init__" (defArgs s_TooMany_init) (defBody s_TooMany_init) (defScope s_TooMany_init) .none kV25 dc25 pm25 an25 cd25 ct25), sl25⟩)
    (c25 : PySem.W.codeIn K cd25 "TooMany.__init__" = true)
    (k25 : PySem.W.keepIn K (.ref f25) = true)
    (tI_TooMany : PySem.W.typeIn K (.ref f25) = some (.type "function"))
    (a26 : PySem.W.findIn K (.ref C_Unlike) "__init__" = some (some (.ref f26)))
    (i26 : PySem.W.isFn K (.ref f26) = true)
    (l26 : K.lookup f26 = some ⟨oc26, od26, .func (PySem.W.fnOf "__init__" "Unlike.__init__" (defArgs s_Unlike_init) (defBody s_Unlike_init) (defScope s_Unlike_init) .none kV26 dc26 pm26 an26 cd26 ct26), sl26⟩)
    (c26 : PySem.W.codeIn K cd26 "Unlike.__init__" = true)
    (k26 : PySem.W.keepIn K (.ref f26) = true)
    (tI_Unlike : PySem.W.typeIn K (.ref f26) = some (.type "function"))
    (a27 : PySem.W.findIn K (.ref C_OtherSteps) "__init__" = some (some (.ref f27)))
    (i27 : PySem.W.isFn K (.ref f27) = true)
    (l27 : K.lookup f27 = some ⟨oc27, od27, .func (PySem.W.fnOf "__init__" "OtherSteps.__init__" (defArgs s_OtherSteps_init) (defBody s_OtherSteps_init) (defScope s_OtherSteps_init) .none kV27 dc27 pm27 an27 cd27 ct27), sl27⟩)
    (c27 : PySem.W.codeIn K cd27 "OtherSteps.__init__" = true)
    (k27 : PySem.W.keepIn K (.ref f27) = true)
    (tI_OtherSteps : PySem.W.typeIn K (.ref f27) = some (.type "function"))
    (a28 : PySem.W.findIn K (.ref C_NothingLeft) "__init__" = some (some (.ref f28)))
    (i28 : PySem.W.isFn K (.ref f28) = true)
    (l28 : K.lookup f28 = some ⟨oc28, od28, .func (PySem.W.fnOf "__init__" "NothingLeft.__init__" (defArgs s_NothingLeft_init) (defBody s_NothingLeft_init) (defScope s_NothingLeft_init) .none kV28 dc28 pm28 an28 cd28 ct28), sl28⟩)
    (c28 : PySem.W.codeIn K cd28 "NothingLeft.__init__" = true)
    (k28 : PySem.W.keepIn K (.ref f28) = true)
    (tI_NothingLeft : PySem.W.typeIn K (.ref f28) = some (.type "function"))
    (a29 : PySem.W.findIn K (.ref C_OwesMore) "__init__" = some (some (.ref f29)))
    (i29 : PySem.W.isFn K (.ref f29) = true)
    (l29 : K.lookup f29 = some ⟨oc29, od29, .func (PySem.W.fnOf "__init__" "OwesMore.__init__" (defArgs s_OwesMore_init) (defBody s_OwesMore_init) (defScope s_OwesMore_init) .none kV29 dc29 pm29 an29 cd29 ct29), sl29⟩)
    (c29 : PySem.W.codeIn K cd29 "OwesMore.__init__" = true)
    (k29 : PySem.W.keepIn K (.ref f29) = true)
    (tI_OwesMore : PySem.W.typeIn K (.ref f29) = some (.type "function"))
    (a30 : PySem.W.findIn K (.ref C_NotOnLine) "__init__" = some (some (.ref f30)))
    (i30 : PySem.W.isFn K (.ref f30) = true)
    (l30 : K.lookup f30 = some ⟨oc30, od30, .func (PySem.W.fnOf "__init__" "NotOnLine.__init__" (defArgs s_NotOnLine_init) (defBody s_NotOnLine_init) (defScope s_NotOnLine_init) .none kV30 dc30 pm30 an30 cd30 ct30), sl30⟩)
    (c30 : PySem.W.codeIn K cd30 "NotOnLine.__init__" = true)
    (k30 : PySem.W.keepIn K (.ref f30) = true)
    (tI_NotOnLine : PySem.W.typeIn K (.ref f30) = some (.type "function"))
    (a31 : PySem.W.findIn K (.ref C_NoPrime) "__init__" = some (some (.ref f31)))
    (i31 : PySem.W.isFn K (.ref f31) = true)
    (l31 : K.lookup f31 = some ⟨oc31, od31, .func (PySem.W.fnOf "__init__" "NoPrime.__init__" (defArgs s_NoPrime_init) (defBody s_NoPrime_init) (defScope s_NoPrime_init) .none kV31 dc31 pm31 an31 cd31 ct31), sl31⟩)
    (c31 : PySem.W.codeIn K cd31 "NoPrime.__init__" = true)
    (k31 : PySem.W.keepIn K (.ref f31) = true)
    (tI_NoPrime : PySem.W.typeIn K (.ref f31) = some (.type "function"))
    (a32 : PySem.W.findIn K (.ref C_UnknownName) "__init__" = some (some (.ref f32)))
    (i32 : PySem.W.isFn K (.ref f32) = true)
    (l32 : K.lookup f32 = some ⟨oc32, od32, .func (PySem.W.fnOf "__init__" "UnknownName.__init__" (defArgs s_UnknownName_init) (defBody s_UnknownName_init) (defScope s_UnknownName_init) .none kV32 dc32 pm32 an32 cd32 ct32), sl32⟩)
    (c32 : PySem.W.codeIn K cd32 "UnknownName.__init__" = true)
    (k32 : PySem.W.keepIn K (.ref f32) = true)
    (tI_UnknownName : PySem.W.typeIn K (.ref f32) = some (.type "function"))
    (a33 : PySem.W.findIn K (.ref C_NotIn) "__init__" = some (some (.ref f33)))
    (i33 : PySem.W.isFn K (.ref f33) = true)
    (l33 : K.lookup f33 = some ⟨oc33, od33, .func (PySem.W.fnOf "__init__" "NotIn.__init__" (defArgs s_NotIn_init) (defBody s_NotIn_init) (defScope s_NotIn_init) .none kV33 dc33 pm33 an33 cd33 ct33), sl33⟩)
    (c33 : PySem.W.codeIn K cd33 "NotIn.__init__" = true)
    (k33 : PySem.W.keepIn K (.ref f33) = true)
    (tI_NotIn : PySem.W.typeIn K (.ref f33) = some (.type "function"))
    (a34 : PySem.W.findIn K (.ref C_NotFair) "__init__" = some (some (.ref f34)))
    (i34 : PySem.W.isFn K (.ref f34) = true)
    (l34 : K.lookup f34 = some ⟨oc34, od34, .func (PySem.W.fnOf "__init__" "NotFair.__init__" (defArgs s_NotFair_init) (defBody s_NotFair_init) (defScope s_NotFair_init) .none kV34 dc34 pm34 an34 cd34 ct34), sl34⟩)
    (c34 : PySem.W.codeIn K cd34 "NotFair.__init__" = true)
    (k34 : PySem.W.keepIn K (.ref f34) = true)
    (tI_NotFair : PySem.W.typeIn K (.ref f34) = some (.type "function"))
    (a35 : PySem.W.findIn K (.ref C_NotKept) "__init__" = some (some (.ref f35)))
    (i35 : PySem.W.isFn K (.ref f35) = true)
    (l35 : K.lookup f35 = some ⟨oc35, od35, .func (PySem.W.fnOf "__init__" "NotKept.__init__" (defArgs s_NotKept_init) (defBody s_NotKept_init) (defScope s_NotKept_init) .none kV35 dc35 pm35 an35 cd35 ct35), sl35⟩)
    (c35 : PySem.W.codeIn K cd35 "NotKept.__init__" = true)
    (k35 : PySem.W.keepIn K (.ref f35) = true)
    (tI_NotKept : PySem.W.typeIn K (.ref f35) = some (.type "function"))
    (a36 : PySem.W.findIn K (.ref C_Odd) "__init__" = some (some (.ref f36)))
    (i36 : PySem.W.isFn K (.ref f36) = true)
    (l36 : K.lookup f36 = some ⟨oc36, od36, .func (PySem.W.fnOf "__init__" "Odd.__init__" (defArgs s_Odd_init) (defBody s_Odd_init) (defScope s_Odd_init) .none kV36 dc36 pm36 an36 cd36 ct36), sl36⟩)
    (c36 : PySem.W.codeIn K cd36 "Odd.__init__" = true)
    (k36 : PySem.W.keepIn K (.ref f36) = true)
    (tI_Odd : PySem.W.typeIn K (.ref f36) = some (.type "function"))
    (a37 : PySem.W.findIn K (.ref C_NoRoot) "__init__" = some (some (.ref f37)))
    (i37 : PySem.W.isFn K (.ref f37) = true)
    (l37 : K.lookup f37 = some ⟨oc37, od37, .func (PySem.W.fnOf "__init__" "NoRoot.__init__" (defArgs s_NoRoot_init) (defBody s_NoRoot_init) (defScope s_NoRoot_init) .none kV37 dc37 pm37 an37 cd37 ct37), sl37⟩)
    (c37 : PySem.W.codeIn K cd37 "NoRoot.__init__" = true)
    (k37 : PySem.W.keepIn K (.ref f37) = true)
    (tI_NoRoot : PySem.W.typeIn K (.ref f37) = some (.type "function"))
    (a38 : PySem.W.findIn K (.ref C_Unfit) "__init__" = some (some (.ref f38)))
    (i38 : PySem.W.isFn K (.ref f38) = true)
    (l38 : K.lookup f38 = some ⟨oc38, od38, .func (PySem.W.fnOf "__init__" "Unfit.__init__" (defArgs s_Unfit_init) (defBody s_Unfit_init) (defScope s_Unfit_init) .none kV38 dc38 pm38 an38 cd38 ct38), sl38⟩)
    (c38 : PySem.W.codeIn K cd38 "Unfit.__init__" = true)
    (k38 : PySem.W.keepIn K (.ref f38) = true)
    (tI_Unfit : PySem.W.typeIn K (.ref f38) = some (.type "function"))
    (a39 : PySem.W.findIn K (.ref C_Unmade) "__init__" = some (some (.ref f39)))
    (i39 : PySem.W.isFn K (.ref f39) = true)
    (l39 : K.lookup f39 = some ⟨oc39, od39, .func (PySem.W.fnOf "__init__" "Unmade.__init__" (defArgs s_Unmade_init) (defBody s_Unmade_init) (defScope s_Unmade_init) .none kV39 dc39 pm39 an39 cd39 ct39), sl39⟩)
    (c39 : PySem.W.codeIn K cd39 "Unmade.__init__" = true)
    (k39 : PySem.W.keepIn K (.ref f39) = true)
    (tI_Unmade : PySem.W.typeIn K (.ref f39) = some (.type "function"))
    (a40 : PySem.W.findIn K (.ref C_TooLong) "__init__" = some (some (.ref f40)))
    (i40 : PySem.W.isFn K (.ref f40) = true)
    (l40 : K.lookup f40 = some ⟨oc40, od40, .func (PySem.W.fnOf "__init__" "TooLong.__init__" (defArgs s_TooLong_init) (defBody s_TooLong_init) (defScope s_TooLong_init) .none kV40 dc40 pm40 an40 cd40 ct40), sl40⟩)
    (c40 : PySem.W.codeIn K cd40 "TooLong.__init__" = true)
    (k40 : PySem.W.keepIn K (.ref f40) = true)
    (tI_TooLong : PySem.W.typeIn K (.ref f40) = some (.type "function"))
    (a41 : PySem.W.findIn K (.ref C_Level) "__init__" = some (some (.ref f41)))
    (i41 : PySem.W.isFn K (.ref f41) = true)
    (l41 : K.lookup f41 = some ⟨oc41, od41, .func (PySem.W.fnOf "__init__" "Level.__init__" (defArgs s_Level_init) (defBody s_Level_init) (defScope s_Level_init) .none kV41 dc41 pm41 an41 cd41 ct41), sl41⟩)
    (c41 : PySem.W.codeIn K cd41 "Level.__init__" = true)
    (k41 : PySem.W.keepIn K (.ref f41) = true)
    (tI_Level : PySem.W.typeIn K (.ref f41) = some (.type "function"))
    (a42 : PySem.W.findIn K (.ref C_NoEntry) "__init__" = some (some (.ref f42)))
    (i42 : PySem.W.isFn K (.ref f42) = true)
    (l42 : K.lookup f42 = some ⟨oc42, od42, .func (PySem.W.fnOf "__init__" "NoEntry.__init__" (defArgs s_NoEntry_init) (defBody s_NoEntry_init) (defScope s_NoEntry_init) .none kV42 dc42 pm42 an42 cd42 ct42), sl42⟩)
    (c42 : PySem.W.codeIn K cd42 "NoEntry.__init__" = true)
    (k42 : PySem.W.keepIn K (.ref f42) = true)
    (tI_NoEntry : PySem.W.typeIn K (.ref f42) = some (.type "function"))
    (a43 : PySem.W.nsIn K mainGlobals "_law_bag" = some (some (.ref f43)))
    (l43 : K.lookup f43 = some ⟨oc43, od43, .func (PySem.W.fnOf "_law_bag" "_law_bag" (defArgs s_l_bag) (defBody s_l_bag) (defScope s_l_bag) .none kV43 dc43 pm43 an43 cd43 ct43), sl43⟩)
    (c43 : PySem.W.codeIn K cd43 "_law_bag" = true)
    (k43 : PySem.W.keepIn K (.ref f43) = true)
    (a44 : PySem.W.nsIn K mainGlobals "_law_draw" = some (some (.ref f44)))
    (l44 : K.lookup f44 = some ⟨oc44, od44, .func (PySem.W.fnOf "_law_draw" "_law_draw" (defArgs s_l_draw) (defBody s_l_draw) (defScope s_l_draw) .none kV44 dc44 pm44 an44 cd44 ct44), sl44⟩)
    (c44 : PySem.W.codeIn K cd44 "_law_draw" = true)
    (k44 : PySem.W.keepIn K (.ref f44) = true)
    (a45 : PySem.W.nsIn K mainGlobals "_law_of" = some (some (.ref f45)))
    (l45 : K.lookup f45 = some ⟨oc45, od45, .func (PySem.W.fnOf "_law_of" "_law_of" (defArgs s_l_of) (defBody s_l_of) (defScope s_l_of) .none kV45 dc45 pm45 an45 cd45 ct45), sl45⟩)
    (c45 : PySem.W.codeIn K cd45 "_law_of" = true)
    (k45 : PySem.W.keepIn K (.ref f45) = true)
    (a46 : PySem.W.nsIn K mainGlobals "_law_same" = some (some (.ref f46)))
    (l46 : K.lookup f46 = some ⟨oc46, od46, .func (PySem.W.fnOf "_law_same" "_law_same" (defArgs s_l_same) (defBody s_l_same) (defScope s_l_same) .none kV46 dc46 pm46 an46 cd46 ct46), sl46⟩)
    (c46 : PySem.W.codeIn K cd46 "_law_same" = true)
    (k46 : PySem.W.keepIn K (.ref f46) = true)
    (a47 : PySem.W.nsIn K mainGlobals "_law_told" = some (some (.ref f47)))
    (l47 : K.lookup f47 = some ⟨oc47, od47, .func (PySem.W.fnOf "_law_told" "_law_told" (defArgs s_l_told) (defBody s_l_told) (defScope s_l_told) .none kV47 dc47 pm47 an47 cd47 ct47), sl47⟩)
    (c47 : PySem.W.codeIn K cd47 "_law_told" = true)
    (k47 : PySem.W.keepIn K (.ref f47) = true)
    (a48 : PySem.W.nsIn K mainGlobals "_law_first_kinds" = some (some (.ref f48)))
    (l48 : K.lookup f48 = some ⟨oc48, od48, .func (PySem.W.fnOf "_law_first_kinds" "_law_first_kinds" (defArgs s_l_first_kinds) (defBody s_l_first_kinds) (defScope s_l_first_kinds) .none kV48 dc48 pm48 an48 cd48 ct48), sl48⟩)
    (c48 : PySem.W.codeIn K cd48 "_law_first_kinds" = true)
    (k48 : PySem.W.keepIn K (.ref f48) = true)
    (a49 : PySem.W.nsIn K mainGlobals "_law_second_kinds" = some (some (.ref f49)))
    (l49 : K.lookup f49 = some ⟨oc49, od49, .func (PySem.W.fnOf "_law_second_kinds" "_law_second_kinds" (defArgs s_l_second_kinds) (defBody s_l_second_kinds) (defScope s_l_second_kinds) .none kV49 dc49 pm49 an49 cd49 ct49), sl49⟩)
    (c49 : PySem.W.codeIn K cd49 "_law_second_kinds" = true)
    (k49 : PySem.W.keepIn K (.ref f49) = true)
    (a50 : PySem.W.nsIn K mainGlobals "_law_by_place" = some (some (.ref f50)))
    (l50 : K.lookup f50 = some ⟨oc50, od50, .func (PySem.W.fnOf "_law_by_place" "_law_by_place" (defArgs s_l_by_place) (defBody s_l_by_place) (defScope s_l_by_place) .none kV50 dc50 pm50 an50 cd50 ct50), sl50⟩)
    (c50 : PySem.W.codeIn K cd50 "_law_by_place" = true)
    (k50 : PySem.W.keepIn K (.ref f50) = true)
    (a51 : PySem.W.nsIn K mainGlobals "_law_by_name" = some (some (.ref f51)))
    (l51 : K.lookup f51 = some ⟨oc51, od51, .func (PySem.W.fnOf "_law_by_name" "_law_by_name" (defArgs s_l_by_name) (defBody s_l_by_name) (defScope s_l_by_name) .none kV51 dc51 pm51 an51 cd51 ct51), sl51⟩)
    (c51 : PySem.W.codeIn K cd51 "_law_by_name" = true)
    (k51 : PySem.W.keepIn K (.ref f51) = true)
    (a52 : PySem.W.nsIn K mainGlobals "_law_codes" = some (some (.ref f52)))
    (l52 : K.lookup f52 = some ⟨oc52, od52, .func (PySem.W.fnOf "_law_codes" "_law_codes" (defArgs s_l_codes) (defBody s_l_codes) (defScope s_l_codes) .none kV52 dc52 pm52 an52 cd52 ct52), sl52⟩)
    (c52 : PySem.W.codeIn K cd52 "_law_codes" = true)
    (k52 : PySem.W.keepIn K (.ref f52) = true)
    (a53 : PySem.W.nsIn K mainGlobals "_law_due" = some (some (.ref f53)))
    (l53 : K.lookup f53 = some ⟨oc53, od53, .func (PySem.W.fnOf "_law_due" "_law_due" (defArgs s_l_due) (defBody s_l_due) (defScope s_l_due) .none kV53 dc53 pm53 an53 cd53 ct53), sl53⟩)
    (c53 : PySem.W.codeIn K cd53 "_law_due" = true)
    (k53 : PySem.W.keepIn K (.ref f53) = true)
    (a54 : PySem.W.nsIn K mainGlobals "_law_raise" = some (some (.ref f54)))
    (l54 : K.lookup f54 = some ⟨oc54, od54, .func (PySem.W.fnOf "_law_raise" "_law_raise" (defArgs s_l_raise) (defBody s_l_raise) (defScope s_l_raise) .none kV54 dc54 pm54 an54 cd54 ct54), sl54⟩)
    (c54 : PySem.W.codeIn K cd54 "_law_raise" = true)
    (k54 : PySem.W.keepIn K (.ref f54) = true)
    (a55 : PySem.W.nsIn K mainGlobals "_law_caught" = some (some (.ref f55)))
    (l55 : K.lookup f55 = some ⟨oc55, od55, .func (PySem.W.fnOf "_law_caught" "_law_caught" (defArgs s_l_caught) (defBody s_l_caught) (defScope s_l_caught) .none kV55 dc55 pm55 an55 cd55 ct55), sl55⟩)
    (c55 : PySem.W.codeIn K cd55 "_law_caught" = true)
    (k55 : PySem.W.keepIn K (.ref f55) = true)
    (a56 : PySem.W.nsIn K mainGlobals "_law_thing" = some (some (.ref f56)))
    (l56 : K.lookup f56 = some ⟨oc56, od56, .func (PySem.W.fnOf "_law_thing" "_law_thing" (defArgs s_l_thing) (defBody s_l_thing) (defScope s_l_thing) .none kV56 dc56 pm56 an56 cd56 ct56), sl56⟩)
    (c56 : PySem.W.codeIn K cd56 "_law_thing" = true)
    (k56 : PySem.W.keepIn K (.ref f56) = true)
    (a57 : PySem.W.nsIn K mainGlobals "_law_made_so" = some (some (.ref f57)))
    (l57 : K.lookup f57 = some ⟨oc57, od57, .func (PySem.W.fnOf "_law_made_so" "_law_made_so" (defArgs s_l_made_so) (defBody s_l_made_so) (defScope s_l_made_so) .none kV57 dc57 pm57 an57 cd57 ct57), sl57⟩)
    (c57 : PySem.W.codeIn K cd57 "_law_made_so" = true)
    (k57 : PySem.W.keepIn K (.ref f57) = true)
    (a58 : PySem.W.nsIn K mainGlobals "law" = some (some (.ref f58)))
    (l58 : K.lookup f58 = some ⟨oc58, od58, .func (PySem.W.fnOf "law" "law" (defArgs s_law) (defBody s_law) (defScope s_law) .none kV58 dc58 pm58 an58 cd58 ct58), sl58⟩)
    (c58 : PySem.W.codeIn K cd58 "law" = true)
    (k58 : PySem.W.keepIn K (.ref f58) = true)
    (h_erT : erAll K [C_BadRatio, C_BadText, C_BadLine, C_BadTop, C_BadStart, C_BadLength, C_BadOrder, C_BadRow, C_OffLine, C_Overlap, C_NotFilled, C_OtherLine, C_BadRoom, C_BadSwap, C_Meet, C_BadWedge, C_BadReading, C_BadWindow, C_BadName, C_BadNumber, C_BadDeed, C_BadExchange, C_BadLimit, C_Double, C_TooMany, C_Unlike, C_OtherSteps, C_NothingLeft, C_OwesMore, C_NotOnLine, C_NoPrime, C_UnknownName, C_NotIn, C_NotFair, C_NotKept, C_Odd, C_NoRoot, C_Unfit, C_Unmade, C_TooLong, C_Level, C_NoEntry] ERN (ERF.map fun f => "code" :: f) = true)
    (h_kiT : kitAll K ([C_BadRatio, C_BadText, C_BadLine, C_BadTop, C_BadStart, C_BadLength, C_BadOrder, C_BadRow, C_OffLine, C_Overlap, C_NotFilled, C_OtherLine, C_BadRoom, C_BadSwap, C_Meet, C_BadWedge, C_BadReading, C_BadWindow, C_BadName, C_BadNumber, C_BadDeed, C_BadExchange, C_BadLimit, C_Double, C_TooMany, C_Unlike, C_OtherSteps, C_NothingLeft, C_OwesMore, C_NotOnLine, C_NoPrime, C_UnknownName, C_NotIn, C_NotFair, C_NotKept, C_Odd, C_NoRoot, C_Unfit, C_Unmade, C_TooLong, C_Level, C_NoEntry].map Value.ref) [C_BadRatio, C_BadText, C_BadLine, C_BadTop, C_BadStart, C_BadLength, C_BadOrder, C_BadRow, C_OffLine, C_Overlap, C_NotFilled, C_OtherLine, C_BadRoom, C_BadSwap, C_Meet, C_BadWedge, C_BadReading, C_BadWindow, C_BadName, C_BadNumber, C_BadDeed, C_BadExchange, C_BadLimit, C_Double, C_TooMany, C_Unlike, C_OtherSteps, C_NothingLeft, C_OwesMore, C_NotOnLine, C_NoPrime, C_UnknownName, C_NotIn, C_NotFair, C_NotKept, C_Odd, C_NoRoot, C_Unfit, C_Unmade, C_TooLong, C_Level, C_NoEntry] ERK = true)
    (h_kbT : kitAll K [.ref C_TurnError, .type "ValueError", .ref C_NotThere, .type "LookupError", .ref C_Impossible, .type "ArithmeticError", .type "IndexError", .type "KeyError", .type "ZeroDivisionError"] [C_BadRatio, C_BadText, C_BadLine, C_BadTop, C_BadStart, C_BadLength, C_BadOrder, C_BadRow, C_OffLine, C_Overlap, C_NotFilled, C_OtherLine, C_BadRoom, C_BadSwap, C_Meet, C_BadWedge, C_BadReading, C_BadWindow, C_BadName, C_BadNumber, C_BadDeed, C_BadExchange, C_BadLimit, C_Double, C_TooMany, C_Unlike, C_OtherSteps, C_NothingLeft, C_OwesMore, C_NotOnLine, C_NoPrime, C_UnknownName, C_NotIn, C_NotFair, C_NotKept, C_Odd, C_NoRoot, C_Unfit, C_Unmade, C_TooLong, C_Level, C_NoEntry] ERB = true)
    (h_exT : exmAll K [.ref C_TurnError, .ref C_NotThere, .ref C_Impossible, .ref C_NoEntry] [C_BadRatio, C_Overlap, C_NotFilled, C_OwesMore, C_BadLine, C_NotOnLine, C_NoPrime, C_NotIn, C_NotFair, C_Level, C_Unmade, C_NoEntry] ERX = true)
    (h_eqA : PySem.W.findIn K (.ref C_BadTop) "__eq__" = some (some (.builtin "object.__eq__")))
    (h_eqB : PySem.W.findIn K (.ref C_NoPrime) "__eq__" = some (some (.builtin "object.__eq__")))
    (h_oN : PySem.W.specialIn K (.builtin "object.__class__") "__get__" = some (some (.builtin "getset_descriptor.__get__")))
    (h_oT : PySem.W.takesIn K (.builtin "object.__class__") = some true)
    : ∃ fd : FuncData, (∀ (s : Shared) (v : Value), BindsTo s fd ⟨[v], []⟩ [("_law_script", v)]) ∧ ∀ base : Heap, K.In base → base.Ns mainGlobals mg → FnOk P w K mg base CX0 10 fa fd ["_law_script"] (spLaw K) := by
  have e := hfa.symm.trans (PySem.W.mg_of X G a58)
  cases e
  have F1 := fun_mk (st := s_BadRatio_init) l1 c1 k1
  have b1 := F1.binds (ps := ["self"]) fun _ _ _ _ _ _ us hl => match us, hl with | [_], _ => rfl
  have F2 := fun_mk (st := s_BadText_init) l2 c2 k2
  have b2 := F2.binds (ps := ["self"]) fun _ _ _ _ _ _ us hl => match us, hl with | [_], _ => rfl
  have F3 := fun_mk (st := s_BadLine_init) l3 c3 k3
  have b3 := F3.binds (ps := ["self", "line"]) fun _ _ _ _ _ _ us hl => match us, hl with | [_, _], _ => rfl
  have F4 := fun_mk (st := s_BadTop_init) l4 c4 k4
  have b4 := F4.binds (ps := ["self"]) fun _ _ _ _ _ _ us hl => match us, hl with | [_], _ => rfl
  have F5 := fun_mk (st := s_BadStart_init) l5 c5 k5
  have b5 := F5.binds (ps := ["self"]) fun _ _ _ _ _ _ us hl => match us, hl with | [_], _ => rfl
  have F6 := fun_mk (st := s_BadLength_init) l6 c6 k6
  have b6 := F6.binds (ps := ["self", "at"]) fun _ _ _ _ _ _ us hl => match us, hl with | [_, _], _ => rfl
  have F7 := fun_mk (st := s_BadOrder_init) l7 c7 k7
  have b7 := F7.binds (ps := ["self"]) fun _ _ _ _ _ _ us hl => match us, hl with | [_], _ => rfl
  have F8 := fun_mk (st := s_BadRow_init) l8 c8 k8
  have b8 := F8.binds (ps := ["self", "at"]) fun _ _ _ _ _ _ us hl => match us, hl with | [_, _], _ => rfl
  have F9 := fun_mk (st := s_OffLine_init) l9 c9 k9
  have b9 := F9.binds (ps := ["self", "at"]) fun _ _ _ _ _ _ us hl => match us, hl with | [_, _], _ => rfl
  have F10 := fun_mk (st := s_Overlap_init) l10 c10 k10
  have b10 := F10.binds (ps := ["self", "one", "other"]) fun _ _ _ _ _ _ us hl => match us, hl with | [_, _, _], _ => rfl
  have F11 := fun_mk (st := s_NotFilled_init) l11 c11 k11
  have b11 := F11.binds (ps := ["self", "missing"]) fun _ _ _ _ _ _ us hl => match us, hl with | [_, _], _ => rfl
  have F12 := fun_mk (st := s_OtherLine_init) l12 c12 k12
  have b12 := F12.binds (ps := ["self"]) fun _ _ _ _ _ _ us hl => match us, hl with | [_], _ => rfl
  have F13 := fun_mk (st := s_BadRoom_init) l13 c13 k13
  have b13 := F13.binds (ps := ["self"]) fun _ _ _ _ _ _ us hl => match us, hl with | [_], _ => rfl
  have F14 := fun_mk (st := s_BadSwap_init) l14 c14 k14
  have b14 := F14.binds (ps := ["self", "at"]) fun _ _ _ _ _ _ us hl => match us, hl with | [_, _], _ => rfl
  have F15 := fun_mk (st := s_Meet_init) l15 c15 k15
  have b15 := F15.binds (ps := ["self"]) fun _ _ _ _ _ _ us hl => match us, hl with | [_], _ => rfl
  have F16 := fun_mk (st := s_BadWedge_init) l16 c16 k16
  have b16 := F16.binds (ps := ["self"]) fun _ _ _ _ _ _ us hl => match us, hl with | [_], _ => rfl
  have F17 := fun_mk (st := s_BadReading_init) l17 c17 k17
  have b17 := F17.binds (ps := ["self"]) fun _ _ _ _ _ _ us hl => match us, hl with | [_], _ => rfl
  have F18 := fun_mk (st := s_BadWindow_init) l18 c18 k18
  have b18 := F18.binds (ps := ["self"]) fun _ _ _ _ _ _ us hl => match us, hl with | [_], _ => rfl
  have F19 := fun_mk (st := s_BadName_init) l19 c19 k19
  have b19 := F19.binds (ps := ["self", "value"]) fun _ _ _ _ _ _ us hl => match us, hl with | [_, _], _ => rfl
  have F20 := fun_mk (st := s_BadNumber_init) l20 c20 k20
  have b20 := F20.binds (ps := ["self", "value"]) fun _ _ _ _ _ _ us hl => match us, hl with | [_, _], _ => rfl
  have F21 := fun_mk (st := s_BadDeed_init) l21 c21 k21
  have b21 := F21.binds (ps := ["self", "at"]) fun _ _ _ _ _ _ us hl => match us, hl with | [_, _], _ => rfl
  have F22 := fun_mk (st := s_BadExchange_init) l22 c22 k22
  have b22 := F22.binds (ps := ["self"]) fun _ _ _ _ _ _ us hl => match us, hl with | [_], _ => rfl
  have F23 := fun_mk (st := s_BadLimit_init) l23 c23 k23
  have b23 := F23.binds (ps := ["self", "value"]) fun _ _ _ _ _ _ us hl => match us, hl with | [_, _], _ => rfl
  have F24 := fun_mk (st := s_Double_init) l24 c24 k24
  have b24 := F24.binds (ps := ["self", "name"]) fun _ _ _ _ _ _ us hl => match us, hl with | [_, _], _ => rfl
  have F25 := fun_mk (st := s_TooMany_init) l25 c25 k25
  have b25 := F25.binds (ps := ["self", "most"]) fun _ _ _ _ _ _ us hl => match us, hl with | [_, _], _ => rfl
  have F26 := fun_mk (st := s_Unlike_init) l26 c26 k26
  have b26 := F26.binds (ps := ["self", "colour"]) fun _ _ _ _ _ _ us hl => match us, hl with | [_, _], _ => rfl
  have F27 := fun_mk (st := s_OtherSteps_init) l27 c27 k27
  have b27 := F27.binds (ps := ["self"]) fun _ _ _ _ _ _ us hl => match us, hl with | [_], _ => rfl
  have F28 := fun_mk (st := s_NothingLeft_init) l28 c28 k28
  have b28 := F28.binds (ps := ["self"]) fun _ _ _ _ _ _ us hl => match us, hl with | [_], _ => rfl
  have F29 := fun_mk (st := s_OwesMore_init) l29 c29 k29
  have b29 := F29.binds (ps := ["self", "name"]) fun _ _ _ _ _ _ us hl => match us, hl with | [_, _], _ => rfl
  have F30 := fun_mk (st := s_NotOnLine_init) l30 c30 k30
  have b30 := F30.binds (ps := ["self", "tone"]) fun _ _ _ _ _ _ us hl => match us, hl with | [_, _], _ => rfl
  have F31 := fun_mk (st := s_NoPrime_init) l31 c31 k31
  have b31 := F31.binds (ps := ["self", "value"]) fun _ _ _ _ _ _ us hl => match us, hl with | [_, _], _ => rfl
  have F32 := fun_mk (st := s_UnknownName_init) l32 c32 k32
  have b32 := F32.binds (ps := ["self", "name"]) fun _ _ _ _ _ _ us hl => match us, hl with | [_, _], _ => rfl
  have F33 := fun_mk (st := s_NotIn_init) l33 c33 k33
  have b33 := F33.binds (ps := ["self"]) fun _ _ _ _ _ _ us hl => match us, hl with | [_], _ => rfl
  have F34 := fun_mk (st := s_NotFair_init) l34 c34 k34
  have b34 := F34.binds (ps := ["self", "first", "second"]) fun _ _ _ _ _ _ us hl => match us, hl with | [_, _, _], _ => rfl
  have F35 := fun_mk (st := s_NotKept_init) l35 c35 k35
  have b35 := F35.binds (ps := ["self"]) fun _ _ _ _ _ _ us hl => match us, hl with | [_], _ => rfl
  have F36 := fun_mk (st := s_Odd_init) l36 c36 k36
  have b36 := F36.binds (ps := ["self", "prime"]) fun _ _ _ _ _ _ us hl => match us, hl with | [_, _], _ => rfl
  have F37 := fun_mk (st := s_NoRoot_init) l37 c37 k37
  have b37 := F37.binds (ps := ["self", "first", "second"]) fun _ _ _ _ _ _ us hl => match us, hl with | [_, _, _], _ => rfl
  have F38 := fun_mk (st := s_Unfit_init) l38 c38 k38
  have b38 := F38.binds (ps := ["self", "counts"]) fun _ _ _ _ _ _ us hl => match us, hl with | [_, _], _ => rfl
  have F39 := fun_mk (st := s_Unmade_init) l39 c39 k39
  have b39 := F39.binds (ps := ["self", "reading"]) fun _ _ _ _ _ _ us hl => match us, hl with | [_, _], _ => rfl
  have F40 := fun_mk (st := s_TooLong_init) l40 c40 k40
  have b40 := F40.binds (ps := ["self", "most"]) fun _ _ _ _ _ _ us hl => match us, hl with | [_, _], _ => rfl
  have F41 := fun_mk (st := s_Level_init) l41 c41 k41
  have b41 := F41.binds (ps := ["self"]) fun _ _ _ _ _ _ us hl => match us, hl with | [_], _ => rfl
  have F42 := fun_mk (st := s_NoEntry_init) l42 c42 k42
  have b42 := F42.binds (ps := ["self"]) fun _ _ _ _ _ _ us hl => match us, hl with | [_], _ => rfl
  have F43 := fun_mk (st := s_l_bag) l43 c43 k43
  have b43 := F43.binds (ps := ["_law_script"]) fun _ _ _ _ _ _ us hl => match us, hl with | [_], _ => rfl
  have F44 := fun_mk (st := s_l_draw) l44 c44 k44
  have b44 := F44.binds (ps := ["_law_bag_here", "_law_sides"]) fun _ _ _ _ _ _ us hl => match us, hl with | [_, _], _ => rfl
  have F45 := fun_mk (st := s_l_of) l45 c45 k45
  have b45 := F45.binds (ps := ["_law_bag_here", "_law_things"]) fun _ _ _ _ _ _ us hl => match us, hl with | [_, _], _ => rfl
  have F46 := fun_mk (st := s_l_same) l46 c46 k46
  have b46 := F46.binds (ps := ["_law_found", "_law_due_here"]) fun _ _ _ _ _ _ us hl => match us, hl with | [_, _], _ => rfl
  have F47 := fun_mk (st := s_l_told) l47 c47 k47
  have b47 := F47.binds (ps := ["_law_fault"]) fun _ _ _ _ _ _ us hl => match us, hl with | [_], _ => rfl
  have F48 := fun_mk (st := s_l_first_kinds) l48 c48 k48
  have b48 := F48.binds (ps := ["_law_fault"]) fun _ _ _ _ _ _ us hl => match us, hl with | [_], _ => rfl
  have F49 := fun_mk (st := s_l_second_kinds) l49 c49 k49
  have b49 := F49.binds (ps := ["_law_fault"]) fun _ _ _ _ _ _ us hl => match us, hl with | [_], _ => rfl
  have F50 := fun_mk (st := s_l_by_place) l50 c50 k50
  have b50 := F50.binds (ps := ["_law_a", "_law_b"]) fun _ _ _ _ _ _ us hl => match us, hl with | [_, _], _ => rfl
  have F51 := fun_mk (st := s_l_by_name) l51 c51 k51
  have b51 := F51.binds (ps := ["_law_a", "_law_b"]) fun _ _ _ _ _ _ us hl => match us, hl with | [_, _], _ => rfl
  have F52 := fun_mk (st := s_l_codes) l52 c52 k52
  have b52 := F52.binds (ps := []) fun _ _ _ _ _ _ us hl => match us, hl with | [], _ => rfl
  have F53 := fun_mk (st := s_l_due) l53 c53 k53
  have b53 := F53.binds (ps := ["_law_code", "_law_a", "_law_b"]) fun _ _ _ _ _ _ us hl => match us, hl with | [_, _, _], _ => rfl
  have F54 := fun_mk (st := s_l_raise) l54 c54 k54
  have b54 := F54.binds (ps := ["_law_j", "_law_a", "_law_b"]) fun _ _ _ _ _ _ us hl => match us, hl with | [_, _, _], _ => rfl
  have F55 := fun_mk (st := s_l_caught) l55 c55 k55
  have b55 := F55.binds (ps := ["_law_j", "_law_a", "_law_b"]) fun _ _ _ _ _ _ us hl => match us, hl with | [_, _, _], _ => rfl
  have F56 := fun_mk (st := s_l_thing) l56 c56 k56
  have b56 := F56.binds (ps := ["_law_bag_here"]) fun _ _ _ _ _ _ us hl => match us, hl with | [_], _ => rfl
  have F57 := fun_mk (st := s_l_made_so) l57 c57 k57
  have b57 := F57.binds (ps := ["_law_made", "_law_a", "_law_b"]) fun _ _ _ _ _ _ us hl => match us, hl with | [_, _, _], _ => rfl
  have F58 := fun_mk (st := s_law) l58 c58 k58
  have b58 := F58.binds (ps := ["_law_script"]) fun _ _ _ _ _ _ us hl => match us, hl with | [_], _ => rfl
  have kb_BadLine_line : KBinds K _ ["self", "line"] ["line"] g11 g11 := Fun.kb11 F3 fun _ _ _ _ _ _ _ _ => rfl
  have kb_BadLength_at : KBinds K _ ["self", "at"] ["at"] g11 g11 := Fun.kb11 F6 fun _ _ _ _ _ _ _ _ => rfl
  have kb_BadRow_at : KBinds K _ ["self", "at"] ["at"] g11 g11 := Fun.kb11 F8 fun _ _ _ _ _ _ _ _ => rfl
  have kb_NotFilled_missing : KBinds K _ ["self", "missing"] ["missing"] g11 g11 := Fun.kb11 F11 fun _ _ _ _ _ _ _ _ => rfl
  have kb_NoPrime_value : KBinds K _ ["self", "value"] ["value"] g11 g11 := Fun.kb11 F31 fun _ _ _ _ _ _ _ _ => rfl
  have kb_NotFair_second_first : KBinds K _ ["self", "first", "second"] ["second", "first"] g12s g12s := Fun.kb12s F34 fun _ _ _ _ _ _ _ _ _ => rfl
  have kb_Unmade_reading : KBinds K _ ["self", "reading"] ["reading"] g11 g11 := Fun.kb11 F39 fun _ _ _ _ _ _ _ _ => rfl
  have kb_OffLine_at : KBinds K _ ["self", "at"] ["at"] g11 g11 := Fun.kb11 F9 fun _ _ _ _ _ _ _ _ => rfl
  have kb_Overlap_other_one : KBinds K _ ["self", "one", "other"] ["other", "one"] g12s g12s := Fun.kb12s F10 fun _ _ _ _ _ _ _ _ _ => rfl
  have kb_BadSwap_at : KBinds K _ ["self", "at"] ["at"] g11 g11 := Fun.kb11 F14 fun _ _ _ _ _ _ _ _ => rfl
  have kb_BadName_value : KBinds K _ ["self", "value"] ["value"] g11 g11 := Fun.kb11 F19 fun _ _ _ _ _ _ _ _ => rfl
  have kb_BadNumber_value : KBinds K _ ["self", "value"] ["value"] g11 g11 := Fun.kb11 F20 fun _ _ _ _ _ _ _ _ => rfl
  have kb_BadDeed_at : KBinds K _ ["self", "at"] ["at"] g11 g11 := Fun.kb11 F21 fun _ _ _ _ _ _ _ _ => rfl
  have kb_BadLimit_value : KBinds K _ ["self", "value"] ["value"] g11 g11 := Fun.kb11 F23 fun _ _ _ _ _ _ _ _ => rfl
  have kb_Double_name : KBinds K _ ["self", "name"] ["name"] g11 g11 := Fun.kb11 F24 fun _ _ _ _ _ _ _ _ => rfl
  have kb_TooMany_most : KBinds K _ ["self", "most"] ["most"] g11 g11 := Fun.kb11 F25 fun _ _ _ _ _ _ _ _ => rfl
  have kb_Unlike_colour : KBinds K _ ["self", "colour"] ["colour"] g11 g11 := Fun.kb11 F26 fun _ _ _ _ _ _ _ _ => rfl
  have kb_OwesMore_name : KBinds K _ ["self", "name"] ["name"] g11 g11 := Fun.kb11 F29 fun _ _ _ _ _ _ _ _ => rfl
  have kb_NotOnLine_tone : KBinds K _ ["self", "tone"] ["tone"] g11 g11 := Fun.kb11 F30 fun _ _ _ _ _ _ _ _ => rfl
  have kb_UnknownName_name : KBinds K _ ["self", "name"] ["name"] g11 g11 := Fun.kb11 F32 fun _ _ _ _ _ _ _ _ => rfl
  have kb_Odd_prime : KBinds K _ ["self", "prime"] ["prime"] g11 g11 := Fun.kb11 F36 fun _ _ _ _ _ _ _ _ => rfl
  have kb_NoRoot_first_second : KBinds K _ ["self", "first", "second"] ["first", "second"] g12 g12 := Fun.kb12 F37 fun _ _ _ _ _ _ _ _ _ => rfl
  have kb_Unfit_counts : KBinds K _ ["self", "counts"] ["counts"] g11 g11 := Fun.kb11 F38 fun _ _ _ _ _ _ _ _ => rfl
  have kb_TooLong_most : KBinds K _ ["self", "most"] ["most"] g11 g11 := Fun.kb11 F40 fun _ _ _ _ _ _ _ _ => rfl
  exact ⟨PySem.W.fnOf "law" "law" (defArgs s_law) (defBody s_law) (defScope s_law) .none kV58 dc58 pm58 an58 cd58 ct58, fun s v => .of_eq rfl, fun base _ _ => ok_law (T := {
    z_len := PySem.W.mg_none_of X G z_len
    z_abs := PySem.W.mg_none_of X G z_abs
    z_int := PySem.W.mg_none_of X G z_int
    z_isinstance := PySem.W.mg_none_of X G z_isinstance
    z_list := PySem.W.mg_none_of X G z_list
    z_tuple := PySem.W.mg_none_of X G z_tuple
    z_bool := PySem.W.mg_none_of X G z_bool
    z_str := PySem.W.mg_none_of X G z_str
    z_all := PySem.W.mg_none_of X G z_all
    z_zip := PySem.W.mg_none_of X G z_zip
    z_range := PySem.W.mg_none_of X G z_range
    z_ValueError := PySem.W.mg_none_of X G z_ValueError
    z_LookupError := PySem.W.mg_none_of X G z_LookupError
    z_ArithmeticError := PySem.W.mg_none_of X G z_ArithmeticError
    z_IndexError := PySem.W.mg_none_of X G z_IndexError
    z_KeyError := PySem.W.mg_none_of X G z_KeyError
    z_ZeroDivisionError := PySem.W.mg_none_of X G z_ZeroDivisionError
    C_TurnError := C_TurnError
    g_TurnError := PySem.W.mg_of X G aC_TurnError
    C_NotThere := C_NotThere
    g_NotThere := PySem.W.mg_of X G aC_NotThere
    C_Impossible := C_Impossible
    g_Impossible := PySem.W.mg_of X G aC_Impossible
    C_BadRatio := C_BadRatio
    g_BadRatio := PySem.W.mg_of X G aC_BadRatio
    C_BadText := C_BadText
    g_BadText := PySem.W.mg_of X G aC_BadText
    C_BadLine := C_BadLine
    g_BadLine := PySem.W.mg_of X G aC_BadLine
    C_BadTop := C_BadTop
    g_BadTop := PySem.W.mg_of X G aC_BadTop
    C_BadStart := C_BadStart
    g_BadStart := PySem.W.mg_of X G aC_BadStart
    C_BadLength := C_BadLength
    g_BadLength := PySem.W.mg_of X G aC_BadLength
    C_BadOrder := C_BadOrder
    g_BadOrder := PySem.W.mg_of X G aC_BadOrder
    C_BadRow := C_BadRow
    g_BadRow := PySem.W.mg_of X G aC_BadRow
    C_OffLine := C_OffLine
    g_OffLine := PySem.W.mg_of X G aC_OffLine
    C_Overlap := C_Overlap
    g_Overlap := PySem.W.mg_of X G aC_Overlap
    C_NotFilled := C_NotFilled
    g_NotFilled := PySem.W.mg_of X G aC_NotFilled
    C_OtherLine := C_OtherLine
    g_OtherLine := PySem.W.mg_of X G aC_OtherLine
    C_BadRoom := C_BadRoom
    g_BadRoom := PySem.W.mg_of X G aC_BadRoom
    C_BadSwap := C_BadSwap
    g_BadSwap := PySem.W.mg_of X G aC_BadSwap
    C_Meet := C_Meet
    g_Meet := PySem.W.mg_of X G aC_Meet
    C_BadWedge := C_BadWedge
    g_BadWedge := PySem.W.mg_of X G aC_BadWedge
    C_BadReading := C_BadReading
    g_BadReading := PySem.W.mg_of X G aC_BadReading
    C_BadWindow := C_BadWindow
    g_BadWindow := PySem.W.mg_of X G aC_BadWindow
    C_BadName := C_BadName
    g_BadName := PySem.W.mg_of X G aC_BadName
    C_BadNumber := C_BadNumber
    g_BadNumber := PySem.W.mg_of X G aC_BadNumber
    C_BadDeed := C_BadDeed
    g_BadDeed := PySem.W.mg_of X G aC_BadDeed
    C_BadExchange := C_BadExchange
    g_BadExchange := PySem.W.mg_of X G aC_BadExchange
    C_BadLimit := C_BadLimit
    g_BadLimit := PySem.W.mg_of X G aC_BadLimit
    C_Double := C_Double
    g_Double := PySem.W.mg_of X G aC_Double
    C_TooMany := C_TooMany
    g_TooMany := PySem.W.mg_of X G aC_TooMany
    C_Unlike := C_Unlike
    g_Unlike := PySem.W.mg_of X G aC_Unlike
    C_OtherSteps := C_OtherSteps
    g_OtherSteps := PySem.W.mg_of X G aC_OtherSteps
    C_NothingLeft := C_NothingLeft
    g_NothingLeft := PySem.W.mg_of X G aC_NothingLeft
    C_OwesMore := C_OwesMore
    g_OwesMore := PySem.W.mg_of X G aC_OwesMore
    C_NotOnLine := C_NotOnLine
    g_NotOnLine := PySem.W.mg_of X G aC_NotOnLine
    C_NoPrime := C_NoPrime
    g_NoPrime := PySem.W.mg_of X G aC_NoPrime
    C_UnknownName := C_UnknownName
    g_UnknownName := PySem.W.mg_of X G aC_UnknownName
    C_NotIn := C_NotIn
    g_NotIn := PySem.W.mg_of X G aC_NotIn
    C_NotFair := C_NotFair
    g_NotFair := PySem.W.mg_of X G aC_NotFair
    C_NotKept := C_NotKept
    g_NotKept := PySem.W.mg_of X G aC_NotKept
    C_Odd := C_Odd
    g_Odd := PySem.W.mg_of X G aC_Odd
    C_NoRoot := C_NoRoot
    g_NoRoot := PySem.W.mg_of X G aC_NoRoot
    C_Unfit := C_Unfit
    g_Unfit := PySem.W.mg_of X G aC_Unfit
    C_Unmade := C_Unmade
    g_Unmade := PySem.W.mg_of X G aC_Unmade
    C_TooLong := C_TooLong
    g_TooLong := PySem.W.mg_of X G aC_TooLong
    C_Level := C_Level
    g_Level := PySem.W.mg_of X G aC_Level
    C_NoEntry := C_NoEntry
    g_NoEntry := PySem.W.mg_of X G aC_NoEntry
    f_BadRatio_init := f1
    d_BadRatio_init := PySem.W.fnOf "__init__" "BadRatio.__init__" (defArgs s_BadRatio_init) (defBody s_BadRatio_init) (defScope s_BadRatio_init) .none kV1 dc1 pm1 an1 cd1 ct1
    F_BadRatio_init := F1
    b_BadRatio_init := b1
    iC_BadRatio := a1
    tI_BadRatio := tI_BadRatio
    f_BadText_init := f2
    d_BadText_init := PySem.W.fnOf "__init__" "BadText.__init__" (defArgs s_BadText_init) (defBody s_BadText_init) (defScope s_BadText_init) .none kV2 dc2 pm2 an2 cd2 ct2
    F_BadText_init := F2
    b_BadText_init := b2
    iC_BadText := a2
    tI_BadText := tI_BadText
    f_BadLine_init := f3
    d_BadLine_init := PySem.W.fnOf "__init__" "BadLine.__init__" (defArgs s_BadLine_init) (defBody s_BadLine_init) (defScope s_BadLine_init) .none kV3 dc3 pm3 an3 cd3 ct3
    F_BadLine_init := F3
    b_BadLine_init := b3
    iC_BadLine := a3
    tI_BadLine := tI_BadLine
    f_BadTop_init := f4
    d_BadTop_init := PySem.W.fnOf "__init__" "BadTop.__init__" (defArgs s_BadTop_init) (defBody s_BadTop_init) (defScope s_BadTop_init) .none kV4 dc4 pm4 an4 cd4 ct4
    F_BadTop_init := F4
    b_BadTop_init := b4
    iC_BadTop := a4
    tI_BadTop := tI_BadTop
    f_BadStart_init := f5
    d_BadStart_init := PySem.W.fnOf "__init__" "BadStart.__init__" (defArgs s_BadStart_init) (defBody s_BadStart_init) (defScope s_BadStart_init) .none kV5 dc5 pm5 an5 cd5 ct5
    F_BadStart_init := F5
    b_BadStart_init := b5
    iC_BadStart := a5
    tI_BadStart := tI_BadStart
    f_BadLength_init := f6
    d_BadLength_init := PySem.W.fnOf "__init__" "BadLength.__init__" (defArgs s_BadLength_init) (defBody s_BadLength_init) (defScope s_BadLength_init) .none kV6 dc6 pm6 an6 cd6 ct6
    F_BadLength_init := F6
    b_BadLength_init := b6
    iC_BadLength := a6
    tI_BadLength := tI_BadLength
    f_BadOrder_init := f7
    d_BadOrder_init := PySem.W.fnOf "__init__" "BadOrder.__init__" (defArgs s_BadOrder_init) (defBody s_BadOrder_init) (defScope s_BadOrder_init) .none kV7 dc7 pm7 an7 cd7 ct7
    F_BadOrder_init := F7
    b_BadOrder_init := b7
    iC_BadOrder := a7
    tI_BadOrder := tI_BadOrder
    f_BadRow_init := f8
    d_BadRow_init := PySem.W.fnOf "__init__" "BadRow.__init__" (defArgs s_BadRow_init) (defBody s_BadRow_init) (defScope s_BadRow_init) .none kV8 dc8 pm8 an8 cd8 ct8
    F_BadRow_init := F8
    b_BadRow_init := b8
    iC_BadRow := a8
    tI_BadRow := tI_BadRow
    f_OffLine_init := f9
    d_OffLine_init := PySem.W.fnOf "__init__" "OffLine.__init__" (defArgs s_OffLine_init) (defBody s_OffLine_init) (defScope s_OffLine_init) .none kV9 dc9 pm9 an9 cd9 ct9
    F_OffLine_init := F9
    b_OffLine_init := b9
    iC_OffLine := a9
    tI_OffLine := tI_OffLine
    f_Overlap_init := f10
    d_Overlap_init := PySem.W.fnOf "__init__" "Overlap.__init__" (defArgs s_Overlap_init) (defBody s_Overlap_init) (defScope s_Overlap_init) .none kV10 dc10 pm10 an10 cd10 ct10
    F_Overlap_init := F10
    b_Overlap_init := b10
    iC_Overlap := a10
    tI_Overlap := tI_Overlap
    f_NotFilled_init := f11
    d_NotFilled_init := PySem.W.fnOf "__init__" "NotFilled.__init__" (defArgs s_NotFilled_init) (defBody s_NotFilled_init) (defScope s_NotFilled_init) .none kV11 dc11 pm11 an11 cd11 ct11
    F_NotFilled_init := F11
    b_NotFilled_init := b11
    iC_NotFilled := a11
    tI_NotFilled := tI_NotFilled
    f_OtherLine_init := f12
    d_OtherLine_init := PySem.W.fnOf "__init__" "OtherLine.__init__" (defArgs s_OtherLine_init) (defBody s_OtherLine_init) (defScope s_OtherLine_init) .none kV12 dc12 pm12 an12 cd12 ct12
    F_OtherLine_init := F12
    b_OtherLine_init := b12
    iC_OtherLine := a12
    tI_OtherLine := tI_OtherLine
    f_BadRoom_init := f13
    d_BadRoom_init := PySem.W.fnOf "__init__" "BadRoom.__init__" (defArgs s_BadRoom_init) (defBody s_BadRoom_init) (defScope s_BadRoom_init) .none kV13 dc13 pm13 an13 cd13 ct13
    F_BadRoom_init := F13
    b_BadRoom_init := b13
    iC_BadRoom := a13
    tI_BadRoom := tI_BadRoom
    f_BadSwap_init := f14
    d_BadSwap_init := PySem.W.fnOf "__init__" "BadSwap.__init__" (defArgs s_BadSwap_init) (defBody s_BadSwap_init) (defScope s_BadSwap_init) .none kV14 dc14 pm14 an14 cd14 ct14
    F_BadSwap_init := F14
    b_BadSwap_init := b14
    iC_BadSwap := a14
    tI_BadSwap := tI_BadSwap
    f_Meet_init := f15
    d_Meet_init := PySem.W.fnOf "__init__" "Meet.__init__" (defArgs s_Meet_init) (defBody s_Meet_init) (defScope s_Meet_init) .none kV15 dc15 pm15 an15 cd15 ct15
    F_Meet_init := F15
    b_Meet_init := b15
    iC_Meet := a15
    tI_Meet := tI_Meet
    f_BadWedge_init := f16
    d_BadWedge_init := PySem.W.fnOf "__init__" "BadWedge.__init__" (defArgs s_BadWedge_init) (defBody s_BadWedge_init) (defScope s_BadWedge_init) .none kV16 dc16 pm16 an16 cd16 ct16
    F_BadWedge_init := F16
    b_BadWedge_init := b16
    iC_BadWedge := a16
    tI_BadWedge := tI_BadWedge
    f_BadReading_init := f17
    d_BadReading_init := PySem.W.fnOf "__init__" "BadReading.__init__" (defArgs s_BadReading_init) (defBody s_BadReading_init) (defScope s_BadReading_init) .none kV17 dc17 pm17 an17 cd17 ct17
    F_BadReading_init := F17
    b_BadReading_init := b17
    iC_BadReading := a17
    tI_BadReading := tI_BadReading
    f_BadWindow_init := f18
    d_BadWindow_init := PySem.W.fnOf "__init__" "BadWindow.__init__" (defArgs s_BadWindow_init) (defBody s_BadWindow_init) (defScope s_BadWindow_init) .none kV18 dc18 pm18 an18 cd18 ct18
    F_BadWindow_init := F18
    b_BadWindow_init := b18
    iC_BadWindow := a18
    tI_BadWindow := tI_BadWindow
    f_BadName_init := f19
    d_BadName_init := PySem.W.fnOf "__init__" "BadName.__init__" (defArgs s_BadName_init) (defBody s_BadName_init) (defScope s_BadName_init) .none kV19 dc19 pm19 an19 cd19 ct19
    F_BadName_init := F19
    b_BadName_init := b19
    iC_BadName := a19
    tI_BadName := tI_BadName
    f_BadNumber_init := f20
    d_BadNumber_init := PySem.W.fnOf "__init__" "BadNumber.__init__" (defArgs s_BadNumber_init) (defBody s_BadNumber_init) (defScope s_BadNumber_init) .none kV20 dc20 pm20 an20 cd20 ct20
    F_BadNumber_init := F20
    b_BadNumber_init := b20
    iC_BadNumber := a20
    tI_BadNumber := tI_BadNumber
    f_BadDeed_init := f21
    d_BadDeed_init := PySem.W.fnOf "__init__" "BadDeed.__init__" (defArgs s_BadDeed_init) (defBody s_BadDeed_init) (defScope s_BadDeed_init) .none kV21 dc21 pm21 an21 cd21 ct21
    F_BadDeed_init := F21
    b_BadDeed_init := b21
    iC_BadDeed := a21
    tI_BadDeed := tI_BadDeed
    f_BadExchange_init := f22
    d_BadExchange_init := PySem.W.fnOf "__init__" "BadExchange.__init__" (defArgs s_BadExchange_init) (defBody s_BadExchange_init) (defScope s_BadExchange_init) .none kV22 dc22 pm22 an22 cd22 ct22
    F_BadExchange_init := F22
    b_BadExchange_init := b22
    iC_BadExchange := a22
    tI_BadExchange := tI_BadExchange
    f_BadLimit_init := f23
    d_BadLimit_init := PySem.W.fnOf "__init__" "BadLimit.__init__" (defArgs s_BadLimit_init) (defBody s_BadLimit_init) (defScope s_BadLimit_init) .none kV23 dc23 pm23 an23 cd23 ct23
    F_BadLimit_init := F23
    b_BadLimit_init := b23
    iC_BadLimit := a23
    tI_BadLimit := tI_BadLimit
    f_Double_init := f24
    d_Double_init := PySem.W.fnOf "__init__" "Double.__init__" (defArgs s_Double_init) (defBody s_Double_init) (defScope s_Double_init) .none kV24 dc24 pm24 an24 cd24 ct24
    F_Double_init := F24
    b_Double_init := b24
    iC_Double := a24
    tI_Double := tI_Double
    f_TooMany_init := f25
    d_TooMany_init := PySem.W.fnOf "__init__" "TooMany.__init__" (defArgs s_TooMany_init) (defBody s_TooMany_init) (defScope s_TooMany_init) .none kV25 dc25 pm25 an25 cd25 ct25
    F_TooMany_init := F25
    b_TooMany_init := b25
    iC_TooMany := a25
    tI_TooMany := tI_TooMany
    f_Unlike_init := f26
    d_Unlike_init := PySem.W.fnOf "__init__" "Unlike.__init__" (defArgs s_Unlike_init) (defBody s_Unlike_init) (defScope s_Unlike_init) .none kV26 dc26 pm26 an26 cd26 ct26
    F_Unlike_init := F26
    b_Unlike_init := b26
    iC_Unlike := a26
    tI_Unlike := tI_Unlike
    f_OtherSteps_init := f27
    d_OtherSteps_init := PySem.W.fnOf "__init__" "OtherSteps.__init__" (defArgs s_OtherSteps_init) (defBody s_OtherSteps_init) (defScope s_OtherSteps_init) .none kV27 dc27 pm27 an27 cd27 ct27
    F_OtherSteps_init := F27
    b_OtherSteps_init := b27
    iC_OtherSteps := a27
    tI_OtherSteps := tI_OtherSteps
    f_NothingLeft_init := f28
    d_NothingLeft_init := PySem.W.fnOf "__init__" "NothingLeft.__init__" (defArgs s_NothingLeft_init) (defBody s_NothingLeft_init) (defScope s_NothingLeft_init) .none kV28 dc28 pm28 an28 cd28 ct28
    F_NothingLeft_init := F28
    b_NothingLeft_init := b28
    iC_NothingLeft := a28
    tI_NothingLeft := tI_NothingLeft
    f_OwesMore_init := f29
    d_OwesMore_init := PySem.W.fnOf "__init__" "OwesMore.__init__" (defArgs s_OwesMore_init) (defBody s_OwesMore_init) (defScope s_OwesMore_init) .none kV29 dc29 pm29 an29 cd29 ct29
    F_OwesMore_init := F29
    b_OwesMore_init := b29
    iC_OwesMore := a29
    tI_OwesMore := tI_OwesMore
    f_NotOnLine_init := f30
    d_NotOnLine_init := PySem.W.fnOf "__init__" "NotOnLine.__init__" (defArgs s_NotOnLine_init) (defBody s_NotOnLine_init) (defScope s_NotOnLine_init) .none kV30 dc30 pm30 an30 cd30 ct30
    F_NotOnLine_init := F30
    b_NotOnLine_init := b30
    iC_NotOnLine := a30
    tI_NotOnLine := tI_NotOnLine
    f_NoPrime_init := f31
    d_NoPrime_init := PySem.W.fnOf "__init__" "NoPrime.__init__" (defArgs s_NoPrime_init) (defBody s_NoPrime_init) (defScope s_NoPrime_init) .none kV31 dc31 pm31 an31 cd31 ct31
    F_NoPrime_init := F31
    b_NoPrime_init := b31
    iC_NoPrime := a31
    tI_NoPrime := tI_NoPrime
    f_UnknownName_init := f32
    d_UnknownName_init := PySem.W.fnOf "__init__" "UnknownName.__init__" (defArgs s_UnknownName_init) (defBody s_UnknownName_init) (defScope s_UnknownName_init) .none kV32 dc32 pm32 an32 cd32 ct32
    F_UnknownName_init := F32
    b_UnknownName_init := b32
    iC_UnknownName := a32
    tI_UnknownName := tI_UnknownName
    f_NotIn_init := f33
    d_NotIn_init := PySem.W.fnOf "__init__" "NotIn.__init__" (defArgs s_NotIn_init) (defBody s_NotIn_init) (defScope s_NotIn_init) .none kV33 dc33 pm33 an33 cd33 ct33
    F_NotIn_init := F33
    b_NotIn_init := b33
    iC_NotIn := a33
    tI_NotIn := tI_NotIn
    f_NotFair_init := f34
    d_NotFair_init := PySem.W.fnOf "__init__" "NotFair.__init__" (defArgs s_NotFair_init) (defBody s_NotFair_init) (defScope s_NotFair_init) .none kV34 dc34 pm34 an34 cd34 ct34
    F_NotFair_init := F34
    b_NotFair_init := b34
    iC_NotFair := a34
    tI_NotFair := tI_NotFair
    f_NotKept_init := f35
    d_NotKept_init := PySem.W.fnOf "__init__" "NotKept.__init__" (defArgs s_NotKept_init) (defBody s_NotKept_init) (defScope s_NotKept_init) .none kV35 dc35 pm35 an35 cd35 ct35
    F_NotKept_init := F35
    b_NotKept_init := b35
    iC_NotKept := a35
    tI_NotKept := tI_NotKept
    f_Odd_init := f36
    d_Odd_init := PySem.W.fnOf "__init__" "Odd.__init__" (defArgs s_Odd_init) (defBody s_Odd_init) (defScope s_Odd_init) .none kV36 dc36 pm36 an36 cd36 ct36
    F_Odd_init := F36
    b_Odd_init := b36
    iC_Odd := a36
    tI_Odd := tI_Odd
    f_NoRoot_init := f37
    d_NoRoot_init := PySem.W.fnOf "__init__" "NoRoot.__init__" (defArgs s_NoRoot_init) (defBody s_NoRoot_init) (defScope s_NoRoot_init) .none kV37 dc37 pm37 an37 cd37 ct37
    F_NoRoot_init := F37
    b_NoRoot_init := b37
    iC_NoRoot := a37
    tI_NoRoot := tI_NoRoot
    f_Unfit_init := f38
    d_Unfit_init := PySem.W.fnOf "__init__" "Unfit.__init__" (defArgs s_Unfit_init) (defBody s_Unfit_init) (defScope s_Unfit_init) .none kV38 dc38 pm38 an38 cd38 ct38
    F_Unfit_init := F38
    b_Unfit_init := b38
    iC_Unfit := a38
    tI_Unfit := tI_Unfit
    f_Unmade_init := f39
    d_Unmade_init := PySem.W.fnOf "__init__" "Unmade.__init__" (defArgs s_Unmade_init) (defBody s_Unmade_init) (defScope s_Unmade_init) .none kV39 dc39 pm39 an39 cd39 ct39
    F_Unmade_init := F39
    b_Unmade_init := b39
    iC_Unmade := a39
    tI_Unmade := tI_Unmade
    f_TooLong_init := f40
    d_TooLong_init := PySem.W.fnOf "__init__" "TooLong.__init__" (defArgs s_TooLong_init) (defBody s_TooLong_init) (defScope s_TooLong_init) .none kV40 dc40 pm40 an40 cd40 ct40
    F_TooLong_init := F40
    b_TooLong_init := b40
    iC_TooLong := a40
    tI_TooLong := tI_TooLong
    f_Level_init := f41
    d_Level_init := PySem.W.fnOf "__init__" "Level.__init__" (defArgs s_Level_init) (defBody s_Level_init) (defScope s_Level_init) .none kV41 dc41 pm41 an41 cd41 ct41
    F_Level_init := F41
    b_Level_init := b41
    iC_Level := a41
    tI_Level := tI_Level
    f_NoEntry_init := f42
    d_NoEntry_init := PySem.W.fnOf "__init__" "NoEntry.__init__" (defArgs s_NoEntry_init) (defBody s_NoEntry_init) (defScope s_NoEntry_init) .none kV42 dc42 pm42 an42 cd42 ct42
    F_NoEntry_init := F42
    b_NoEntry_init := b42
    iC_NoEntry := a42
    tI_NoEntry := tI_NoEntry
    f_l_bag := f43
    d_l_bag := PySem.W.fnOf "_law_bag" "_law_bag" (defArgs s_l_bag) (defBody s_l_bag) (defScope s_l_bag) .none kV43 dc43 pm43 an43 cd43 ct43
    F_l_bag := F43
    b_l_bag := b43
    m_l_bag := PySem.W.mg_of X G a43
    f_l_draw := f44
    d_l_draw := PySem.W.fnOf "_law_draw" "_law_draw" (defArgs s_l_draw) (defBody s_l_draw) (defScope s_l_draw) .none kV44 dc44 pm44 an44 cd44 ct44
    F_l_draw := F44
    b_l_draw := b44
    m_l_draw := PySem.W.mg_of X G a44
    f_l_of := f45
    d_l_of := PySem.W.fnOf "_law_of" "_law_of" (defArgs s_l_of) (defBody s_l_of) (defScope s_l_of) .none kV45 dc45 pm45 an45 cd45 ct45
    F_l_of := F45
    b_l_of := b45
    m_l_of := PySem.W.mg_of X G a45
    f_l_same := f46
    d_l_same := PySem.W.fnOf "_law_same" "_law_same" (defArgs s_l_same) (defBody s_l_same) (defScope s_l_same) .none kV46 dc46 pm46 an46 cd46 ct46
    F_l_same := F46
    b_l_same := b46
    m_l_same := PySem.W.mg_of X G a46
    f_l_told := f47
    d_l_told := PySem.W.fnOf "_law_told" "_law_told" (defArgs s_l_told) (defBody s_l_told) (defScope s_l_told) .none kV47 dc47 pm47 an47 cd47 ct47
    F_l_told := F47
    b_l_told := b47
    m_l_told := PySem.W.mg_of X G a47
    f_l_first_kinds := f48
    d_l_first_kinds := PySem.W.fnOf "_law_first_kinds" "_law_first_kinds" (defArgs s_l_first_kinds) (defBody s_l_first_kinds) (defScope s_l_first_kinds) .none kV48 dc48 pm48 an48 cd48 ct48
    F_l_first_kinds := F48
    b_l_first_kinds := b48
    m_l_first_kinds := PySem.W.mg_of X G a48
    f_l_second_kinds := f49
    d_l_second_kinds := PySem.W.fnOf "_law_second_kinds" "_law_second_kinds" (defArgs s_l_second_kinds) (defBody s_l_second_kinds) (defScope s_l_second_kinds) .none kV49 dc49 pm49 an49 cd49 ct49
    F_l_second_kinds := F49
    b_l_second_kinds := b49
    m_l_second_kinds := PySem.W.mg_of X G a49
    f_l_by_place := f50
    d_l_by_place := PySem.W.fnOf "_law_by_place" "_law_by_place" (defArgs s_l_by_place) (defBody s_l_by_place) (defScope s_l_by_place) .none kV50 dc50 pm50 an50 cd50 ct50
    F_l_by_place := F50
    b_l_by_place := b50
    m_l_by_place := PySem.W.mg_of X G a50
    f_l_by_name := f51
    d_l_by_name := PySem.W.fnOf "_law_by_name" "_law_by_name" (defArgs s_l_by_name) (defBody s_l_by_name) (defScope s_l_by_name) .none kV51 dc51 pm51 an51 cd51 ct51
    F_l_by_name := F51
    b_l_by_name := b51
    m_l_by_name := PySem.W.mg_of X G a51
    f_l_codes := f52
    d_l_codes := PySem.W.fnOf "_law_codes" "_law_codes" (defArgs s_l_codes) (defBody s_l_codes) (defScope s_l_codes) .none kV52 dc52 pm52 an52 cd52 ct52
    F_l_codes := F52
    b_l_codes := b52
    m_l_codes := PySem.W.mg_of X G a52
    f_l_due := f53
    d_l_due := PySem.W.fnOf "_law_due" "_law_due" (defArgs s_l_due) (defBody s_l_due) (defScope s_l_due) .none kV53 dc53 pm53 an53 cd53 ct53
    F_l_due := F53
    b_l_due := b53
    m_l_due := PySem.W.mg_of X G a53
    f_l_raise := f54
    d_l_raise := PySem.W.fnOf "_law_raise" "_law_raise" (defArgs s_l_raise) (defBody s_l_raise) (defScope s_l_raise) .none kV54 dc54 pm54 an54 cd54 ct54
    F_l_raise := F54
    b_l_raise := b54
    m_l_raise := PySem.W.mg_of X G a54
    f_l_caught := f55
    d_l_caught := PySem.W.fnOf "_law_caught" "_law_caught" (defArgs s_l_caught) (defBody s_l_caught) (defScope s_l_caught) .none kV55 dc55 pm55 an55 cd55 ct55
    F_l_caught := F55
    b_l_caught := b55
    m_l_caught := PySem.W.mg_of X G a55
    f_l_thing := f56
    d_l_thing := PySem.W.fnOf "_law_thing" "_law_thing" (defArgs s_l_thing) (defBody s_l_thing) (defScope s_l_thing) .none kV56 dc56 pm56 an56 cd56 ct56
    F_l_thing := F56
    b_l_thing := b56
    m_l_thing := PySem.W.mg_of X G a56
    f_l_made_so := f57
    d_l_made_so := PySem.W.fnOf "_law_made_so" "_law_made_so" (defArgs s_l_made_so) (defBody s_l_made_so) (defScope s_l_made_so) .none kV57 dc57 pm57 an57 cd57 ct57
    F_l_made_so := F57
    b_l_made_so := b57
    m_l_made_so := PySem.W.mg_of X G a57
    f_law := fa
    d_law := PySem.W.fnOf "law" "law" (defArgs s_law) (defBody s_law) (defScope s_law) .none kV58 dc58 pm58 an58 cd58 ct58
    F_law := F58
    b_law := b58
    m_law := PySem.W.mg_of X G a58
    kb_BadLine_line := kb_BadLine_line
    kb_BadLength_at := kb_BadLength_at
    kb_BadRow_at := kb_BadRow_at
    kb_NotFilled_missing := kb_NotFilled_missing
    kb_NoPrime_value := kb_NoPrime_value
    kb_NotFair_second_first := kb_NotFair_second_first
    kb_Unmade_reading := kb_Unmade_reading
    kb_OffLine_at := kb_OffLine_at
    kb_Overlap_other_one := kb_Overlap_other_one
    kb_BadSwap_at := kb_BadSwap_at
    kb_BadName_value := kb_BadName_value
    kb_BadNumber_value := kb_BadNumber_value
    kb_BadDeed_at := kb_BadDeed_at
    kb_BadLimit_value := kb_BadLimit_value
    kb_Double_name := kb_Double_name
    kb_TooMany_most := kb_TooMany_most
    kb_Unlike_colour := kb_Unlike_colour
    kb_OwesMore_name := kb_OwesMore_name
    kb_NotOnLine_tone := kb_NotOnLine_tone
    kb_UnknownName_name := kb_UnknownName_name
    kb_Odd_prime := kb_Odd_prime
    kb_NoRoot_first_second := kb_NoRoot_first_second
    kb_Unfit_counts := kb_Unfit_counts
    kb_TooLong_most := kb_TooLong_most
    erT := h_erT
    kiT := h_kiT
    kbT := h_kbT
    exT := h_exT
    eqA := h_eqA
    eqB := h_eqB
    oN := h_oN
    oT := h_oT
  } )⟩
theorem walk {l : PySem.W.OpenLaw} {q : Program} {loose : List Str} {XP : (Str → Option Value) → Heap → Prop} {YP : World → Heap → Prop} {d : DefRec} {K : Params → PySem.W.Frag} (hn : l.most = some 63) (hdf : d.params.defaults = [])
    (hY : ∀ (w : World) (h : Heap), YP w h → (K w.params).In h)
    (F : ∀ (w : World) (mg : Str → Option Value) (fa : Addr) (h : Heap), (K w.params).In h → h.Ns mainGlobals mg → mg d.name = some (.ref fa) →
      ∃ fd : FuncData, (∀ (s : Shared) (u : Value), BindsTo s fd ⟨[u], []⟩ [("_law_script", u)]) ∧ ∀ base : Heap, (K w.params).In base → base.Ns mainGlobals mg → FnOk l.prog w (K w.params) mg base CX0 10 fa fd ["_law_script"] (spLaw (K w.params))) :
    PySem.W.WalkO q loose XP YP l.row.toRowW d [] (fun f vs => PySem.call f vs) :=
  L2.walk_of (n := 63) (k := 10) (x := "_law_script") (CX := fun _ => CX0) (sp := fun w => spLaw (K w.params)) hn (by decide) hdf ⟨rfl, by decide, by decide⟩ hY F (fun _ _ a ns hl _ hS => ⟨a, ns, rfl, hS, hl, fun _ => rfl⟩) fun _ _ _ _ _ z => z
end TL
def PySem.W.Fast.tw4374429467979653419 : Nat := 0
def PySem.W.Fast.tw11922671639005205301 : Nat := 0
def PySem.W.Fast.tw10810589852834084350 : Nat := 0
def PySem.W.Fast.tw17429926189970620559 : Nat := 0
def PySem.W.Fast.tw14546918768571070136 : Nat := 0
def PySem.W.Fast.tw16572346877330120709 : Nat := 0
def PySem.W.Fast.tw16082955680278556652 : Nat := 0
def PySem.W.Fast.tw5648435083212952212 : Nat := 0
def PySem.W.Fast.tw10611534402826229246 : Nat := 0
def PySem.W.Fast.tw7924709884976614054 : Nat := 0
def PySem.W.Fast.tw20626800944663260 : Nat := 0
def PySem.W.Fast.tw14124458679708454200 : Nat := 0
def PySem.W.Fast.tw11850759548632284598 : Nat := 0
def PySem.W.Fast.tw15608853411017359401 : Nat := 0
def PySem.W.Fast.tw9878393094801922858 : Nat := 0
def PySem.W.Fast.tw8701572211015943276 : Nat := 0
def PySem.W.Fast.tw10934217239121562933 : Nat := 0
def PySem.W.Fast.tw1393361903984404648 : Nat := 0
def PySem.W.Fast.tw5426085527663985797 : Nat := 0
def PySem.W.Fast.tw18263092914677898790 : Nat := 0
def PySem.W.Fast.tw6045254724638925477 : Nat := 0
def PySem.W.Fast.tw18437722797571404093 : Nat := 0
def PySem.W.Fast.tw12024264263930967653 : Nat := 0
def PySem.W.Fast.tw2894621892516123339 : Nat := 0
def PySem.W.Fast.tw5674109084182718952 : Nat := 0
def PySem.W.Fast.tw13840127717320371369 : Nat := 0
def PySem.W.Fast.tw15743598004621142508 : Nat := 0
def PySem.W.Fast.tw6292772989640310398 : Nat := 0
def PySem.W.Fast.tw2356366291325972675 : Nat := 0
def PySem.W.Fast.tw11116919511925005337 : Nat := 0
def PySem.W.Fast.tw6507516227844190195 : Nat := 0
def PySem.W.Fast.tw14990766875051600642 : Nat := 0
def PySem.W.Fast.tw6795566916494076752 : Nat := 0
def PySem.W.Fast.tw15258216777851956716 : Nat := 0
def PySem.W.Fast.tw2796768459229433437 : Nat := 0
def PySem.W.Fast.tw8965355802325729666 : Nat := 0
def PySem.W.Fast.tw15513656199737414429 : Nat := 0
def PySem.W.Fast.tw9166779023399492897 : Nat := 0
def PySem.W.Fast.tw4002092967889285291 : Nat := 0
def PySem.W.Fast.tw7358382972658838396 : Nat := 0
def PySem.W.Fast.tw17499807120242241870 : Nat := 0
def PySem.W.Fast.tw11536750436922940084 : Nat := 0
def PySem.W.Fast.tw181916472846953722 : Nat := 0
def PySem.W.Fast.tw5373718933183114846 : Nat := 0
open PySem PySem.W PyProof.Rows
set_option maxRecDepth 100000 in
set_option maxHeartbeats 0 in
theorem PySem.Challenge.cw_turnsleft_k00_errors_by_themselves_holds : PySem.Challenge.rw_turnsleft_k00_errors_by_themselves.Holds := by
  w_on; o_law; k_head; (case hw => w_witness2)
  k_fill
  refine TL.walk (l := PySem.Challenge.rw_turnsleft_k00_errors_by_themselves) rfl rfl (fun w h Y => PySem.W.kIn_of Y) ?F
  case F =>
    intro w mg fa h KX G hmg
    refine' TL.all_mk KX G hmg ?z_len ?z_abs ?z_int ?z_isinstance ?z_list ?z_tuple ?z_bool ?z_str ?z_all ?z_zip ?z_range ?z_ValueError ?z_LookupError ?z_ArithmeticError ?z_IndexError ?z_KeyError ?z_ZeroDivisionError ?aC_TurnError ?aC_NotThere ?aC_Impossible ?aC_BadRatio ?aC_BadText ?aC_BadLine ?aC_BadTop ?aC_BadStart ?aC_BadLength ?aC_BadOrder ?aC_BadRow ?aC_OffLine ?aC_Overlap ?aC_NotFilled ?aC_OtherLine ?aC_BadRoom ?aC_BadSwap ?aC_Meet ?aC_BadWedge ?aC_BadReading ?aC_BadWindow ?aC_BadName ?aC_BadNumber ?aC_BadDeed ?aC_BadExchange ?aC_BadLimit ?aC_Double ?aC_TooMany ?aC_Unlike ?aC_OtherSteps ?aC_NothingLeft ?aC_OwesMore ?aC_NotOnLine ?aC_NoPrime ?aC_UnknownName ?aC_NotIn ?aC_NotFair ?aC_NotKept ?aC_Odd ?aC_NoRoot ?aC_Unfit ?aC_Unmade ?aC_TooLong ?aC_Level ?aC_NoEntry ?a1 ?i1 ?l1 ?c1 ?k1 ?tI_BadRatio ?a2 ?i2 ?l2 ?c2 ?k2 ?tI_BadText ?a3 ?i3 ?l3 ?c3 ?k3 ?tI_BadLine ?a4 ?i4 ?l4 ?c4 ?k4 ?tI_BadTop ?a5 ?i5 ?l5 ?c5 ?k5 ?tI_BadStart ?a6 ?i6 ?l6 ?c6 ?k6 ?tI_BadLength ?a7 ?i7 ?l7 ?c7 ?k7 ?tI_BadOrder ?a8 ?i8 ?l8 ?c8 ?k8 ?tI_BadRow ?a9 ?i9 ?l9 ?c9 ?k9 ?tI_OffLine ?a10 ?i10 ?l10 ?c10 ?k10 ?tI_Overlap ?a11 ?i11 ?l11 ?c11 ?k11 ?tI_NotFilled ?a12 ?i12 ?l12 ?c12 ?k12 ?tI_OtherLine ?a13 ?i13 ?l13 ?c13 ?k13 ?tI_BadRoom ?a14 ?i14 ?l14 ?c14 ?k14 ?tI_BadSwap ?a15 ?i15 ?l15 ?c15 ?k15 ?tI_Meet ?a16 ?i16 ?l16 ?c16 ?k16 ?tI_BadWedge ?a17 ?i17 ?l17 ?c17 ?k17 ?tI_BadReading ?a18 ?i18 ?l18 ?c18 ?k18 ?tI_BadWindow ?a19 ?i19 ?l19 ?c19 ?k19 ?tI_BadName ?a20 ?i20 ?l20 ?c20 ?k20 ?tI_BadNumber ?a21 ?i21 ?l21 ?c21 ?k21 ?tI_BadDeed ?a22 ?i22 ?l22 ?c22 ?k22 ?tI_BadExchange ?a23 ?i23 ?l23 ?c23 ?k23 ?tI_BadLimit ?a24 ?i24 ?l24 ?c24 ?k24 ?tI_Double ?a25 ?i25 ?l25 ?c25 ?k25 ?tI_TooMany ?a26 ?i26 ?l26 ?c26 ?k26 ?tI_Unlike ?a27 ?i27 ?l27 ?c27 ?k27 ?tI_OtherSteps ?a28 ?i28 ?l28 ?c28 ?k28 ?tI_NothingLeft ?a29 ?i29 ?l29 ?c29 ?k29 ?tI_OwesMore ?a30 ?i30 ?l30 ?c30 ?k30 ?tI_NotOnLine ?a31 ?i31 ?l31 ?c31 ?k31 ?tI_NoPrime ?a32 ?i32 ?l32 ?c32 ?k32 ?tI_UnknownName ?a33 ?i33 ?l33 ?c33 ?k33 ?tI_NotIn ?a34 ?i34 ?l34 ?c34 ?k34 ?tI_NotFair ?a35 ?i35 ?l35 ?c35 ?k35 ?tI_NotKept ?a36 ?i36 ?l36 ?c36 ?k36 ?tI_Odd ?a37 ?i37 ?l37 ?c37 ?k37 ?tI_NoRoot ?a38 ?i38 ?l38 ?c38 ?k38 ?tI_Unfit ?a39 ?i39 ?l39 ?c39 ?k39 ?tI_Unmade ?a40 ?i40 ?l40 ?c40 ?k40 ?tI_TooLong ?a41 ?i41 ?l41 ?c41 ?k41 ?tI_Level ?a42 ?i42 ?l42 ?c42 ?k42 ?tI_NoEntry ?a43 ?l43 ?c43 ?k43 ?a44 ?l44 ?c44 ?k44 ?a45 ?l45 ?c45 ?k45 ?a46 ?l46 ?c46 ?k46 ?a47 ?l47 ?c47 ?k47 ?a48 ?l48 ?c48 ?k48 ?a49 ?l49 ?c49 ?k49 ?a50 ?l50 ?c50 ?k50 ?a51 ?l51 ?c51 ?k51 ?a52 ?l52 ?c52 ?k52 ?a53 ?l53 ?c53 ?k53 ?a54 ?l54 ?c54 ?k54 ?a55 ?l55 ?c55 ?k55 ?a56 ?l56 ?c56 ?k56 ?a57 ?l57 ?c57 ?k57 ?a58 ?l58 ?c58 ?k58 ?h_erT ?h_kiT ?h_kbT ?h_exT ?h_eqA ?h_eqB ?h_oN ?h_oT
    (case z_len => k_is)
    (case z_abs => k_is)
    (case z_int => k_is)
    (case z_isinstance => k_is)
    (case z_list => k_is)
    (case z_tuple => k_is)
    (case z_bool => k_is)
    (case z_str => k_is)
    (case z_all => k_is)
    (case z_zip => k_is)
    (case z_range => k_is)
    (case z_ValueError => k_is)
    (case z_LookupError => k_is)
    (case z_ArithmeticError => k_is)
    (case z_IndexError => k_is)
    (case z_KeyError => k_is)
    (case z_ZeroDivisionError => k_is)
    (case aC_TurnError => k_is)
    (case aC_NotThere => k_is)
    (case aC_Impossible => k_is)
    (case aC_BadRatio => k_is)
    (case aC_BadText => k_is)
    (case aC_BadLine => k_is)
    (case aC_BadTop => k_is)
    (case aC_BadStart => k_is)
    (case aC_BadLength => k_is)
    (case aC_BadOrder => k_is)
    (case aC_BadRow => k_is)
    (case aC_OffLine => k_is)
    (case aC_Overlap => k_is)
    (case aC_NotFilled => k_is)
    (case aC_OtherLine => k_is)
    (case aC_BadRoom => k_is)
    (case aC_BadSwap => k_is)
    (case aC_Meet => k_is)
    (case aC_BadWedge => k_is)
    (case aC_BadReading => k_is)
    (case aC_BadWindow => k_is)
    (case aC_BadName => k_is)
    (case aC_BadNumber => k_is)
    (case aC_BadDeed => k_is)
    (case aC_BadExchange => k_is)
    (case aC_BadLimit => k_is)
    (case aC_Double => k_is)
    (case aC_TooMany => k_is)
    (case aC_Unlike => k_is)
    (case aC_OtherSteps => k_is)
    (case aC_NothingLeft => k_is)
    (case aC_OwesMore => k_is)
    (case aC_NotOnLine => k_is)
    (case aC_NoPrime => k_is)
    (case aC_UnknownName => k_is)
    (case aC_NotIn => k_is)
    (case aC_NotFair => k_is)
    (case aC_NotKept => k_is)
    (case aC_Odd => k_is)
    (case aC_NoRoot => k_is)
    (case aC_Unfit => k_is)
    (case aC_Unmade => k_is)
    (case aC_TooLong => k_is)
    (case aC_Level => k_is)
    (case aC_NoEntry => k_is)
    (case a1 => k_is)
    (case i1 => k_is)
    (case l1 => k_is)
    (case c1 => k_is)
    (case k1 => k_is)
    (case tI_BadRatio => k_is)
    (case a2 => k_is)
    (case i2 => k_is)
    (case l2 => k_is)
    (case c2 => k_is)
    (case k2 => k_is)
    (case tI_BadText => k_is)
    (case a3 => k_is)
    (case i3 => k_is)
    (case l3 => k_is)
    (case c3 => k_is)
    (case k3 => k_is)
    (case tI_BadLine => k_is)
    (case a4 => k_is)
    (case i4 => k_is)
    (case l4 => k_is)
    (case c4 => k_is)
    (case k4 => k_is)
    (case tI_BadTop => k_is)
    (case a5 => k_is)
    (case i5 => k_is)
    (case l5 => k_is)
    (case c5 => k_is)
    (case k5 => k_is)
    (case tI_BadStart => k_is)
    (case a6 => k_is)
    (case i6 => k_is)
    (case l6 => k_is)
    (case c6 => k_is)
    (case k6 => k_is)
    (case tI_BadLength => k_is)
    (case a7 => k_is)
    (case i7 => k_is)
    (case l7 => k_is)
    (case c7 => k_is)
    (case k7 => k_is)
    (case tI_BadOrder => k_is)
    (case a8 => k_is)
    (case i8 => k_is)
    (case l8 => k_is)
    (case c8 => k_is)
    (case k8 => k_is)
    (case tI_BadRow => k_is)
    (case a9 => k_is)
    (case i9 => k_is)
    (case l9 => k_is)
    (case c9 => k_is)
    (case k9 => k_is)
    (case tI_OffLine => k_is)
    (case a10 => k_is)
    (case i10 => k_is)
    (case l10 => k_is)
    (case c10 => k_is)
    (case k10 => k_is)
    (case tI_Overlap => k_is)
    (case a11 => k_is)
    (case i11 => k_is)
    (case l11 => k_is)
    (case c11 => k_is)
    (case k11 => k_is)
    (case tI_NotFilled => k_is)
    (case a12 => k_is)
    (case i12 => k_is)
    (case l12 => k_is)
    (case c12 => k_is)
    (case k12 => k_is)
    (case tI_OtherLine => k_is)
    (case a13 => k_is)
    (case i13 => k_is)
    (case l13 => k_is)
    (case c13 => k_is)
    (case k13 => k_is)
    (case tI_BadRoom => k_is)
    (case a14 => k_is)
    (case i14 => k_is)
    (case l14 => k_is)
    (case c14 => k_is)
    (case k14 => k_is)
    (case tI_BadSwap => k_is)
    (case a15 => k_is)
    (case i15 => k_is)
    (case l15 => k_is)
    (case c15 => k_is)
    (case k15 => k_is)
    (case tI_Meet => k_is)
    (case a16 => k_is)
    (case i16 => k_is)
    (case l16 => k_is)
    (case c16 => k_is)
    (case k16 => k_is)
    (case tI_BadWedge => k_is)
    (case a17 => k_is)
    (case i17 => k_is)
    (case l17 => k_is)
    (case c17 => k_is)
    (case k17 => k_is)
    (case tI_BadReading => k_is)
    (case a18 => k_is)
    (case i18 => k_is)
    (case l18 => k_is)
    (case c18 => k_is)
    (case k18 => k_is)
    (case tI_BadWindow => k_is)
    (case a19 => k_is)
    (case i19 => k_is)
    (case l19 => k_is)
    (case c19 => k_is)
    (case k19 => k_is)
    (case tI_BadName => k_is)
    (case a20 => k_is)
    (case i20 => k_is)
    (case l20 => k_is)
    (case c20 => k_is)
    (case k20 => k_is)
    (case tI_BadNumber => k_is)
    (case a21 => k_is)
    (case i21 => k_is)
    (case l21 => k_is)
    (case c21 => k_is)
    (case k21 => k_is)
    (case tI_BadDeed => k_is)
    (case a22 => k_is)
    (case i22 => k_is)
    (case l22 => k_is)
    (case c22 => k_is)
    (case k22 => k_is)
    (case tI_BadExchange => k_is)
    (case a23 => k_is)
    (case i23 => k_is)
    (case l23 => k_is)
    (case c23 => k_is)
    (case k23 => k_is)
    (case tI_BadLimit => k_is)
    (case a24 => k_is)
    (case i24 => k_is)
    (case l24 => k_is)
    (case c24 => k_is)
    (case k24 => k_is)
    (case tI_Double => k_is)
    (case a25 => k_is)
    (case i25 => k_is)
    (case l25 => k_is)
    (case c25 => k_is)
    (case k25 => k_is)
    (case tI_TooMany => k_is)
    (case a26 => k_is)
    (case i26 => k_is)
    (case l26 => k_is)
    (case c26 => k_is)
    (case k26 => k_is)
    (case tI_Unlike => k_is)
    (case a27 => k_is)
    (case i27 => k_is)
    (case l27 => k_is)
    (case c27 => k_is)
    (case k27 => k_is)
    (case tI_OtherSteps => k_is)
    (case a28 => k_is)
    (case i28 => k_is)
    (case l28 => k_is)
    (case c28 => k_is)
    (case k28 => k_is)
    (case tI_NothingLeft => k_is)
    (case a29 => k_is)
    (case i29 => k_is)
    (case l29 => k_is)
    (case c29 => k_is)
    (case k29 => k_is)
    (case tI_OwesMore => k_is)
    (case a30 => k_is)
    (case i30 => k_is)
    (case l30 => k_is)
    (case c30 => k_is)
    (case k30 => k_is)
    (case tI_NotOnLine => k_is)
    (case a31 => k_is)
    (case i31 => k_is)
    (case l31 => k_is)
    (case c31 => k_is)
    (case k31 => k_is)
    (case tI_NoPrime => k_is)
    (case a32 => k_is)
    (case i32 => k_is)
    (case l32 => k_is)
    (case c32 => k_is)
    (case k32 => k_is)
    (case tI_UnknownName => k_is)
    (case a33 => k_is)
    (case i33 => k_is)
    (case l33 => k_is)
    (case c33 => k_is)
    (case k33 => k_is)
    (case tI_NotIn => k_is)
    (case a34 => k_is)
    (case i34 => k_is)
    (case l34 => k_is)
    (case c34 => k_is)
    (case k34 => k_is)
    (case tI_NotFair => k_is)
    (case a35 => k_is)
    (case i35 => k_is)
    (case l35 => k_is)
    (case c35 => k_is)
    (case k35 => k_is)
    (case tI_NotKept => k_is)
    (case a36 => k_is)
    (case i36 => k_is)
    (case l36 => k_is)
    (case c36 => k_is)
    (case k36 => k_is)
    (case tI_Odd => k_is)
    (case a37 => k_is)
    (case i37 => k_is)
    (case l37 => k_is)
    (case c37 => k_is)
    (case k37 => k_is)
    (case tI_NoRoot => k_is)
    (case a38 => k_is)
    (case i38 => k_is)
    (case l38 => k_is)
    (case c38 => k_is)
    (case k38 => k_is)
    (case tI_Unfit => k_is)
    (case a39 => k_is)
    (case i39 => k_is)
    (case l39 => k_is)
    (case c39 => k_is)
    (case k39 => k_is)
    (case tI_Unmade => k_is)
    (case a40 => k_is)
    (case i40 => k_is)
    (case l40 => k_is)
    (case c40 => k_is)
    (case k40 => k_is)
    (case tI_TooLong => k_is)
    (case a41 => k_is)
    (case i41 => k_is)
    (case l41 => k_is)
    (case c41 => k_is)
    (case k41 => k_is)
    (case tI_Level => k_is)
    (case a42 => k_is)
    (case i42 => k_is)
    (case l42 => k_is)
    (case c42 => k_is)
    (case k42 => k_is)
    (case tI_NoEntry => k_is)
    (case a43 => k_is)
    (case l43 => k_is)
    (case c43 => k_is)
    (case k43 => k_is)
    (case a44 => k_is)
    (case l44 => k_is)
    (case c44 => k_is)
    (case k44 => k_is)
    (case a45 => k_is)
    (case l45 => k_is)
    (case c45 => k_is)
    (case k45 => k_is)
    (case a46 => k_is)
    (case l46 => k_is)
    (case c46 => k_is)
    (case k46 => k_is)
    (case a47 => k_is)
    (case l47 => k_is)
    (case c47 => k_is)
    (case k47 => k_is)
    (case a48 => k_is)
    (case l48 => k_is)
    (case c48 => k_is)
    (case k48 => k_is)
    (case a49 => k_is)
    (case l49 => k_is)
    (case c49 => k_is)
    (case k49 => k_is)
    (case a50 => k_is)
    (case l50 => k_is)
    (case c50 => k_is)
    (case k50 => k_is)
    (case a51 => k_is)
    (case l51 => k_is)
    (case c51 => k_is)
    (case k51 => k_is)
    (case a52 => k_is)
    (case l52 => k_is)
    (case c52 => k_is)
    (case k52 => k_is)
    (case a53 => k_is)
    (case l53 => k_is)
    (case c53 => k_is)
    (case k53 => k_is)
    (case a54 => k_is)
    (case l54 => k_is)
    (case c54 => k_is)
    (case k54 => k_is)
    (case a55 => k_is)
    (case l55 => k_is)
    (case c55 => k_is)
    (case k55 => k_is)
    (case a56 => k_is)
    (case l56 => k_is)
    (case c56 => k_is)
    (case k56 => k_is)
    (case a57 => k_is)
    (case l57 => k_is)
    (case c57 => k_is)
    (case k57 => k_is)
    (case a58 => k_is)
    (case l58 => k_is)
    (case c58 => k_is)
    (case k58 => k_is)
    (case h_erT => kernel_rfl)
    (case h_kiT => kernel_rfl)
    (case h_kbT => kernel_rfl)
    (case h_exT => kernel_rfl)
    (case h_eqA => first | rfl | k_is)
    (case h_eqB => first | rfl | k_is)
    (case h_oN => first | rfl | k_is)
    (case h_oT => first | rfl | k_is)
