/- What the proof of this claim stands on, part 3: an evaluator of the model, proved right, and what it answers for functions of the program. -/
import Derived.Test.YtjcgoiajjgeedaaGreatPk01
import Derived.Laws.StructEq
namespace Go.Ev
open Go.Proofs
set_option maxRecDepth 100000
set_option linter.unusedSimpArgs false
def firstLoop : Code → Option Code
  | .loop b => some b
  | .seq a b => (firstLoop a).orElse fun _ => firstLoop b
  | .block _ a => firstLoop a
  | .scope a => firstLoop a
  | .cond _ a b => (firstLoop a).orElse fun _ => firstLoop b
  | _ => none
def withinB (lo hi : Int) (ns : List Int) : Bool := ns.all fun n => decide (lo ≤ n) && decide (n ≤ hi)
def intA (n : Int) : AV := .v (.int .i64 n)
noncomputable def body69 : Code := ((Tryz.f69.body.bind firstLoop).getD .skip)
theorem loop69 {e : Exts} (lo hi : Int) (ns : List Int) (x : AV) (hx : SlOf 1 (ns.map intA) x) (hn : ns.length < 2 ^ 63) (H : Heap) (hH : H = ⟨[some (AObj.cells 0 0 120 1 false [intA lo, intA hi])], 0⟩) (K : Post) :
    ∀ m j : Nat, j + m = ns.length → (withinB lo hi (ns.drop j) = true → ∀ l, AtK K (.exit 0) ⟨24, l, []⟩ H) → (withinB lo hi (ns.drop j) = false → ∀ l, assoc 4 l = some (.v (.bool false)) → AtK K .ret ⟨24, l, []⟩ H) →
    Lp (Cx e) 69 none [0, 1, 2, 4, 7, 8, 9] body69 ⟨24, [(0, .agg [intA lo, intA hi]), (1, x), (2, .ptr 0 0 0), (4, .v (.bool false)), (7, x), (8, intA ns.length), (9, intA j)], []⟩ H K := by
  intro m
  induction m with
  | zero =>
    intro j hj h1 h2
    rw [Lp_step]
    generalize hK : loopK (Cx e) 69 none [0, 1, 2, 4, 7, 8, 9] body69 H.size K = KK
    unfold body69
    simp -implicitDefEqProofs only [Tryz.f69, firstLoop, Option.orElse_some, Option.orElse_none, Option.getD_some, intA, go_sem, repeatCells, splice, chunk, bsFin, ne_eq, not_true_eq_false, not_false_eq_true, List.headD_cons, Bool.false_eq_true, Nat.le_refl, Nat.zero_mul, Nat.one_mul, Nat.mul_one, assoc_setI, assoc_keep, ↓reduceIte, Nat.reduceEqDiff, Nat.reduceLT, Nat.reduceLeDiff, Nat.reduceAdd, Nat.reduceSub, Nat.reduceMul, decide_true, decide_false, Bool.not_true, Bool.not_false, List.mem_cons, List.not_mem_nil, true_or, or_true, false_or, or_false, and_true, true_and, and_self, List.getElem?_cons_succ, List.getElem?_cons_zero, Option.bind_some, Option.map_some, Option.map_none, List.map_cons, List.map_nil, List.length_cons, List.length_nil, List.filterMap_cons, List.filterMap_nil, List.cons_append, List.nil_append, List.append_nil, Nat.zero_add, Nat.add_zero, List.take_succ_cons, List.take_zero, List.take_nil, List.drop_succ_cons, List.drop_zero, List.drop_nil, List.all_cons, List.all_nil, Bool.and_true, Bool.true_and, Bool.false_and, Bool.and_false, reduceCtorEq, beq_iff_eq, beq_self_eq_true]
    obtain rfl : j = ns.length := by omega
    simp -implicitDefEqProofs only [go_sem, repeatCells, splice, chunk, bsFin, ne_eq, not_true_eq_false, not_false_eq_true, List.headD_cons, Bool.false_eq_true, Nat.le_refl, Nat.zero_mul, Nat.one_mul, Nat.mul_one, assoc_setI, assoc_keep, ↓reduceIte, Nat.reduceEqDiff, Nat.reduceLT, Nat.reduceLeDiff, Nat.reduceAdd, Nat.reduceSub, Nat.reduceMul, decide_true, decide_false, Bool.not_true, Bool.not_false, List.mem_cons, List.not_mem_nil, true_or, or_true, false_or, or_false, and_true, true_and, and_self, List.getElem?_cons_succ, List.getElem?_cons_zero, Option.bind_some, Option.map_some, Option.map_none, List.map_cons, List.map_nil, List.length_cons, List.length_nil, List.filterMap_cons, List.filterMap_nil, List.cons_append, List.nil_append, List.append_nil, Nat.zero_add, Nat.add_zero, List.take_succ_cons, List.take_zero, List.take_nil, List.drop_succ_cons, List.drop_zero, List.drop_nil, List.all_cons, List.all_nil, Bool.and_true, Bool.true_and, Bool.false_and, Bool.and_false, reduceCtorEq, beq_iff_eq, beq_self_eq_true, Int.lt_irrefl]
    subst hK
    simp -implicitDefEqProofs only [go_sem, repeatCells, splice, chunk, bsFin, ne_eq, not_true_eq_false, not_false_eq_true, List.headD_cons, Bool.false_eq_true, Nat.le_refl, Nat.zero_mul, Nat.one_mul, Nat.mul_one, assoc_setI, assoc_keep, ↓reduceIte, Nat.reduceEqDiff, Nat.reduceLT, Nat.reduceLeDiff, Nat.reduceAdd, Nat.reduceSub, Nat.reduceMul, decide_true, decide_false, Bool.not_true, Bool.not_false, List.mem_cons, List.not_mem_nil, true_or, or_true, false_or, or_false, and_true, true_and, and_self, List.getElem?_cons_succ, List.getElem?_cons_zero, Option.bind_some, Option.map_some, Option.map_none, List.map_cons, List.map_nil, List.length_cons, List.length_nil, List.filterMap_cons, List.filterMap_nil, List.cons_append, List.nil_append, List.append_nil, Nat.zero_add, Nat.add_zero, List.take_succ_cons, List.take_zero, List.take_nil, List.drop_succ_cons, List.drop_zero, List.drop_nil, List.all_cons, List.all_nil, Bool.and_true, Bool.true_and, Bool.false_and, Bool.and_false, reduceCtorEq, beq_iff_eq, beq_self_eq_true]
    exact h1 (by simp [withinB]) _
  | succ m ih =>
    intro j hj h1 h2
    rw [Lp_step]
    generalize hK : loopK (Cx e) 69 none [0, 1, 2, 4, 7, 8, 9] body69 H.size K = KK
    unfold body69
    have hlt : (j : Int) < (ns.length : Int) := by omega
    have hy : (ns.map intA)[j]? = some (intA ns[j]) := by rw [List.getElem?_map, List.getElem?_eq_getElem (by omega)]; rfl
    have hw := wrap_succ j (by omega)
    have hd : withinB lo hi (ns.drop j) = ((decide (lo ≤ ns[j]) && decide (ns[j] ≤ hi)) && withinB lo hi (ns.drop (j + 1))) := by
      rw [List.drop_eq_getElem_cons (by omega : j < ns.length)]; rfl
    simp only [Tryz.f69, firstLoop, Option.orElse_some, Option.orElse_none, Option.getD_some, Option.bind_some]
    by_cases c1 : ns[j] < lo
    · simp -implicitDefEqProofs only [go_sem, repeatCells, splice, chunk, bsFin, ne_eq, not_true_eq_false, not_false_eq_true, List.headD_cons, Bool.false_eq_true, Nat.le_refl, Nat.zero_mul, Nat.one_mul, Nat.mul_one, assoc_setI, assoc_keep, ↓reduceIte, Nat.reduceEqDiff, Nat.reduceLT, Nat.reduceLeDiff, Nat.reduceAdd, Nat.reduceSub, Nat.reduceMul, decide_true, decide_false, Bool.not_true, Bool.not_false, List.mem_cons, List.not_mem_nil, true_or, or_true, false_or, or_false, and_true, true_and, and_self, List.getElem?_cons_succ, List.getElem?_cons_zero, Option.bind_some, Option.map_some, Option.map_none, List.map_cons, List.map_nil, List.length_cons, List.length_nil, List.filterMap_cons, List.filterMap_nil, List.cons_append, List.nil_append, List.append_nil, Nat.zero_add, Nat.add_zero, List.take_succ_cons, List.take_zero, List.take_nil, List.drop_succ_cons, List.drop_zero, List.drop_nil, List.all_cons, List.all_nil, Bool.and_true, Bool.true_and, Bool.false_and, Bool.and_false, reduceCtorEq, beq_iff_eq, beq_self_eq_true, hH, intA, hlt, hw, hx.idx hy, c1]
      subst hK
      simp -implicitDefEqProofs only [go_sem, repeatCells, splice, chunk, bsFin, ne_eq, not_true_eq_false, not_false_eq_true, List.headD_cons, Bool.false_eq_true, Nat.le_refl, Nat.zero_mul, Nat.one_mul, Nat.mul_one, assoc_setI, assoc_keep, ↓reduceIte, Nat.reduceEqDiff, Nat.reduceLT, Nat.reduceLeDiff, Nat.reduceAdd, Nat.reduceSub, Nat.reduceMul, decide_true, decide_false, Bool.not_true, Bool.not_false, List.mem_cons, List.not_mem_nil, true_or, or_true, false_or, or_false, and_true, true_and, and_self, List.getElem?_cons_succ, List.getElem?_cons_zero, Option.bind_some, Option.map_some, Option.map_none, List.map_cons, List.map_nil, List.length_cons, List.length_nil, List.filterMap_cons, List.filterMap_nil, List.cons_append, List.nil_append, List.append_nil, Nat.zero_add, Nat.add_zero, List.take_succ_cons, List.take_zero, List.take_nil, List.drop_succ_cons, List.drop_zero, List.drop_nil, List.all_cons, List.all_nil, Bool.and_true, Bool.true_and, Bool.false_and, Bool.and_false, reduceCtorEq, beq_iff_eq, beq_self_eq_true]
      rw [← intA, ← intA, ← hH]
      exact h2 (by rw [hd]; simp; omega) _ rfl
    · by_cases c2 : hi < ns[j]
      · simp -implicitDefEqProofs only [go_sem, repeatCells, splice, chunk, bsFin, ne_eq, not_true_eq_false, not_false_eq_true, List.headD_cons, Bool.false_eq_true, Nat.le_refl, Nat.zero_mul, Nat.one_mul, Nat.mul_one, assoc_setI, assoc_keep, ↓reduceIte, Nat.reduceEqDiff, Nat.reduceLT, Nat.reduceLeDiff, Nat.reduceAdd, Nat.reduceSub, Nat.reduceMul, decide_true, decide_false, Bool.not_true, Bool.not_false, List.mem_cons, List.not_mem_nil, true_or, or_true, false_or, or_false, and_true, true_and, and_self, List.getElem?_cons_succ, List.getElem?_cons_zero, Option.bind_some, Option.map_some, Option.map_none, List.map_cons, List.map_nil, List.length_cons, List.length_nil, List.filterMap_cons, List.filterMap_nil, List.cons_append, List.nil_append, List.append_nil, Nat.zero_add, Nat.add_zero, List.take_succ_cons, List.take_zero, List.take_nil, List.drop_succ_cons, List.drop_zero, List.drop_nil, List.all_cons, List.all_nil, Bool.and_true, Bool.true_and, Bool.false_and, Bool.and_false, reduceCtorEq, beq_iff_eq, beq_self_eq_true, hH, intA, hlt, hw, hx.idx hy, c1, c2]
        subst hK
        simp -implicitDefEqProofs only [go_sem, repeatCells, splice, chunk, bsFin, ne_eq, not_true_eq_false, not_false_eq_true, List.headD_cons, Bool.false_eq_true, Nat.le_refl, Nat.zero_mul, Nat.one_mul, Nat.mul_one, assoc_setI, assoc_keep, ↓reduceIte, Nat.reduceEqDiff, Nat.reduceLT, Nat.reduceLeDiff, Nat.reduceAdd, Nat.reduceSub, Nat.reduceMul, decide_true, decide_false, Bool.not_true, Bool.not_false, List.mem_cons, List.not_mem_nil, true_or, or_true, false_or, or_false, and_true, true_and, and_self, List.getElem?_cons_succ, List.getElem?_cons_zero, Option.bind_some, Option.map_some, Option.map_none, List.map_cons, List.map_nil, List.length_cons, List.length_nil, List.filterMap_cons, List.filterMap_nil, List.cons_append, List.nil_append, List.append_nil, Nat.zero_add, Nat.add_zero, List.take_succ_cons, List.take_zero, List.take_nil, List.drop_succ_cons, List.drop_zero, List.drop_nil, List.all_cons, List.all_nil, Bool.and_true, Bool.true_and, Bool.false_and, Bool.and_false, reduceCtorEq, beq_iff_eq, beq_self_eq_true]
        rw [← intA, ← intA, ← hH]
        exact h2 (by rw [hd]; simp; omega) _ rfl
      · simp -implicitDefEqProofs only [go_sem, repeatCells, splice, chunk, bsFin, ne_eq, not_true_eq_false, not_false_eq_true, List.headD_cons, Bool.false_eq_true, Nat.le_refl, Nat.zero_mul, Nat.one_mul, Nat.mul_one, assoc_setI, assoc_keep, ↓reduceIte, Nat.reduceEqDiff, Nat.reduceLT, Nat.reduceLeDiff, Nat.reduceAdd, Nat.reduceSub, Nat.reduceMul, decide_true, decide_false, Bool.not_true, Bool.not_false, List.mem_cons, List.not_mem_nil, true_or, or_true, false_or, or_false, and_true, true_and, and_self, List.getElem?_cons_succ, List.getElem?_cons_zero, Option.bind_some, Option.map_some, Option.map_none, List.map_cons, List.map_nil, List.length_cons, List.length_nil, List.filterMap_cons, List.filterMap_nil, List.cons_append, List.nil_append, List.append_nil, Nat.zero_add, Nat.add_zero, List.take_succ_cons, List.take_zero, List.take_nil, List.drop_succ_cons, List.drop_zero, List.drop_nil, List.all_cons, List.all_nil, Bool.and_true, Bool.true_and, Bool.false_and, Bool.and_false, reduceCtorEq, beq_iff_eq, beq_self_eq_true, hH, intA, hlt, hw, hx.idx hy, c1, c2]
        subst hK
        simp -implicitDefEqProofs only [go_sem, repeatCells, splice, chunk, bsFin, ne_eq, not_true_eq_false, not_false_eq_true, List.headD_cons, Bool.false_eq_true, Nat.le_refl, Nat.zero_mul, Nat.one_mul, Nat.mul_one, assoc_setI, assoc_keep, ↓reduceIte, Nat.reduceEqDiff, Nat.reduceLT, Nat.reduceLeDiff, Nat.reduceAdd, Nat.reduceSub, Nat.reduceMul, decide_true, decide_false, Bool.not_true, Bool.not_false, List.mem_cons, List.not_mem_nil, true_or, or_true, false_or, or_false, and_true, true_and, and_self, List.getElem?_cons_succ, List.getElem?_cons_zero, Option.bind_some, Option.map_some, Option.map_none, List.map_cons, List.map_nil, List.length_cons, List.length_nil, List.filterMap_cons, List.filterMap_nil, List.cons_append, List.nil_append, List.append_nil, Nat.zero_add, Nat.add_zero, List.take_succ_cons, List.take_zero, List.take_nil, List.drop_succ_cons, List.drop_zero, List.drop_nil, List.all_cons, List.all_nil, Bool.and_true, Bool.true_and, Bool.false_and, Bool.and_false, reduceCtorEq, beq_iff_eq, beq_self_eq_true, hH]
        have hd' : withinB lo hi (ns.drop j) = withinB lo hi (ns.drop (j + 1)) := by rw [hd]; simp; omega
        rw [hd'] at h1 h2
        have := ih (j + 1) (by omega) h1 h2
        rw [hH] at this
        exact this
set_option maxHeartbeats 1000000 in
theorem ans69 {e : Exts} (lo hi : Int) (ns : List Int) (hn : ns.length < 2 ^ 63) (x : AV) (hx : SlOf 1 (ns.map intA) x) : Ans (Cx e) 69 [.agg [intA lo, intA hi], x] (.v (.bool (withinB lo hi ns))) := by
  unfold Ans
  rw [fn_step (fn_69 e) (show Tryz.f69.body = some _ from rfl)]
  simp -implicitDefEqProofs only [Tryz.f69, intA, go_sem, repeatCells, splice, chunk, bsFin, ne_eq, not_true_eq_false, not_false_eq_true, List.headD_cons, Bool.false_eq_true, Nat.le_refl, Nat.zero_mul, Nat.one_mul, Nat.mul_one, assoc_setI, assoc_keep, ↓reduceIte, Nat.reduceEqDiff, Nat.reduceLT, Nat.reduceLeDiff, Nat.reduceAdd, Nat.reduceSub, Nat.reduceMul, decide_true, decide_false, Bool.not_true, Bool.not_false, List.mem_cons, List.not_mem_nil, true_or, or_true, false_or, or_false, and_true, true_and, and_self, List.getElem?_cons_succ, List.getElem?_cons_zero, Option.bind_some, Option.map_some, Option.map_none, List.map_cons, List.map_nil, List.length_cons, List.length_nil, List.filterMap_cons, List.filterMap_nil, List.cons_append, List.nil_append, List.append_nil, Nat.zero_add, Nat.add_zero, List.take_succ_cons, List.take_zero, List.take_nil, List.drop_succ_cons, List.drop_zero, List.drop_nil, List.all_cons, List.all_nil, Bool.and_true, Bool.true_and, Bool.false_and, Bool.and_false, reduceCtorEq, beq_iff_eq, beq_self_eq_true, hx.len, List.length_map]
  refine loop69 lo hi ns x hx hn _ rfl _ ns.length 0 (by omega) ?_ ?_
  · intro h l
    simp -implicitDefEqProofs only [go_sem, repeatCells, splice, chunk, bsFin, ne_eq, not_true_eq_false, not_false_eq_true, List.headD_cons, Bool.false_eq_true, Nat.le_refl, Nat.zero_mul, Nat.one_mul, Nat.mul_one, assoc_setI, assoc_keep, ↓reduceIte, Nat.reduceEqDiff, Nat.reduceLT, Nat.reduceLeDiff, Nat.reduceAdd, Nat.reduceSub, Nat.reduceMul, decide_true, decide_false, Bool.not_true, Bool.not_false, List.mem_cons, List.not_mem_nil, true_or, or_true, false_or, or_false, and_true, true_and, and_self, List.getElem?_cons_succ, List.getElem?_cons_zero, Option.bind_some, Option.map_some, Option.map_none, List.map_cons, List.map_nil, List.length_cons, List.length_nil, List.filterMap_cons, List.filterMap_nil, List.cons_append, List.nil_append, List.append_nil, Nat.zero_add, Nat.add_zero, List.take_succ_cons, List.take_zero, List.take_nil, List.drop_succ_cons, List.drop_zero, List.drop_nil, List.all_cons, List.all_nil, Bool.and_true, Bool.true_and, Bool.false_and, Bool.and_false, reduceCtorEq, beq_iff_eq, beq_self_eq_true]
    rw [List.drop_zero] at h
    rw [h]
  · intro h l hl
    rw [List.drop_zero] at h
    simp -implicitDefEqProofs only [go_sem, repeatCells, splice, chunk, bsFin, ne_eq, not_true_eq_false, not_false_eq_true, List.headD_cons, Bool.false_eq_true, Nat.le_refl, Nat.zero_mul, Nat.one_mul, Nat.mul_one, assoc_setI, assoc_keep, ↓reduceIte, Nat.reduceEqDiff, Nat.reduceLT, Nat.reduceLeDiff, Nat.reduceAdd, Nat.reduceSub, Nat.reduceMul, decide_true, decide_false, Bool.not_true, Bool.not_false, List.mem_cons, List.not_mem_nil, true_or, or_true, false_or, or_false, and_true, true_and, and_self, List.getElem?_cons_succ, List.getElem?_cons_zero, Option.bind_some, Option.map_some, Option.map_none, List.map_cons, List.map_nil, List.length_cons, List.length_nil, List.filterMap_cons, List.filterMap_nil, List.cons_append, List.nil_append, List.append_nil, Nat.zero_add, Nat.add_zero, List.take_succ_cons, List.take_zero, List.take_nil, List.drop_succ_cons, List.drop_zero, List.drop_nil, List.all_cons, List.all_nil, Bool.and_true, Bool.true_and, Bool.false_and, Bool.and_false, reduceCtorEq, beq_iff_eq, beq_self_eq_true, hl]
    rw [h]
/-! ### isWord -/
def letter (c : UInt8) : Bool := decide (97 ≤ (c.toNat : Int)) && decide ((c.toNat : Int) ≤ 122)
def lettersB (s : ByteArray) (j : Nat) : Bool := (s.data.toList.drop j).all letter
def wordB (s : ByteArray) : Bool := withinB 1 12 [(s.size : Int)] && lettersB s 0
noncomputable def body49 : Code := ((Tryz.f49.body.bind firstLoop).getD .skip)
theorem strAt_lt (s : ByteArray) (j : Nat) (h : j < s.size) : strAt s j = some (s.data.toList[j]'(by simpa using h)) := by
  unfold strAt; exact List.getElem?_eq_getElem _
set_option maxHeartbeats 1000000 in
theorem loop49 {e : Exts} (s : ByteArray) (hn : s.size < 2 ^ 63) (H : Heap) (K : Post) :
    ∀ m j : Nat, j + m = s.size → (lettersB s j = true → ∀ l, AtK K (.exit 0) ⟨26, l, []⟩ H) → (lettersB s j = false → ∀ l, assoc 2 l = some (.v (.bool false)) → AtK K .ret ⟨26, l, []⟩ H) →
    Lp (Cx e) 49 none [0, 2, 9, 11, 12] body49 ⟨26, [(0, .v (.string s)), (2, .v (.bool false)), (9, .v (.bool false)), (11, intA s.size), (12, intA j)], []⟩ H K := by
  intro m
  induction m with
  | zero =>
    intro j hj h1 h2
    rw [Lp_step]
    generalize hK : loopK (Cx e) 49 none [0, 2, 9, 11, 12] body49 H.size K = KK
    unfold body49
    obtain rfl : j = s.size := by omega
    simp -implicitDefEqProofs only [Tryz.f49, firstLoop, Option.orElse_some, Option.orElse_none, Option.getD_some, intA, go_sem, repeatCells, splice, chunk, bsFin, ne_eq, not_true_eq_false, not_false_eq_true, List.headD_cons, Bool.false_eq_true, Nat.le_refl, Nat.zero_mul, Nat.one_mul, Nat.mul_one, assoc_setI, assoc_keep, ↓reduceIte, Nat.reduceEqDiff, Nat.reduceLT, Nat.reduceLeDiff, Nat.reduceAdd, Nat.reduceSub, Nat.reduceMul, decide_true, decide_false, Bool.not_true, Bool.not_false, List.mem_cons, List.not_mem_nil, true_or, or_true, false_or, or_false, and_true, true_and, and_self, List.getElem?_cons_succ, List.getElem?_cons_zero, Option.bind_some, Option.map_some, Option.map_none, List.map_cons, List.map_nil, List.length_cons, List.length_nil, List.filterMap_cons, List.filterMap_nil, List.cons_append, List.nil_append, List.append_nil, Nat.zero_add, Nat.add_zero, List.take_succ_cons, List.take_zero, List.take_nil, List.drop_succ_cons, List.drop_zero, List.drop_nil, List.all_cons, List.all_nil, Bool.and_true, Bool.true_and, Bool.false_and, Bool.and_false, reduceCtorEq, beq_iff_eq, beq_self_eq_true, Int.lt_irrefl]
    subst hK
    simp -implicitDefEqProofs only [go_sem, repeatCells, splice, chunk, bsFin, ne_eq, not_true_eq_false, not_false_eq_true, List.headD_cons, Bool.false_eq_true, Nat.le_refl, Nat.zero_mul, Nat.one_mul, Nat.mul_one, assoc_setI, assoc_keep, ↓reduceIte, Nat.reduceEqDiff, Nat.reduceLT, Nat.reduceLeDiff, Nat.reduceAdd, Nat.reduceSub, Nat.reduceMul, decide_true, decide_false, Bool.not_true, Bool.not_false, List.mem_cons, List.not_mem_nil, true_or, or_true, false_or, or_false, and_true, true_and, and_self, List.getElem?_cons_succ, List.getElem?_cons_zero, Option.bind_some, Option.map_some, Option.map_none, List.map_cons, List.map_nil, List.length_cons, List.length_nil, List.filterMap_cons, List.filterMap_nil, List.cons_append, List.nil_append, List.append_nil, Nat.zero_add, Nat.add_zero, List.take_succ_cons, List.take_zero, List.take_nil, List.drop_succ_cons, List.drop_zero, List.drop_nil, List.all_cons, List.all_nil, Bool.and_true, Bool.true_and, Bool.false_and, Bool.and_false, reduceCtorEq, beq_iff_eq, beq_self_eq_true]
    exact h1 (by unfold lettersB; rw [List.drop_of_length_le (by simp)]; rfl) _
  | succ m ih =>
    intro j hj h1 h2
    rw [Lp_step]
    generalize hK : loopK (Cx e) 49 none [0, 2, 9, 11, 12] body49 H.size K = KK
    unfold body49
    have hlt : (j : Int) < (s.size : Int) := by omega
    have hy := strAt_lt s j (by omega)
    have hjl : j < s.data.toList.length := by simp; omega
    have hw := wrap_succ j (by omega)
    have hj0 : (0 : Int) ≤ (j : Int) := by omega
    generalize hc : s.data.toList[j] = c at hy
    have hd : lettersB s j = (letter c && lettersB s (j + 1)) := by
      unfold lettersB
      rw [List.drop_eq_getElem_cons (by simp; omega), ← hc]; rfl
    simp only [Tryz.f49, firstLoop, Option.orElse_some, Option.orElse_none, Option.getD_some, Option.bind_some]
    by_cases c1 : (c.toNat : Int) < 97
    · simp -implicitDefEqProofs only [go_sem, repeatCells, splice, chunk, bsFin, ne_eq, not_true_eq_false, not_false_eq_true, List.headD_cons, Bool.false_eq_true, Nat.le_refl, Nat.zero_mul, Nat.one_mul, Nat.mul_one, assoc_setI, assoc_keep, ↓reduceIte, Nat.reduceEqDiff, Nat.reduceLT, Nat.reduceLeDiff, Nat.reduceAdd, Nat.reduceSub, Nat.reduceMul, decide_true, decide_false, Bool.not_true, Bool.not_false, List.mem_cons, List.not_mem_nil, true_or, or_true, false_or, or_false, and_true, true_and, and_self, List.getElem?_cons_succ, List.getElem?_cons_zero, Option.bind_some, Option.map_some, Option.map_none, List.map_cons, List.map_nil, List.length_cons, List.length_nil, List.filterMap_cons, List.filterMap_nil, List.cons_append, List.nil_append, List.append_nil, Nat.zero_add, Nat.add_zero, List.take_succ_cons, List.take_zero, List.take_nil, List.drop_succ_cons, List.drop_zero, List.drop_nil, List.all_cons, List.all_nil, Bool.and_true, Bool.true_and, Bool.false_and, Bool.and_false, reduceCtorEq, beq_iff_eq, beq_self_eq_true, intA, hlt, hw, hy, c1, hj0, Int.toNat_natCast]
      subst hK
      simp -implicitDefEqProofs only [go_sem, repeatCells, splice, chunk, bsFin, ne_eq, not_true_eq_false, not_false_eq_true, List.headD_cons, Bool.false_eq_true, Nat.le_refl, Nat.zero_mul, Nat.one_mul, Nat.mul_one, assoc_setI, assoc_keep, ↓reduceIte, Nat.reduceEqDiff, Nat.reduceLT, Nat.reduceLeDiff, Nat.reduceAdd, Nat.reduceSub, Nat.reduceMul, decide_true, decide_false, Bool.not_true, Bool.not_false, List.mem_cons, List.not_mem_nil, true_or, or_true, false_or, or_false, and_true, true_and, and_self, List.getElem?_cons_succ, List.getElem?_cons_zero, Option.bind_some, Option.map_some, Option.map_none, List.map_cons, List.map_nil, List.length_cons, List.length_nil, List.filterMap_cons, List.filterMap_nil, List.cons_append, List.nil_append, List.append_nil, Nat.zero_add, Nat.add_zero, List.take_succ_cons, List.take_zero, List.take_nil, List.drop_succ_cons, List.drop_zero, List.drop_nil, List.all_cons, List.all_nil, Bool.and_true, Bool.true_and, Bool.false_and, Bool.and_false, reduceCtorEq, beq_iff_eq, beq_self_eq_true]
      exact h2 (by rw [hd]; simp [letter]; omega) _ rfl
    · by_cases c2 : 122 < (c.toNat : Int)
      · simp -implicitDefEqProofs only [go_sem, repeatCells, splice, chunk, bsFin, ne_eq, not_true_eq_false, not_false_eq_true, List.headD_cons, Bool.false_eq_true, Nat.le_refl, Nat.zero_mul, Nat.one_mul, Nat.mul_one, assoc_setI, assoc_keep, ↓reduceIte, Nat.reduceEqDiff, Nat.reduceLT, Nat.reduceLeDiff, Nat.reduceAdd, Nat.reduceSub, Nat.reduceMul, decide_true, decide_false, Bool.not_true, Bool.not_false, List.mem_cons, List.not_mem_nil, true_or, or_true, false_or, or_false, and_true, true_and, and_self, List.getElem?_cons_succ, List.getElem?_cons_zero, Option.bind_some, Option.map_some, Option.map_none, List.map_cons, List.map_nil, List.length_cons, List.length_nil, List.filterMap_cons, List.filterMap_nil, List.cons_append, List.nil_append, List.append_nil, Nat.zero_add, Nat.add_zero, List.take_succ_cons, List.take_zero, List.take_nil, List.drop_succ_cons, List.drop_zero, List.drop_nil, List.all_cons, List.all_nil, Bool.and_true, Bool.true_and, Bool.false_and, Bool.and_false, reduceCtorEq, beq_iff_eq, beq_self_eq_true, intA, hlt, hw, hy, c1, c2, hj0, Int.toNat_natCast]
        subst hK
        simp -implicitDefEqProofs only [go_sem, repeatCells, splice, chunk, bsFin, ne_eq, not_true_eq_false, not_false_eq_true, List.headD_cons, Bool.false_eq_true, Nat.le_refl, Nat.zero_mul, Nat.one_mul, Nat.mul_one, assoc_setI, assoc_keep, ↓reduceIte, Nat.reduceEqDiff, Nat.reduceLT, Nat.reduceLeDiff, Nat.reduceAdd, Nat.reduceSub, Nat.reduceMul, decide_true, decide_false, Bool.not_true, Bool.not_false, List.mem_cons, List.not_mem_nil, true_or, or_true, false_or, or_false, and_true, true_and, and_self, List.getElem?_cons_succ, List.getElem?_cons_zero, Option.bind_some, Option.map_some, Option.map_none, List.map_cons, List.map_nil, List.length_cons, List.length_nil, List.filterMap_cons, List.filterMap_nil, List.cons_append, List.nil_append, List.append_nil, Nat.zero_add, Nat.add_zero, List.take_succ_cons, List.take_zero, List.take_nil, List.drop_succ_cons, List.drop_zero, List.drop_nil, List.all_cons, List.all_nil, Bool.and_true, Bool.true_and, Bool.false_and, Bool.and_false, reduceCtorEq, beq_iff_eq, beq_self_eq_true]
        exact h2 (by rw [hd]; simp [letter]; omega) _ rfl
      · simp -implicitDefEqProofs only [go_sem, repeatCells, splice, chunk, bsFin, ne_eq, not_true_eq_false, not_false_eq_true, List.headD_cons, Bool.false_eq_true, Nat.le_refl, Nat.zero_mul, Nat.one_mul, Nat.mul_one, assoc_setI, assoc_keep, ↓reduceIte, Nat.reduceEqDiff, Nat.reduceLT, Nat.reduceLeDiff, Nat.reduceAdd, Nat.reduceSub, Nat.reduceMul, decide_true, decide_false, Bool.not_true, Bool.not_false, List.mem_cons, List.not_mem_nil, true_or, or_true, false_or, or_false, and_true, true_and, and_self, List.getElem?_cons_succ, List.getElem?_cons_zero, Option.bind_some, Option.map_some, Option.map_none, List.map_cons, List.map_nil, List.length_cons, List.length_nil, List.filterMap_cons, List.filterMap_nil, List.cons_append, List.nil_append, List.append_nil, Nat.zero_add, Nat.add_zero, List.take_succ_cons, List.take_zero, List.take_nil, List.drop_succ_cons, List.drop_zero, List.drop_nil, List.all_cons, List.all_nil, Bool.and_true, Bool.true_and, Bool.false_and, Bool.and_false, reduceCtorEq, beq_iff_eq, beq_self_eq_true, intA, hlt, hw, hy, c1, c2, hj0, Int.toNat_natCast]
        subst hK
        simp -implicitDefEqProofs only [go_sem, repeatCells, splice, chunk, bsFin, ne_eq, not_true_eq_false, not_false_eq_true, List.headD_cons, Bool.false_eq_true, Nat.le_refl, Nat.zero_mul, Nat.one_mul, Nat.mul_one, assoc_setI, assoc_keep, ↓reduceIte, Nat.reduceEqDiff, Nat.reduceLT, Nat.reduceLeDiff, Nat.reduceAdd, Nat.reduceSub, Nat.reduceMul, decide_true, decide_false, Bool.not_true, Bool.not_false, List.mem_cons, List.not_mem_nil, true_or, or_true, false_or, or_false, and_true, true_and, and_self, List.getElem?_cons_succ, List.getElem?_cons_zero, Option.bind_some, Option.map_some, Option.map_none, List.map_cons, List.map_nil, List.length_cons, List.length_nil, List.filterMap_cons, List.filterMap_nil, List.cons_append, List.nil_append, List.append_nil, Nat.zero_add, Nat.add_zero, List.take_succ_cons, List.take_zero, List.take_nil, List.drop_succ_cons, List.drop_zero, List.drop_nil, List.all_cons, List.all_nil, Bool.and_true, Bool.true_and, Bool.false_and, Bool.and_false, reduceCtorEq, beq_iff_eq, beq_self_eq_true]
        have hd' : lettersB s j = lettersB s (j + 1) := by rw [hd]; simp [letter]; omega
        rw [hd'] at h1 h2
        exact ih (j + 1) (by omega) h1 h2
theorem call69 {e : Exts} (he : Quiet e) (lo hi : Int) (ns : List Int) (hn : ns.length < 2 ^ 63) (x : AV) (hx : SlOf 1 (ns.map intA) x) (me : FuncId) (d : Option Tmp) (H : Heap) : callA (Cx e) (lim (Cx e)) me 69 d [.agg [intA lo, intA hi], x] H = some (.v (.bool (withinB lo hi ns)), H) :=
  (ans69 lo hi ns hn x hx).call (ext_69 he) (pure_69 _ _ _) (by simp only [boundL_cons, bound_agg, intA, bound_v, boundL_nil, hx.bound]; rfl) H
set_option maxHeartbeats 1000000 in
theorem ans49 {e : Exts} (he : Quiet e) (s : ByteArray) (hn : s.size < 2 ^ 63) : Ans (Cx e) 49 [.v (.string s)] (.v (.bool (wordB s))) := by
  unfold Ans
  rw [fn_step (fn_49 e) (show Tryz.f49.body = some _ from rfl)]
  have hc : callA (Cx e) (lim (Cx e)) 49 69 (some 8) [.agg [.v (.int .i64 1), .v (.int .i64 12)], .vs 1 [.v (.int .i64 s.size)] (some 1)] { objs := [], lock := 0 } = some (.v (.bool (withinB 1 12 [(s.size : Int)])), { objs := [], lock := 0 }) :=
    call69 he 1 12 [(s.size : Int)] (by simp) _ (Or.inr ⟨_, rfl⟩) _ _ _
  by_cases hw : withinB 1 12 [(s.size : Int)] = true
  · rw [hw] at hc
    simp -implicitDefEqProofs only [Tryz.f49, go_sem, repeatCells, splice, chunk, bsFin, ne_eq, not_true_eq_false, not_false_eq_true, List.headD_cons, Bool.false_eq_true, Nat.le_refl, Nat.zero_mul, Nat.one_mul, Nat.mul_one, assoc_setI, assoc_keep, ↓reduceIte, Nat.reduceEqDiff, Nat.reduceLT, Nat.reduceLeDiff, Nat.reduceAdd, Nat.reduceSub, Nat.reduceMul, decide_true, decide_false, Bool.not_true, Bool.not_false, List.mem_cons, List.not_mem_nil, true_or, or_true, false_or, or_false, and_true, true_and, and_self, List.getElem?_cons_succ, List.getElem?_cons_zero, Option.bind_some, Option.map_some, Option.map_none, List.map_cons, List.map_nil, List.length_cons, List.length_nil, List.filterMap_cons, List.filterMap_nil, List.cons_append, List.nil_append, List.append_nil, Nat.zero_add, Nat.add_zero, List.take_succ_cons, List.take_zero, List.take_nil, List.drop_succ_cons, List.drop_zero, List.drop_nil, List.all_cons, List.all_nil, Bool.and_true, Bool.true_and, Bool.false_and, Bool.and_false, reduceCtorEq, beq_iff_eq, beq_self_eq_true, hc]
    refine loop49 s hn _ _ s.size 0 (by omega) ?_ ?_
    · intro h l
      simp -implicitDefEqProofs only [go_sem, repeatCells, splice, chunk, bsFin, ne_eq, not_true_eq_false, not_false_eq_true, List.headD_cons, Bool.false_eq_true, Nat.le_refl, Nat.zero_mul, Nat.one_mul, Nat.mul_one, assoc_setI, assoc_keep, ↓reduceIte, Nat.reduceEqDiff, Nat.reduceLT, Nat.reduceLeDiff, Nat.reduceAdd, Nat.reduceSub, Nat.reduceMul, decide_true, decide_false, Bool.not_true, Bool.not_false, List.mem_cons, List.not_mem_nil, true_or, or_true, false_or, or_false, and_true, true_and, and_self, List.getElem?_cons_succ, List.getElem?_cons_zero, Option.bind_some, Option.map_some, Option.map_none, List.map_cons, List.map_nil, List.length_cons, List.length_nil, List.filterMap_cons, List.filterMap_nil, List.cons_append, List.nil_append, List.append_nil, Nat.zero_add, Nat.add_zero, List.take_succ_cons, List.take_zero, List.take_nil, List.drop_succ_cons, List.drop_zero, List.drop_nil, List.all_cons, List.all_nil, Bool.and_true, Bool.true_and, Bool.false_and, Bool.and_false, reduceCtorEq, beq_iff_eq, beq_self_eq_true]
      unfold wordB; rw [hw, h]; rfl
    · intro h l hl
      simp -implicitDefEqProofs only [go_sem, repeatCells, splice, chunk, bsFin, ne_eq, not_true_eq_false, not_false_eq_true, List.headD_cons, Bool.false_eq_true, Nat.le_refl, Nat.zero_mul, Nat.one_mul, Nat.mul_one, assoc_setI, assoc_keep, ↓reduceIte, Nat.reduceEqDiff, Nat.reduceLT, Nat.reduceLeDiff, Nat.reduceAdd, Nat.reduceSub, Nat.reduceMul, decide_true, decide_false, Bool.not_true, Bool.not_false, List.mem_cons, List.not_mem_nil, true_or, or_true, false_or, or_false, and_true, true_and, and_self, List.getElem?_cons_succ, List.getElem?_cons_zero, Option.bind_some, Option.map_some, Option.map_none, List.map_cons, List.map_nil, List.length_cons, List.length_nil, List.filterMap_cons, List.filterMap_nil, List.cons_append, List.nil_append, List.append_nil, Nat.zero_add, Nat.add_zero, List.take_succ_cons, List.take_zero, List.take_nil, List.drop_succ_cons, List.drop_zero, List.drop_nil, List.all_cons, List.all_nil, Bool.and_true, Bool.true_and, Bool.false_and, Bool.and_false, reduceCtorEq, beq_iff_eq, beq_self_eq_true, hl]
      unfold wordB; rw [hw, h]; rfl
  · simp only [Bool.not_eq_true] at hw
    rw [hw] at hc
    simp -implicitDefEqProofs only [Tryz.f49, go_sem, repeatCells, splice, chunk, bsFin, ne_eq, not_true_eq_false, not_false_eq_true, List.headD_cons, Bool.false_eq_true, Nat.le_refl, Nat.zero_mul, Nat.one_mul, Nat.mul_one, assoc_setI, assoc_keep, ↓reduceIte, Nat.reduceEqDiff, Nat.reduceLT, Nat.reduceLeDiff, Nat.reduceAdd, Nat.reduceSub, Nat.reduceMul, decide_true, decide_false, Bool.not_true, Bool.not_false, List.mem_cons, List.not_mem_nil, true_or, or_true, false_or, or_false, and_true, true_and, and_self, List.getElem?_cons_succ, List.getElem?_cons_zero, Option.bind_some, Option.map_some, Option.map_none, List.map_cons, List.map_nil, List.length_cons, List.length_nil, List.filterMap_cons, List.filterMap_nil, List.cons_append, List.nil_append, List.append_nil, Nat.zero_add, Nat.add_zero, List.take_succ_cons, List.take_zero, List.take_nil, List.drop_succ_cons, List.drop_zero, List.drop_nil, List.all_cons, List.all_nil, Bool.and_true, Bool.true_and, Bool.false_and, Bool.and_false, reduceCtorEq, beq_iff_eq, beq_self_eq_true, hc]
    unfold wordB; rw [hw]; rfl
theorem call49 {e : Exts} (he : Quiet e) (s : ByteArray) (hn : s.size < 2 ^ 63) (me : FuncId) (d : Option Tmp) (H : Heap) : callA (Cx e) (lim (Cx e)) me 49 d [.v (.string s)] H = some (.v (.bool (wordB s)), H) :=
  (ans49 he s hn).call (ext_49 he) (pure_49 _ _ _) rfl H
end Go.Ev
namespace Go.Ev
open Go.Proofs
set_option maxRecDepth 100000
set_option linter.unusedSimpArgs false
/-- the n-th loop's body, in the order of the text -/
def loops : Code → List Code
  | .loop b => b :: loops b
  | .seq a b => loops a ++ loops b
  | .block _ a => loops a
  | .scope a => loops a
  | .cond _ a b => loops a ++ loops b
  | .rangeFunc _ _ _ b => loops b
  | _ => []
theorem range1 (lo hi n : Int) : withinB lo hi [n] = (decide (lo ≤ n) && decide (n ≤ hi)) := by simp [withinB]
set_option maxHeartbeats 1000000 in
theorem ans43 {e : Exts} (n lo hi : Int) : Ans (Cx e) 43 [intA n, intA lo, intA hi] (.v (.bool (withinB lo hi [n]))) := by
  unfold Ans
  rw [fn_step (fn_43 e) (show Tryz.f43.body = some _ from rfl), range1]
  by_cases h1 : lo ≤ n
  · simp -implicitDefEqProofs only [Tryz.f43, intA, go_sem, repeatCells, splice, chunk, bsFin, ne_eq, not_true_eq_false, not_false_eq_true, List.headD_cons, Bool.false_eq_true, Nat.le_refl, Nat.zero_mul, Nat.one_mul, Nat.mul_one, assoc_setI, assoc_keep, ↓reduceIte, Nat.reduceEqDiff, Nat.reduceLT, Nat.reduceLeDiff, Nat.reduceAdd, Nat.reduceSub, Nat.reduceMul, decide_true, decide_false, Bool.not_true, Bool.not_false, List.mem_cons, List.not_mem_nil, true_or, or_true, false_or, or_false, and_true, true_and, and_self, List.getElem?_cons_succ, List.getElem?_cons_zero, Option.bind_some, Option.map_some, Option.map_none, List.map_cons, List.map_nil, List.length_cons, List.length_nil, List.filterMap_cons, List.filterMap_nil, List.cons_append, List.nil_append, List.append_nil, Nat.zero_add, Nat.add_zero, List.take_succ_cons, List.take_zero, List.take_nil, List.drop_succ_cons, List.drop_zero, List.drop_nil, List.all_cons, List.all_nil, Bool.and_true, Bool.true_and, Bool.false_and, Bool.and_false, reduceCtorEq, beq_iff_eq, beq_self_eq_true, h1]
  · simp -implicitDefEqProofs only [Tryz.f43, intA, go_sem, repeatCells, splice, chunk, bsFin, ne_eq, not_true_eq_false, not_false_eq_true, List.headD_cons, Bool.false_eq_true, Nat.le_refl, Nat.zero_mul, Nat.one_mul, Nat.mul_one, assoc_setI, assoc_keep, ↓reduceIte, Nat.reduceEqDiff, Nat.reduceLT, Nat.reduceLeDiff, Nat.reduceAdd, Nat.reduceSub, Nat.reduceMul, decide_true, decide_false, Bool.not_true, Bool.not_false, List.mem_cons, List.not_mem_nil, true_or, or_true, false_or, or_false, and_true, true_and, and_self, List.getElem?_cons_succ, List.getElem?_cons_zero, Option.bind_some, Option.map_some, Option.map_none, List.map_cons, List.map_nil, List.length_cons, List.length_nil, List.filterMap_cons, List.filterMap_nil, List.cons_append, List.nil_append, List.append_nil, Nat.zero_add, Nat.add_zero, List.take_succ_cons, List.take_zero, List.take_nil, List.drop_succ_cons, List.drop_zero, List.drop_nil, List.all_cons, List.all_nil, Bool.and_true, Bool.true_and, Bool.false_and, Bool.and_false, reduceCtorEq, beq_iff_eq, beq_self_eq_true, h1, Bool.false_and]
theorem call43 {e : Exts} (he : Quiet e) (n lo hi : Int) (me : FuncId) (d : Option Tmp) (H : Heap) : callA (Cx e) (lim (Cx e)) me 43 d [.v (.int .i64 n), .v (.int .i64 lo), .v (.int .i64 hi)] H = some (.v (.bool (withinB lo hi [n])), H) :=
  (ans43 n lo hi).call (ext_43 he) (pure_43 _ _ _) rfl H
theorem callI43 {e : Exts} (he : Quiet e) (n lo hi : Int) (me : FuncId) (d : Option Tmp) : callI (Cx e) me 43 d [.v (.int .i64 n), .v (.int .i64 lo), .v (.int .i64 hi)] = some (.v (.bool (withinB lo hi [n]))) :=
  (ans43 n lo hi).callI (ext_43 he) (pure_43 _ _ _) rfl
noncomputable def body61 : Code := ((Tryz.f61.body.map loops).getD [])[0]?.getD .skip
set_option maxHeartbeats 1000000 in
theorem loop61 {e : Exts} (s : ByteArray) (hn : s.size < 2 ^ 63) (H : Heap) (K : Post) :
    ∀ m j : Nat, j + m = s.size → (lettersB s j = true → AtK K (.exit 0) ⟨23, [(0, .v (.string s)), (2, .v (.bool false)), (3, intA s.size)], []⟩ H) → (lettersB s j = false → ∀ l, assoc 2 l = some (.v (.bool false)) → AtK K .ret ⟨23, l, []⟩ H) →
    Lp (Cx e) 61 none [0, 2, 3] body61 ⟨23, [(0, .v (.string s)), (2, .v (.bool false)), (3, intA j)], []⟩ H K := by
  intro m
  induction m with
  | zero =>
    intro j hj h1 h2
    rw [Lp_step]
    generalize hK : loopK (Cx e) 61 none [0, 2, 3] body61 H.size K = KK
    unfold body61
    obtain rfl : j = s.size := by omega
    simp -implicitDefEqProofs only [Tryz.f61, loops, Option.map_some, Option.getD_some, intA, go_sem, repeatCells, splice, chunk, bsFin, ne_eq, not_true_eq_false, not_false_eq_true, List.headD_cons, Bool.false_eq_true, Nat.le_refl, Nat.zero_mul, Nat.one_mul, Nat.mul_one, assoc_setI, assoc_keep, ↓reduceIte, Nat.reduceEqDiff, Nat.reduceLT, Nat.reduceLeDiff, Nat.reduceAdd, Nat.reduceSub, Nat.reduceMul, decide_true, decide_false, Bool.not_true, Bool.not_false, List.mem_cons, List.not_mem_nil, true_or, or_true, false_or, or_false, and_true, true_and, and_self, List.getElem?_cons_succ, List.getElem?_cons_zero, Option.bind_some, Option.map_some, Option.map_none, List.map_cons, List.map_nil, List.length_cons, List.length_nil, List.filterMap_cons, List.filterMap_nil, List.cons_append, List.nil_append, List.append_nil, Nat.zero_add, Nat.add_zero, List.take_succ_cons, List.take_zero, List.take_nil, List.drop_succ_cons, List.drop_zero, List.drop_nil, List.all_cons, List.all_nil, Bool.and_true, Bool.true_and, Bool.false_and, Bool.and_false, reduceCtorEq, beq_iff_eq, beq_self_eq_true, Int.lt_irrefl]
    subst hK
    simp -implicitDefEqProofs only [go_sem, repeatCells, splice, chunk, bsFin, ne_eq, not_true_eq_false, not_false_eq_true, List.headD_cons, Bool.false_eq_true, Nat.le_refl, Nat.zero_mul, Nat.one_mul, Nat.mul_one, assoc_setI, assoc_keep, ↓reduceIte, Nat.reduceEqDiff, Nat.reduceLT, Nat.reduceLeDiff, Nat.reduceAdd, Nat.reduceSub, Nat.reduceMul, decide_true, decide_false, Bool.not_true, Bool.not_false, List.mem_cons, List.not_mem_nil, true_or, or_true, false_or, or_false, and_true, true_and, and_self, List.getElem?_cons_succ, List.getElem?_cons_zero, Option.bind_some, Option.map_some, Option.map_none, List.map_cons, List.map_nil, List.length_cons, List.length_nil, List.filterMap_cons, List.filterMap_nil, List.cons_append, List.nil_append, List.append_nil, Nat.zero_add, Nat.add_zero, List.take_succ_cons, List.take_zero, List.take_nil, List.drop_succ_cons, List.drop_zero, List.drop_nil, List.all_cons, List.all_nil, Bool.and_true, Bool.true_and, Bool.false_and, Bool.and_false, reduceCtorEq, beq_iff_eq, beq_self_eq_true]
    exact h1 (by unfold lettersB; rw [List.drop_of_length_le (by simp)]; rfl)
  | succ m ih =>
    intro j hj h1 h2
    rw [Lp_step]
    generalize hK : loopK (Cx e) 61 none [0, 2, 3] body61 H.size K = KK
    unfold body61
    have hlt : (j : Int) < (s.size : Int) := by omega
    have hy := strAt_lt s j (by omega)
    have hjl : j < s.data.toList.length := by simp; omega
    have hw := wrap_succ j (by omega)
    have hj0 : (0 : Int) ≤ (j : Int) := by omega
    generalize hc : s.data.toList[j] = c at hy
    have hd : lettersB s j = (letter c && lettersB s (j + 1)) := by
      unfold lettersB
      rw [List.drop_eq_getElem_cons (by simp; omega), ← hc]; rfl
    simp only [Tryz.f61, loops, Option.map_some, Option.getD_some, List.nil_append, List.append_nil, List.cons_append, List.getElem?_cons_zero]
    by_cases c1 : (c.toNat : Int) < 97
    · simp -implicitDefEqProofs only [go_sem, repeatCells, splice, chunk, bsFin, ne_eq, not_true_eq_false, not_false_eq_true, List.headD_cons, Bool.false_eq_true, Nat.le_refl, Nat.zero_mul, Nat.one_mul, Nat.mul_one, assoc_setI, assoc_keep, ↓reduceIte, Nat.reduceEqDiff, Nat.reduceLT, Nat.reduceLeDiff, Nat.reduceAdd, Nat.reduceSub, Nat.reduceMul, decide_true, decide_false, Bool.not_true, Bool.not_false, List.mem_cons, List.not_mem_nil, true_or, or_true, false_or, or_false, and_true, true_and, and_self, List.getElem?_cons_succ, List.getElem?_cons_zero, Option.bind_some, Option.map_some, Option.map_none, List.map_cons, List.map_nil, List.length_cons, List.length_nil, List.filterMap_cons, List.filterMap_nil, List.cons_append, List.nil_append, List.append_nil, Nat.zero_add, Nat.add_zero, List.take_succ_cons, List.take_zero, List.take_nil, List.drop_succ_cons, List.drop_zero, List.drop_nil, List.all_cons, List.all_nil, Bool.and_true, Bool.true_and, Bool.false_and, Bool.and_false, reduceCtorEq, beq_iff_eq, beq_self_eq_true, intA, hlt, hw, hy, c1, hj0, Int.toNat_natCast]
      subst hK
      simp -implicitDefEqProofs only [go_sem, repeatCells, splice, chunk, bsFin, ne_eq, not_true_eq_false, not_false_eq_true, List.headD_cons, Bool.false_eq_true, Nat.le_refl, Nat.zero_mul, Nat.one_mul, Nat.mul_one, assoc_setI, assoc_keep, ↓reduceIte, Nat.reduceEqDiff, Nat.reduceLT, Nat.reduceLeDiff, Nat.reduceAdd, Nat.reduceSub, Nat.reduceMul, decide_true, decide_false, Bool.not_true, Bool.not_false, List.mem_cons, List.not_mem_nil, true_or, or_true, false_or, or_false, and_true, true_and, and_self, List.getElem?_cons_succ, List.getElem?_cons_zero, Option.bind_some, Option.map_some, Option.map_none, List.map_cons, List.map_nil, List.length_cons, List.length_nil, List.filterMap_cons, List.filterMap_nil, List.cons_append, List.nil_append, List.append_nil, Nat.zero_add, Nat.add_zero, List.take_succ_cons, List.take_zero, List.take_nil, List.drop_succ_cons, List.drop_zero, List.drop_nil, List.all_cons, List.all_nil, Bool.and_true, Bool.true_and, Bool.false_and, Bool.and_false, reduceCtorEq, beq_iff_eq, beq_self_eq_true]
      exact h2 (by rw [hd]; simp [letter]; omega) _ rfl
    · by_cases c2 : 122 < (c.toNat : Int)
      · simp -implicitDefEqProofs only [go_sem, repeatCells, splice, chunk, bsFin, ne_eq, not_true_eq_false, not_false_eq_true, List.headD_cons, Bool.false_eq_true, Nat.le_refl, Nat.zero_mul, Nat.one_mul, Nat.mul_one, assoc_setI, assoc_keep, ↓reduceIte, Nat.reduceEqDiff, Nat.reduceLT, Nat.reduceLeDiff, Nat.reduceAdd, Nat.reduceSub, Nat.reduceMul, decide_true, decide_false, Bool.not_true, Bool.not_false, List.mem_cons, List.not_mem_nil, true_or, or_true, false_or, or_false, and_true, true_and, and_self, List.getElem?_cons_succ, List.getElem?_cons_zero, Option.bind_some, Option.map_some, Option.map_none, List.map_cons, List.map_nil, List.length_cons, List.length_nil, List.filterMap_cons, List.filterMap_nil, List.cons_append, List.nil_append, List.append_nil, Nat.zero_add, Nat.add_zero, List.take_succ_cons, List.take_zero, List.take_nil, List.drop_succ_cons, List.drop_zero, List.drop_nil, List.all_cons, List.all_nil, Bool.and_true, Bool.true_and, Bool.false_and, Bool.and_false, reduceCtorEq, beq_iff_eq, beq_self_eq_true, intA, hlt, hw, hy, c1, c2, hj0, Int.toNat_natCast]
        subst hK
        simp -implicitDefEqProofs only [go_sem, repeatCells, splice, chunk, bsFin, ne_eq, not_true_eq_false, not_false_eq_true, List.headD_cons, Bool.false_eq_true, Nat.le_refl, Nat.zero_mul, Nat.one_mul, Nat.mul_one, assoc_setI, assoc_keep, ↓reduceIte, Nat.reduceEqDiff, Nat.reduceLT, Nat.reduceLeDiff, Nat.reduceAdd, Nat.reduceSub, Nat.reduceMul, decide_true, decide_false, Bool.not_true, Bool.not_false, List.mem_cons, List.not_mem_nil, true_or, or_true, false_or, or_false, and_true, true_and, and_self, List.getElem?_cons_succ, List.getElem?_cons_zero, Option.bind_some, Option.map_some, Option.map_none, List.map_cons, List.map_nil, List.length_cons, List.length_nil, List.filterMap_cons, List.filterMap_nil, List.cons_append, List.nil_append, List.append_nil, Nat.zero_add, Nat.add_zero, List.take_succ_cons, List.take_zero, List.take_nil, List.drop_succ_cons, List.drop_zero, List.drop_nil, List.all_cons, List.all_nil, Bool.and_true, Bool.true_and, Bool.false_and, Bool.and_false, reduceCtorEq, beq_iff_eq, beq_self_eq_true]
        exact h2 (by rw [hd]; simp [letter]; omega) _ rfl
      · simp -implicitDefEqProofs only [go_sem, repeatCells, splice, chunk, bsFin, ne_eq, not_true_eq_false, not_false_eq_true, List.headD_cons, Bool.false_eq_true, Nat.le_refl, Nat.zero_mul, Nat.one_mul, Nat.mul_one, assoc_setI, assoc_keep, ↓reduceIte, Nat.reduceEqDiff, Nat.reduceLT, Nat.reduceLeDiff, Nat.reduceAdd, Nat.reduceSub, Nat.reduceMul, decide_true, decide_false, Bool.not_true, Bool.not_false, List.mem_cons, List.not_mem_nil, true_or, or_true, false_or, or_false, and_true, true_and, and_self, List.getElem?_cons_succ, List.getElem?_cons_zero, Option.bind_some, Option.map_some, Option.map_none, List.map_cons, List.map_nil, List.length_cons, List.length_nil, List.filterMap_cons, List.filterMap_nil, List.cons_append, List.nil_append, List.append_nil, Nat.zero_add, Nat.add_zero, List.take_succ_cons, List.take_zero, List.take_nil, List.drop_succ_cons, List.drop_zero, List.drop_nil, List.all_cons, List.all_nil, Bool.and_true, Bool.true_and, Bool.false_and, Bool.and_false, reduceCtorEq, beq_iff_eq, beq_self_eq_true, intA, hlt, hw, hy, c1, c2, hj0, Int.toNat_natCast]
        subst hK
        simp -implicitDefEqProofs only [go_sem, repeatCells, splice, chunk, bsFin, ne_eq, not_true_eq_false, not_false_eq_true, List.headD_cons, Bool.false_eq_true, Nat.le_refl, Nat.zero_mul, Nat.one_mul, Nat.mul_one, assoc_setI, assoc_keep, ↓reduceIte, Nat.reduceEqDiff, Nat.reduceLT, Nat.reduceLeDiff, Nat.reduceAdd, Nat.reduceSub, Nat.reduceMul, decide_true, decide_false, Bool.not_true, Bool.not_false, List.mem_cons, List.not_mem_nil, true_or, or_true, false_or, or_false, and_true, true_and, and_self, List.getElem?_cons_succ, List.getElem?_cons_zero, Option.bind_some, Option.map_some, Option.map_none, List.map_cons, List.map_nil, List.length_cons, List.length_nil, List.filterMap_cons, List.filterMap_nil, List.cons_append, List.nil_append, List.append_nil, Nat.zero_add, Nat.add_zero, List.take_succ_cons, List.take_zero, List.take_nil, List.drop_succ_cons, List.drop_zero, List.drop_nil, List.all_cons, List.all_nil, Bool.and_true, Bool.true_and, Bool.false_and, Bool.and_false, reduceCtorEq, beq_iff_eq, beq_self_eq_true]
        have hd' : lettersB s j = lettersB s (j + 1) := by rw [hd]; simp [letter]; omega
        rw [hd'] at h1 h2
        exact ih (j + 1) (by omega) h1 h2
theorem ans61 {e : Exts} (he : Quiet e) (s : ByteArray) (hn : s.size < 2 ^ 63) : Ans (Cx e) 61 [.v (.string s)] (.v (.bool (wordB s))) := by
  unfold Ans
  rw [fn_step (fn_61 e) (show Tryz.f61.body = some _ from rfl)]
  simp -implicitDefEqProofs only [Tryz.f61, intA, go_sem, repeatCells, splice, chunk, bsFin, ne_eq, not_true_eq_false, not_false_eq_true, List.headD_cons, Bool.false_eq_true, Nat.le_refl, Nat.zero_mul, Nat.one_mul, Nat.mul_one, assoc_setI, assoc_keep, ↓reduceIte, Nat.reduceEqDiff, Nat.reduceLT, Nat.reduceLeDiff, Nat.reduceAdd, Nat.reduceSub, Nat.reduceMul, decide_true, decide_false, Bool.not_true, Bool.not_false, List.mem_cons, List.not_mem_nil, true_or, or_true, false_or, or_false, and_true, true_and, and_self, List.getElem?_cons_succ, List.getElem?_cons_zero, Option.bind_some, Option.map_some, Option.map_none, List.map_cons, List.map_nil, List.length_cons, List.length_nil, List.filterMap_cons, List.filterMap_nil, List.cons_append, List.nil_append, List.append_nil, Nat.zero_add, Nat.add_zero, List.take_succ_cons, List.take_zero, List.take_nil, List.drop_succ_cons, List.drop_zero, List.drop_nil, List.all_cons, List.all_nil, Bool.and_true, Bool.true_and, Bool.false_and, Bool.and_false, reduceCtorEq, beq_iff_eq, beq_self_eq_true]
  refine loop61 s hn _ _ s.size 0 (by omega) ?_ ?_
  · intro h
    simp -implicitDefEqProofs only [intA, go_sem, repeatCells, splice, chunk, bsFin, ne_eq, not_true_eq_false, not_false_eq_true, List.headD_cons, Bool.false_eq_true, Nat.le_refl, Nat.zero_mul, Nat.one_mul, Nat.mul_one, assoc_setI, assoc_keep, ↓reduceIte, Nat.reduceEqDiff, Nat.reduceLT, Nat.reduceLeDiff, Nat.reduceAdd, Nat.reduceSub, Nat.reduceMul, decide_true, decide_false, Bool.not_true, Bool.not_false, List.mem_cons, List.not_mem_nil, true_or, or_true, false_or, or_false, and_true, true_and, and_self, List.getElem?_cons_succ, List.getElem?_cons_zero, Option.bind_some, Option.map_some, Option.map_none, List.map_cons, List.map_nil, List.length_cons, List.length_nil, List.filterMap_cons, List.filterMap_nil, List.cons_append, List.nil_append, List.append_nil, Nat.zero_add, Nat.add_zero, List.take_succ_cons, List.take_zero, List.take_nil, List.drop_succ_cons, List.drop_zero, List.drop_nil, List.all_cons, List.all_nil, Bool.and_true, Bool.true_and, Bool.false_and, Bool.and_false, reduceCtorEq, beq_iff_eq, beq_self_eq_true, call43 he]
    unfold wordB; rw [h, Bool.and_true]
  · intro h l hl
    simp -implicitDefEqProofs only [go_sem, repeatCells, splice, chunk, bsFin, ne_eq, not_true_eq_false, not_false_eq_true, List.headD_cons, Bool.false_eq_true, Nat.le_refl, Nat.zero_mul, Nat.one_mul, Nat.mul_one, assoc_setI, assoc_keep, ↓reduceIte, Nat.reduceEqDiff, Nat.reduceLT, Nat.reduceLeDiff, Nat.reduceAdd, Nat.reduceSub, Nat.reduceMul, decide_true, decide_false, Bool.not_true, Bool.not_false, List.mem_cons, List.not_mem_nil, true_or, or_true, false_or, or_false, and_true, true_and, and_self, List.getElem?_cons_succ, List.getElem?_cons_zero, Option.bind_some, Option.map_some, Option.map_none, List.map_cons, List.map_nil, List.length_cons, List.length_nil, List.filterMap_cons, List.filterMap_nil, List.cons_append, List.nil_append, List.append_nil, Nat.zero_add, Nat.add_zero, List.take_succ_cons, List.take_zero, List.take_nil, List.drop_succ_cons, List.drop_zero, List.drop_nil, List.all_cons, List.all_nil, Bool.and_true, Bool.true_and, Bool.false_and, Bool.and_false, reduceCtorEq, beq_iff_eq, beq_self_eq_true, hl]
    unfold wordB; rw [h, Bool.and_false]
theorem call61 {e : Exts} (he : Quiet e) (s : ByteArray) (hn : s.size < 2 ^ 63) (me : FuncId) (d : Option Tmp) (H : Heap) : callA (Cx e) (lim (Cx e)) me 61 d [.v (.string s)] H = some (.v (.bool (wordB s)), H) :=
  (ans61 he s hn).call (ext_61 he) (pure_61 _ _ _) rfl H
end Go.Ev
namespace Go.Ev
open Go.Proofs
set_option maxRecDepth 100000
set_option linter.unusedSimpArgs false
/-! ### texts -/
def All2 {α β : Type} (R : α → β → Prop) (l : List α) (m : List β) : Prop := l.length = m.length ∧ ∀ (i : Nat) a b, l[i]? = some a → m[i]? = some b → R a b
theorem All2.get {α β : Type} {R : α → β → Prop} {l : List α} {m : List β} (h : All2 R l m) {i : Nat} {a : α} (ha : l[i]? = some a) : ∃ b, m[i]? = some b ∧ R a b := by
  have hi := (List.getElem?_eq_some_iff.1 ha).1
  exact ⟨m[i]'(h.1 ▸ hi), List.getElem?_eq_getElem _, h.2 i a _ ha (List.getElem?_eq_getElem _)⟩
def strs (ws : List ByteArray) : List AV := ws.map fun s => .v (.string s)
abbrev Line := List ByteArray
abbrev Chap := Int × List Line
abbrev Txt := List Chap
def LineA (ws : Line) (x : AV) : Prop := SlOf 1 (strs ws) x
def LinesA (ls : List Line) (x : AV) : Prop := ∃ xs, SlOf 1 xs x ∧ All2 LineA ls xs
def ChapA (c : Chap) (y : AV) : Prop := ∃ l, y = .agg [intA c.1, l] ∧ LinesA c.2 l
def ChsA (t : Txt) (x : AV) : Prop := ∃ xs, SlOf 2 xs x ∧ All2 ChapA t xs
def TextA (t : Txt) (x : AV) : Prop := ∃ ch, x = .agg [ch] ∧ ChsA t ch
/-- no greater than memory -/
structure Fits (t : Txt) : Prop where
  chs : t.length < 2 ^ 63
  lines : ∀ c ∈ t, c.2.length < 2 ^ 63
  words : ∀ c ∈ t, ∀ l ∈ c.2, l.length < 2 ^ 63
  size : ∀ c ∈ t, ∀ l ∈ c.2, ∀ s ∈ l, s.size < 2 ^ 63
theorem strs_get {ws : Line} {i : Nat} {s : ByteArray} (h : ws[i]? = some s) : (strs ws)[i]? = some (.v (.string s)) := by
  unfold strs; rw [List.getElem?_map, h]; rfl
theorem strs_len (ws : Line) : (strs ws).length = ws.length := by simp [strs]
def greatL (l : Line) : Bool := decide (l.length > 15) || l.any fun s => decide (s.size > 40)
def greatC (c : Chap) : Bool := decide (c.2.length > 15) || c.2.any greatL
def greatT (t : Txt) : Bool := decide (t.length > 10) || t.any greatC
noncomputable def body38 (n : Nat) : Code := ((Tryz.f38.body.map loops).getD [])[n]?.getD .skip
end Go.Ev
namespace Go.Ev
open Go.Proofs
set_option maxRecDepth 100000
set_option linter.unusedSimpArgs false
def wsG (ws : Line) (j : Nat) : Bool := (ws.drop j).any fun s => decide (s.size > 40)
theorem drop_any {α : Type} (p : α → Bool) (l : List α) (j : Nat) (x : α) (h : l[j]? = some x) : (l.drop j).any p = (p x || (l.drop (j + 1)).any p) := by
  obtain ⟨hj, rfl⟩ := List.getElem?_eq_some_iff.1 h
  rw [List.drop_eq_getElem_cons hj, List.any_cons]
theorem drop_all {α : Type} (p : α → Bool) (l : List α) (j : Nat) (x : α) (h : l[j]? = some x) : (l.drop j).all p = (p x && (l.drop (j + 1)).all p) := by
  obtain ⟨hj, rfl⟩ := List.getElem?_eq_some_iff.1 h
  rw [List.drop_eq_getElem_cons hj, List.all_cons]
theorem at_lt {α : Type} (l : List α) (j : Nat) (h : j < l.length) : ∃ x, l[j]? = some x := ⟨l[j], List.getElem?_eq_getElem h⟩
set_option maxHeartbeats 4000000 in
theorem loop38c {e : Exts} (xs lxs : List AV) (ch : AV) (hch : SlOf 2 xs ch) (i k : Nat) (id : Int) (l lx : AV) (hy : xs[i]? = some (.agg [intA id, l])) (hl : SlOf 1 lxs l) (hk : lxs[k]? = some lx) (ws : Line) (hlx : SlOf 1 (strs ws) lx) (hn : ws.length < 2 ^ 63) (K : Post) :
    ∀ m j : Nat, j + m = ws.length → (wsG ws j = false → AtK K (.exit 4) ⟨75, [(0, .agg [ch]), (1, .ptr 0 0 0), (2, .v (.bool false)), (9, .v (.bool false)), (3, intA i), (14, .v (.bool true)), (24, .v (.bool false)), (4, intA k), (33, .v (.bool true)), (46, .v (.bool false)), (5, intA (ws.length : Nat))], []⟩ ⟨[some (.cells 0 0 24 1 false [ch])], 0⟩) → (wsG ws j = true → ∀ tl HH, assoc 2 tl = some (.v (.bool true)) → AtK K .ret ⟨75, tl, []⟩ HH) →
    Lp (Cx e) 38 none [0, 1, 2, 9, 3, 14, 24, 4, 33, 46, 5] (body38 2) ⟨75, [(0, .agg [ch]), (1, .ptr 0 0 0), (2, .v (.bool false)), (9, .v (.bool false)), (3, intA i), (14, .v (.bool true)), (24, .v (.bool false)), (4, intA k), (33, .v (.bool true)), (46, .v (.bool false)), (5, intA j)], []⟩ ⟨[some (.cells 0 0 24 1 false [ch])], 0⟩ K := by
  intro m
  induction m with
  | zero =>
    intro j hj h1 h2
    rw [Lp_step]
    generalize hK : loopK (Cx e) 38 none [0, 1, 2, 9, 3, 14, 24, 4, 33, 46, 5] (body38 2) _ K = KK
    unfold body38
    obtain rfl : j = ws.length := by omega
    simp only [Tryz.f38, loops, Option.map_some, Option.getD_some, List.nil_append, List.append_nil, List.cons_append, List.getElem?_cons_zero, List.getElem?_cons_succ]
    simp -implicitDefEqProofs only [go_sem, repeatCells, splice, chunk, bsFin, ne_eq, not_true_eq_false, not_false_eq_true, List.headD_cons, Bool.false_eq_true, Nat.le_refl, Nat.zero_mul, Nat.one_mul, Nat.mul_one, assoc_setI, assoc_keep, ↓reduceIte, Nat.reduceEqDiff, Nat.reduceLT, Nat.reduceLeDiff, Nat.reduceAdd, Nat.reduceSub, Nat.reduceMul, decide_true, decide_false, Bool.not_true, Bool.not_false, List.mem_cons, List.not_mem_nil, true_or, or_true, false_or, or_false, and_true, true_and, and_self, List.getElem?_cons_succ, List.getElem?_cons_zero, Option.bind_some, Option.map_some, Option.map_none, List.map_cons, List.map_nil, List.length_cons, List.length_nil, List.filterMap_cons, List.filterMap_nil, List.cons_append, List.nil_append, List.append_nil, Nat.zero_add, Nat.add_zero, List.take_succ_cons, List.take_zero, List.take_nil, List.drop_succ_cons, List.drop_zero, List.drop_nil, List.all_cons, List.all_nil, Bool.and_true, Bool.true_and, Bool.false_and, Bool.and_false, reduceCtorEq, beq_iff_eq, beq_self_eq_true, intA, Int.lt_irrefl, hch.len, hch.idx hy, hl.len, hl.idx hk, hlx.len, hlx.cells, strs_len]
    subst hK
    simp -implicitDefEqProofs only [go_sem, repeatCells, splice, chunk, bsFin, ne_eq, not_true_eq_false, not_false_eq_true, List.headD_cons, Bool.false_eq_true, Nat.le_refl, Nat.zero_mul, Nat.one_mul, Nat.mul_one, assoc_setI, assoc_keep, ↓reduceIte, Nat.reduceEqDiff, Nat.reduceLT, Nat.reduceLeDiff, Nat.reduceAdd, Nat.reduceSub, Nat.reduceMul, decide_true, decide_false, Bool.not_true, Bool.not_false, List.mem_cons, List.not_mem_nil, true_or, or_true, false_or, or_false, and_true, true_and, and_self, List.getElem?_cons_succ, List.getElem?_cons_zero, Option.bind_some, Option.map_some, Option.map_none, List.map_cons, List.map_nil, List.length_cons, List.length_nil, List.filterMap_cons, List.filterMap_nil, List.cons_append, List.nil_append, List.append_nil, Nat.zero_add, Nat.add_zero, List.take_succ_cons, List.take_zero, List.take_nil, List.drop_succ_cons, List.drop_zero, List.drop_nil, List.all_cons, List.all_nil, Bool.and_true, Bool.true_and, Bool.false_and, Bool.and_false, reduceCtorEq, beq_iff_eq, beq_self_eq_true]
    exact h1 (by simp [wsG])
  | succ m ih =>
    intro j hj h1 h2
    rw [Lp_step]
    generalize hK : loopK (Cx e) 38 none [0, 1, 2, 9, 3, 14, 24, 4, 33, 46, 5] (body38 2) _ K = KK
    unfold body38
    have hlt : (j : Int) < ((ws.length : Nat) : Int) := by omega
    have hw := wrap_succ j (by omega)
    have hj0 : (0 : Int) ≤ (j : Int) := by omega
    simp only [Tryz.f38, loops, Option.map_some, Option.getD_some, List.nil_append, List.append_nil, List.cons_append, List.getElem?_cons_zero, List.getElem?_cons_succ]
    obtain ⟨s, hs⟩ := at_lt ws j (by omega)
    have hd : wsG ws j = (decide (s.size > 40) || wsG ws (j + 1)) := drop_any _ ws j s hs
    by_cases c1 : 40 < (s.size : Int)
    · simp -implicitDefEqProofs only [go_sem, repeatCells, splice, chunk, bsFin, ne_eq, not_true_eq_false, not_false_eq_true, List.headD_cons, Bool.false_eq_true, Nat.le_refl, Nat.zero_mul, Nat.one_mul, Nat.mul_one, assoc_setI, assoc_keep, ↓reduceIte, Nat.reduceEqDiff, Nat.reduceLT, Nat.reduceLeDiff, Nat.reduceAdd, Nat.reduceSub, Nat.reduceMul, decide_true, decide_false, Bool.not_true, Bool.not_false, List.mem_cons, List.not_mem_nil, true_or, or_true, false_or, or_false, and_true, true_and, and_self, List.getElem?_cons_succ, List.getElem?_cons_zero, Option.bind_some, Option.map_some, Option.map_none, List.map_cons, List.map_nil, List.length_cons, List.length_nil, List.filterMap_cons, List.filterMap_nil, List.cons_append, List.nil_append, List.append_nil, Nat.zero_add, Nat.add_zero, List.take_succ_cons, List.take_zero, List.take_nil, List.drop_succ_cons, List.drop_zero, List.drop_nil, List.all_cons, List.all_nil, Bool.and_true, Bool.true_and, Bool.false_and, Bool.and_false, reduceCtorEq, beq_iff_eq, beq_self_eq_true, intA, hlt, hw, hch.len, hch.idx hy, hl.len, hl.idx hk, hlx.len, hlx.cells, strs_len, hlx.idx (strs_get hs), c1]
      subst hK
      simp -implicitDefEqProofs only [go_sem, repeatCells, splice, chunk, bsFin, ne_eq, not_true_eq_false, not_false_eq_true, List.headD_cons, Bool.false_eq_true, Nat.le_refl, Nat.zero_mul, Nat.one_mul, Nat.mul_one, assoc_setI, assoc_keep, ↓reduceIte, Nat.reduceEqDiff, Nat.reduceLT, Nat.reduceLeDiff, Nat.reduceAdd, Nat.reduceSub, Nat.reduceMul, decide_true, decide_false, Bool.not_true, Bool.not_false, List.mem_cons, List.not_mem_nil, true_or, or_true, false_or, or_false, and_true, true_and, and_self, List.getElem?_cons_succ, List.getElem?_cons_zero, Option.bind_some, Option.map_some, Option.map_none, List.map_cons, List.map_nil, List.length_cons, List.length_nil, List.filterMap_cons, List.filterMap_nil, List.cons_append, List.nil_append, List.append_nil, Nat.zero_add, Nat.add_zero, List.take_succ_cons, List.take_zero, List.take_nil, List.drop_succ_cons, List.drop_zero, List.drop_nil, List.all_cons, List.all_nil, Bool.and_true, Bool.true_and, Bool.false_and, Bool.and_false, reduceCtorEq, beq_iff_eq, beq_self_eq_true]
      exact h2 (by rw [hd]; simp; left; omega) _ _ rfl
    · simp -implicitDefEqProofs only [go_sem, repeatCells, splice, chunk, bsFin, ne_eq, not_true_eq_false, not_false_eq_true, List.headD_cons, Bool.false_eq_true, Nat.le_refl, Nat.zero_mul, Nat.one_mul, Nat.mul_one, assoc_setI, assoc_keep, ↓reduceIte, Nat.reduceEqDiff, Nat.reduceLT, Nat.reduceLeDiff, Nat.reduceAdd, Nat.reduceSub, Nat.reduceMul, decide_true, decide_false, Bool.not_true, Bool.not_false, List.mem_cons, List.not_mem_nil, true_or, or_true, false_or, or_false, and_true, true_and, and_self, List.getElem?_cons_succ, List.getElem?_cons_zero, Option.bind_some, Option.map_some, Option.map_none, List.map_cons, List.map_nil, List.length_cons, List.length_nil, List.filterMap_cons, List.filterMap_nil, List.cons_append, List.nil_append, List.append_nil, Nat.zero_add, Nat.add_zero, List.take_succ_cons, List.take_zero, List.take_nil, List.drop_succ_cons, List.drop_zero, List.drop_nil, List.all_cons, List.all_nil, Bool.and_true, Bool.true_and, Bool.false_and, Bool.and_false, reduceCtorEq, beq_iff_eq, beq_self_eq_true, intA, hlt, hw, hch.len, hch.idx hy, hl.len, hl.idx hk, hlx.len, hlx.cells, strs_len, hlx.idx (strs_get hs), c1]
      subst hK
      simp -implicitDefEqProofs only [go_sem, repeatCells, splice, chunk, bsFin, ne_eq, not_true_eq_false, not_false_eq_true, List.headD_cons, Bool.false_eq_true, Nat.le_refl, Nat.zero_mul, Nat.one_mul, Nat.mul_one, assoc_setI, assoc_keep, ↓reduceIte, Nat.reduceEqDiff, Nat.reduceLT, Nat.reduceLeDiff, Nat.reduceAdd, Nat.reduceSub, Nat.reduceMul, decide_true, decide_false, Bool.not_true, Bool.not_false, List.mem_cons, List.not_mem_nil, true_or, or_true, false_or, or_false, and_true, true_and, and_self, List.getElem?_cons_succ, List.getElem?_cons_zero, Option.bind_some, Option.map_some, Option.map_none, List.map_cons, List.map_nil, List.length_cons, List.length_nil, List.filterMap_cons, List.filterMap_nil, List.cons_append, List.nil_append, List.append_nil, Nat.zero_add, Nat.add_zero, List.take_succ_cons, List.take_zero, List.take_nil, List.drop_succ_cons, List.drop_zero, List.drop_nil, List.all_cons, List.all_nil, Bool.and_true, Bool.true_and, Bool.false_and, Bool.and_false, reduceCtorEq, beq_iff_eq, beq_self_eq_true]
      have hd' : wsG ws j = wsG ws (j + 1) := by rw [hd]; simp; omega
      rw [hd'] at h1 h2
      exact ih (j + 1) (by omega) h1 h2
def lnG (ls : List Line) (j : Nat) : Bool := (ls.drop j).any greatL
def chG (t : Txt) (j : Nat) : Bool := (t.drop j).any greatC
theorem greatL_eq (ws : Line) : greatL ws = (decide (ws.length > 15) || wsG ws 0) := rfl
set_option maxHeartbeats 4000000 in
theorem loop38b {e : Exts} (xs lxs : List AV) (ch : AV) (hch : SlOf 2 xs ch) (i : Nat) (id : Int) (l : AV) (hy : xs[i]? = some (.agg [intA id, l])) (hl : SlOf 1 lxs l) (ls : List Line) (hls : All2 LineA ls lxs) (hn : ls.length < 2 ^ 63) (hz : ∀ s ∈ ls, s.length < 2 ^ 63) (K : Post) :
    ∀ m j : Nat, j + m = ls.length → (lnG ls j = false → AtK K (.exit 2) ⟨75, [(0, .agg [ch]), (1, .ptr 0 0 0), (2, .v (.bool false)), (9, .v (.bool false)), (3, intA i), (14, .v (.bool true)), (24, .v (.bool false)), (4, intA (ls.length : Nat))], []⟩ ⟨[some (.cells 0 0 24 1 false [ch])], 0⟩) → (lnG ls j = true → ∀ tl HH, assoc 2 tl = some (.v (.bool true)) → AtK K .ret ⟨75, tl, []⟩ HH) →
    Lp (Cx e) 38 none [0, 1, 2, 9, 3, 14, 24, 4] (body38 1) ⟨75, [(0, .agg [ch]), (1, .ptr 0 0 0), (2, .v (.bool false)), (9, .v (.bool false)), (3, intA i), (14, .v (.bool true)), (24, .v (.bool false)), (4, intA j)], []⟩ ⟨[some (.cells 0 0 24 1 false [ch])], 0⟩ K := by
  intro m
  induction m with
  | zero =>
    intro j hj h1 h2
    rw [Lp_step]
    generalize hK : loopK (Cx e) 38 none [0, 1, 2, 9, 3, 14, 24, 4] (body38 1) _ K = KK
    unfold body38
    obtain rfl : j = ls.length := by omega
    simp only [Tryz.f38, loops, Option.map_some, Option.getD_some, List.nil_append, List.append_nil, List.cons_append, List.getElem?_cons_zero, List.getElem?_cons_succ]
    simp -implicitDefEqProofs only [go_sem, repeatCells, splice, chunk, bsFin, ne_eq, not_true_eq_false, not_false_eq_true, List.headD_cons, Bool.false_eq_true, Nat.le_refl, Nat.zero_mul, Nat.one_mul, Nat.mul_one, assoc_setI, assoc_keep, ↓reduceIte, Nat.reduceEqDiff, Nat.reduceLT, Nat.reduceLeDiff, Nat.reduceAdd, Nat.reduceSub, Nat.reduceMul, decide_true, decide_false, Bool.not_true, Bool.not_false, List.mem_cons, List.not_mem_nil, true_or, or_true, false_or, or_false, and_true, true_and, and_self, List.getElem?_cons_succ, List.getElem?_cons_zero, Option.bind_some, Option.map_some, Option.map_none, List.map_cons, List.map_nil, List.length_cons, List.length_nil, List.filterMap_cons, List.filterMap_nil, List.cons_append, List.nil_append, List.append_nil, Nat.zero_add, Nat.add_zero, List.take_succ_cons, List.take_zero, List.take_nil, List.drop_succ_cons, List.drop_zero, List.drop_nil, List.all_cons, List.all_nil, Bool.and_true, Bool.true_and, Bool.false_and, Bool.and_false, reduceCtorEq, beq_iff_eq, beq_self_eq_true, intA, Int.lt_irrefl, hch.len, hch.idx hy, hl.len, ← hls.1]
    subst hK
    simp -implicitDefEqProofs only [go_sem, repeatCells, splice, chunk, bsFin, ne_eq, not_true_eq_false, not_false_eq_true, List.headD_cons, Bool.false_eq_true, Nat.le_refl, Nat.zero_mul, Nat.one_mul, Nat.mul_one, assoc_setI, assoc_keep, ↓reduceIte, Nat.reduceEqDiff, Nat.reduceLT, Nat.reduceLeDiff, Nat.reduceAdd, Nat.reduceSub, Nat.reduceMul, decide_true, decide_false, Bool.not_true, Bool.not_false, List.mem_cons, List.not_mem_nil, true_or, or_true, false_or, or_false, and_true, true_and, and_self, List.getElem?_cons_succ, List.getElem?_cons_zero, Option.bind_some, Option.map_some, Option.map_none, List.map_cons, List.map_nil, List.length_cons, List.length_nil, List.filterMap_cons, List.filterMap_nil, List.cons_append, List.nil_append, List.append_nil, Nat.zero_add, Nat.add_zero, List.take_succ_cons, List.take_zero, List.take_nil, List.drop_succ_cons, List.drop_zero, List.drop_nil, List.all_cons, List.all_nil, Bool.and_true, Bool.true_and, Bool.false_and, Bool.and_false, reduceCtorEq, beq_iff_eq, beq_self_eq_true]
    exact h1 (by simp [lnG])
  | succ m ih =>
    intro j hj h1 h2
    rw [Lp_step]
    generalize hK : loopK (Cx e) 38 none [0, 1, 2, 9, 3, 14, 24, 4] (body38 1) _ K = KK
    unfold body38
    have hlt : (j : Int) < ((ls.length : Nat) : Int) := by omega
    have hw := wrap_succ j (by omega)
    have hj0 : (0 : Int) ≤ (j : Int) := by omega
    simp only [Tryz.f38, loops, Option.map_some, Option.getD_some, List.nil_append, List.append_nil, List.cons_append, List.getElem?_cons_zero, List.getElem?_cons_succ]
    obtain ⟨ws, hs⟩ := at_lt ls j (by omega)
    obtain ⟨lx, hk, hlx⟩ := hls.get hs
    have hlx : SlOf 1 (strs ws) lx := hlx
    have hd : lnG ls j = (greatL ws || lnG ls (j + 1)) := drop_any _ ls j ws hs
    by_cases c1 : 15 < (ws.length : Int)
    · simp -implicitDefEqProofs only [go_sem, repeatCells, splice, chunk, bsFin, ne_eq, not_true_eq_false, not_false_eq_true, List.headD_cons, Bool.false_eq_true, Nat.le_refl, Nat.zero_mul, Nat.one_mul, Nat.mul_one, assoc_setI, assoc_keep, ↓reduceIte, Nat.reduceEqDiff, Nat.reduceLT, Nat.reduceLeDiff, Nat.reduceAdd, Nat.reduceSub, Nat.reduceMul, decide_true, decide_false, Bool.not_true, Bool.not_false, List.mem_cons, List.not_mem_nil, true_or, or_true, false_or, or_false, and_true, true_and, and_self, List.getElem?_cons_succ, List.getElem?_cons_zero, Option.bind_some, Option.map_some, Option.map_none, List.map_cons, List.map_nil, List.length_cons, List.length_nil, List.filterMap_cons, List.filterMap_nil, List.cons_append, List.nil_append, List.append_nil, Nat.zero_add, Nat.add_zero, List.take_succ_cons, List.take_zero, List.take_nil, List.drop_succ_cons, List.drop_zero, List.drop_nil, List.all_cons, List.all_nil, Bool.and_true, Bool.true_and, Bool.false_and, Bool.and_false, reduceCtorEq, beq_iff_eq, beq_self_eq_true, intA, hlt, hw, hch.len, hch.idx hy, hl.len, hl.idx hk, hlx.len, hlx.cells, strs_len, ← hls.1, c1]
      subst hK
      simp -implicitDefEqProofs only [go_sem, repeatCells, splice, chunk, bsFin, ne_eq, not_true_eq_false, not_false_eq_true, List.headD_cons, Bool.false_eq_true, Nat.le_refl, Nat.zero_mul, Nat.one_mul, Nat.mul_one, assoc_setI, assoc_keep, ↓reduceIte, Nat.reduceEqDiff, Nat.reduceLT, Nat.reduceLeDiff, Nat.reduceAdd, Nat.reduceSub, Nat.reduceMul, decide_true, decide_false, Bool.not_true, Bool.not_false, List.mem_cons, List.not_mem_nil, true_or, or_true, false_or, or_false, and_true, true_and, and_self, List.getElem?_cons_succ, List.getElem?_cons_zero, Option.bind_some, Option.map_some, Option.map_none, List.map_cons, List.map_nil, List.length_cons, List.length_nil, List.filterMap_cons, List.filterMap_nil, List.cons_append, List.nil_append, List.append_nil, Nat.zero_add, Nat.add_zero, List.take_succ_cons, List.take_zero, List.take_nil, List.drop_succ_cons, List.drop_zero, List.drop_nil, List.all_cons, List.all_nil, Bool.and_true, Bool.true_and, Bool.false_and, Bool.and_false, reduceCtorEq, beq_iff_eq, beq_self_eq_true]
      exact h2 (by rw [hd, greatL_eq]; simp; left; left; omega) _ _ rfl
    · simp -implicitDefEqProofs only [go_sem, repeatCells, splice, chunk, bsFin, ne_eq, not_true_eq_false, not_false_eq_true, List.headD_cons, Bool.false_eq_true, Nat.le_refl, Nat.zero_mul, Nat.one_mul, Nat.mul_one, assoc_setI, assoc_keep, ↓reduceIte, Nat.reduceEqDiff, Nat.reduceLT, Nat.reduceLeDiff, Nat.reduceAdd, Nat.reduceSub, Nat.reduceMul, decide_true, decide_false, Bool.not_true, Bool.not_false, List.mem_cons, List.not_mem_nil, true_or, or_true, false_or, or_false, and_true, true_and, and_self, List.getElem?_cons_succ, List.getElem?_cons_zero, Option.bind_some, Option.map_some, Option.map_none, List.map_cons, List.map_nil, List.length_cons, List.length_nil, List.filterMap_cons, List.filterMap_nil, List.cons_append, List.nil_append, List.append_nil, Nat.zero_add, Nat.add_zero, List.take_succ_cons, List.take_zero, List.take_nil, List.drop_succ_cons, List.drop_zero, List.drop_nil, List.all_cons, List.all_nil, Bool.and_true, Bool.true_and, Bool.false_and, Bool.and_false, reduceCtorEq, beq_iff_eq, beq_self_eq_true, intA, hlt, hw, hch.len, hch.idx hy, hl.len, hl.idx hk, hlx.len, hlx.cells, strs_len, ← hls.1, c1]
      refine loop38c xs lxs ch hch i j id l lx hy hl hk ws hlx (hz ws (List.mem_of_getElem? hs)) _ ws.length 0 (by omega) ?_ ?_
      · intro hf
        simp -implicitDefEqProofs only [go_sem, repeatCells, splice, chunk, bsFin, ne_eq, not_true_eq_false, not_false_eq_true, List.headD_cons, Bool.false_eq_true, Nat.le_refl, Nat.zero_mul, Nat.one_mul, Nat.mul_one, assoc_setI, assoc_keep, ↓reduceIte, Nat.reduceEqDiff, Nat.reduceLT, Nat.reduceLeDiff, Nat.reduceAdd, Nat.reduceSub, Nat.reduceMul, decide_true, decide_false, Bool.not_true, Bool.not_false, List.mem_cons, List.not_mem_nil, true_or, or_true, false_or, or_false, and_true, true_and, and_self, List.getElem?_cons_succ, List.getElem?_cons_zero, Option.bind_some, Option.map_some, Option.map_none, List.map_cons, List.map_nil, List.length_cons, List.length_nil, List.filterMap_cons, List.filterMap_nil, List.cons_append, List.nil_append, List.append_nil, Nat.zero_add, Nat.add_zero, List.take_succ_cons, List.take_zero, List.take_nil, List.drop_succ_cons, List.drop_zero, List.drop_nil, List.all_cons, List.all_nil, Bool.and_true, Bool.true_and, Bool.false_and, Bool.and_false, reduceCtorEq, beq_iff_eq, beq_self_eq_true, intA, hw]
        subst hK
        simp -implicitDefEqProofs only [go_sem, repeatCells, splice, chunk, bsFin, ne_eq, not_true_eq_false, not_false_eq_true, List.headD_cons, Bool.false_eq_true, Nat.le_refl, Nat.zero_mul, Nat.one_mul, Nat.mul_one, assoc_setI, assoc_keep, ↓reduceIte, Nat.reduceEqDiff, Nat.reduceLT, Nat.reduceLeDiff, Nat.reduceAdd, Nat.reduceSub, Nat.reduceMul, decide_true, decide_false, Bool.not_true, Bool.not_false, List.mem_cons, List.not_mem_nil, true_or, or_true, false_or, or_false, and_true, true_and, and_self, List.getElem?_cons_succ, List.getElem?_cons_zero, Option.bind_some, Option.map_some, Option.map_none, List.map_cons, List.map_nil, List.length_cons, List.length_nil, List.filterMap_cons, List.filterMap_nil, List.cons_append, List.nil_append, List.append_nil, Nat.zero_add, Nat.add_zero, List.take_succ_cons, List.take_zero, List.take_nil, List.drop_succ_cons, List.drop_zero, List.drop_nil, List.all_cons, List.all_nil, Bool.and_true, Bool.true_and, Bool.false_and, Bool.and_false, reduceCtorEq, beq_iff_eq, beq_self_eq_true]
        have hd' : lnG ls j = lnG ls (j + 1) := by rw [hd, greatL_eq, hf]; simp; omega
        rw [hd'] at h1 h2
        exact ih (j + 1) (by omega) h1 h2
      · intro hf l HH hl
        subst hK
        simp -implicitDefEqProofs only [go_sem, repeatCells, splice, chunk, bsFin, ne_eq, not_true_eq_false, not_false_eq_true, List.headD_cons, Bool.false_eq_true, Nat.le_refl, Nat.zero_mul, Nat.one_mul, Nat.mul_one, assoc_setI, assoc_keep, ↓reduceIte, Nat.reduceEqDiff, Nat.reduceLT, Nat.reduceLeDiff, Nat.reduceAdd, Nat.reduceSub, Nat.reduceMul, decide_true, decide_false, Bool.not_true, Bool.not_false, List.mem_cons, List.not_mem_nil, true_or, or_true, false_or, or_false, and_true, true_and, and_self, List.getElem?_cons_succ, List.getElem?_cons_zero, Option.bind_some, Option.map_some, Option.map_none, List.map_cons, List.map_nil, List.length_cons, List.length_nil, List.filterMap_cons, List.filterMap_nil, List.cons_append, List.nil_append, List.append_nil, Nat.zero_add, Nat.add_zero, List.take_succ_cons, List.take_zero, List.take_nil, List.drop_succ_cons, List.drop_zero, List.drop_nil, List.all_cons, List.all_nil, Bool.and_true, Bool.true_and, Bool.false_and, Bool.and_false, reduceCtorEq, beq_iff_eq, beq_self_eq_true]
        exact h2 (by rw [hd, greatL_eq, hf]; simp) l HH hl
set_option maxHeartbeats 4000000 in
theorem loop38a {e : Exts} (xs : List AV) (ch : AV) (hch : SlOf 2 xs ch) (t : Txt) (ht : Fits t) (hn : t.length < 2 ^ 63) (hall : All2 ChapA t xs) (K : Post) :
    ∀ m j : Nat, j + m = t.length → (chG t j = false → AtK K (.exit 0) ⟨75, [(0, .agg [ch]), (1, .ptr 0 0 0), (2, .v (.bool false)), (9, .v (.bool false)), (3, intA (t.length : Nat))], []⟩ ⟨[some (.cells 0 0 24 1 false [ch])], 0⟩) → (chG t j = true → ∀ tl HH, assoc 2 tl = some (.v (.bool true)) → AtK K .ret ⟨75, tl, []⟩ HH) →
    Lp (Cx e) 38 none [0, 1, 2, 9, 3] (body38 0) ⟨75, [(0, .agg [ch]), (1, .ptr 0 0 0), (2, .v (.bool false)), (9, .v (.bool false)), (3, intA j)], []⟩ ⟨[some (.cells 0 0 24 1 false [ch])], 0⟩ K := by
  intro m
  induction m with
  | zero =>
    intro j hj h1 h2
    rw [Lp_step]
    generalize hK : loopK (Cx e) 38 none [0, 1, 2, 9, 3] (body38 0) _ K = KK
    unfold body38
    obtain rfl : j = t.length := by omega
    simp only [Tryz.f38, loops, Option.map_some, Option.getD_some, List.nil_append, List.append_nil, List.cons_append, List.getElem?_cons_zero, List.getElem?_cons_succ]
    simp -implicitDefEqProofs only [go_sem, repeatCells, splice, chunk, bsFin, ne_eq, not_true_eq_false, not_false_eq_true, List.headD_cons, Bool.false_eq_true, Nat.le_refl, Nat.zero_mul, Nat.one_mul, Nat.mul_one, assoc_setI, assoc_keep, ↓reduceIte, Nat.reduceEqDiff, Nat.reduceLT, Nat.reduceLeDiff, Nat.reduceAdd, Nat.reduceSub, Nat.reduceMul, decide_true, decide_false, Bool.not_true, Bool.not_false, List.mem_cons, List.not_mem_nil, true_or, or_true, false_or, or_false, and_true, true_and, and_self, List.getElem?_cons_succ, List.getElem?_cons_zero, Option.bind_some, Option.map_some, Option.map_none, List.map_cons, List.map_nil, List.length_cons, List.length_nil, List.filterMap_cons, List.filterMap_nil, List.cons_append, List.nil_append, List.append_nil, Nat.zero_add, Nat.add_zero, List.take_succ_cons, List.take_zero, List.take_nil, List.drop_succ_cons, List.drop_zero, List.drop_nil, List.all_cons, List.all_nil, Bool.and_true, Bool.true_and, Bool.false_and, Bool.and_false, reduceCtorEq, beq_iff_eq, beq_self_eq_true, intA, Int.lt_irrefl, hch.len, ← hall.1]
    subst hK
    simp -implicitDefEqProofs only [go_sem, repeatCells, splice, chunk, bsFin, ne_eq, not_true_eq_false, not_false_eq_true, List.headD_cons, Bool.false_eq_true, Nat.le_refl, Nat.zero_mul, Nat.one_mul, Nat.mul_one, assoc_setI, assoc_keep, ↓reduceIte, Nat.reduceEqDiff, Nat.reduceLT, Nat.reduceLeDiff, Nat.reduceAdd, Nat.reduceSub, Nat.reduceMul, decide_true, decide_false, Bool.not_true, Bool.not_false, List.mem_cons, List.not_mem_nil, true_or, or_true, false_or, or_false, and_true, true_and, and_self, List.getElem?_cons_succ, List.getElem?_cons_zero, Option.bind_some, Option.map_some, Option.map_none, List.map_cons, List.map_nil, List.length_cons, List.length_nil, List.filterMap_cons, List.filterMap_nil, List.cons_append, List.nil_append, List.append_nil, Nat.zero_add, Nat.add_zero, List.take_succ_cons, List.take_zero, List.take_nil, List.drop_succ_cons, List.drop_zero, List.drop_nil, List.all_cons, List.all_nil, Bool.and_true, Bool.true_and, Bool.false_and, Bool.and_false, reduceCtorEq, beq_iff_eq, beq_self_eq_true]
    exact h1 (by simp [chG])
  | succ m ih =>
    intro j hj h1 h2
    rw [Lp_step]
    generalize hK : loopK (Cx e) 38 none [0, 1, 2, 9, 3] (body38 0) _ K = KK
    unfold body38
    have hlt : (j : Int) < ((t.length : Nat) : Int) := by omega
    have hw := wrap_succ j (by omega)
    have hj0 : (0 : Int) ≤ (j : Int) := by omega
    simp only [Tryz.f38, loops, Option.map_some, Option.getD_some, List.nil_append, List.append_nil, List.cons_append, List.getElem?_cons_zero, List.getElem?_cons_succ]
    have hfit := ht.chs
    have hw := wrap_succ j (by omega)
    obtain ⟨c, hs⟩ := at_lt t j (by omega)
    obtain ⟨y, hy, l, rfl, lxs, hl, hls⟩ := hall.get hs
    have hd : chG t j = (greatC c || chG t (j + 1)) := drop_any _ t j c hs
    have hm := List.mem_of_getElem? hs
    by_cases c1 : 15 < (c.2.length : Int)
    · simp -implicitDefEqProofs only [go_sem, repeatCells, splice, chunk, bsFin, ne_eq, not_true_eq_false, not_false_eq_true, List.headD_cons, Bool.false_eq_true, Nat.le_refl, Nat.zero_mul, Nat.one_mul, Nat.mul_one, assoc_setI, assoc_keep, ↓reduceIte, Nat.reduceEqDiff, Nat.reduceLT, Nat.reduceLeDiff, Nat.reduceAdd, Nat.reduceSub, Nat.reduceMul, decide_true, decide_false, Bool.not_true, Bool.not_false, List.mem_cons, List.not_mem_nil, true_or, or_true, false_or, or_false, and_true, true_and, and_self, List.getElem?_cons_succ, List.getElem?_cons_zero, Option.bind_some, Option.map_some, Option.map_none, List.map_cons, List.map_nil, List.length_cons, List.length_nil, List.filterMap_cons, List.filterMap_nil, List.cons_append, List.nil_append, List.append_nil, Nat.zero_add, Nat.add_zero, List.take_succ_cons, List.take_zero, List.take_nil, List.drop_succ_cons, List.drop_zero, List.drop_nil, List.all_cons, List.all_nil, Bool.and_true, Bool.true_and, Bool.false_and, Bool.and_false, reduceCtorEq, beq_iff_eq, beq_self_eq_true, intA, hlt, hw, hch.len, hch.idx hy, hl.len, hl.cells, ← hls.1, ← hall.1, c1]
      subst hK
      simp -implicitDefEqProofs only [go_sem, repeatCells, splice, chunk, bsFin, ne_eq, not_true_eq_false, not_false_eq_true, List.headD_cons, Bool.false_eq_true, Nat.le_refl, Nat.zero_mul, Nat.one_mul, Nat.mul_one, assoc_setI, assoc_keep, ↓reduceIte, Nat.reduceEqDiff, Nat.reduceLT, Nat.reduceLeDiff, Nat.reduceAdd, Nat.reduceSub, Nat.reduceMul, decide_true, decide_false, Bool.not_true, Bool.not_false, List.mem_cons, List.not_mem_nil, true_or, or_true, false_or, or_false, and_true, true_and, and_self, List.getElem?_cons_succ, List.getElem?_cons_zero, Option.bind_some, Option.map_some, Option.map_none, List.map_cons, List.map_nil, List.length_cons, List.length_nil, List.filterMap_cons, List.filterMap_nil, List.cons_append, List.nil_append, List.append_nil, Nat.zero_add, Nat.add_zero, List.take_succ_cons, List.take_zero, List.take_nil, List.drop_succ_cons, List.drop_zero, List.drop_nil, List.all_cons, List.all_nil, Bool.and_true, Bool.true_and, Bool.false_and, Bool.and_false, reduceCtorEq, beq_iff_eq, beq_self_eq_true]
      exact h2 (by rw [hd]; unfold greatC; simp; left; left; omega) _ _ rfl
    · simp -implicitDefEqProofs only [go_sem, repeatCells, splice, chunk, bsFin, ne_eq, not_true_eq_false, not_false_eq_true, List.headD_cons, Bool.false_eq_true, Nat.le_refl, Nat.zero_mul, Nat.one_mul, Nat.mul_one, assoc_setI, assoc_keep, ↓reduceIte, Nat.reduceEqDiff, Nat.reduceLT, Nat.reduceLeDiff, Nat.reduceAdd, Nat.reduceSub, Nat.reduceMul, decide_true, decide_false, Bool.not_true, Bool.not_false, List.mem_cons, List.not_mem_nil, true_or, or_true, false_or, or_false, and_true, true_and, and_self, List.getElem?_cons_succ, List.getElem?_cons_zero, Option.bind_some, Option.map_some, Option.map_none, List.map_cons, List.map_nil, List.length_cons, List.length_nil, List.filterMap_cons, List.filterMap_nil, List.cons_append, List.nil_append, List.append_nil, Nat.zero_add, Nat.add_zero, List.take_succ_cons, List.take_zero, List.take_nil, List.drop_succ_cons, List.drop_zero, List.drop_nil, List.all_cons, List.all_nil, Bool.and_true, Bool.true_and, Bool.false_and, Bool.and_false, reduceCtorEq, beq_iff_eq, beq_self_eq_true, intA, hlt, hw, hch.len, hch.idx hy, hl.len, hl.cells, ← hls.1, ← hall.1, c1]
      refine loop38b xs lxs ch hch j c.1 l hy hl c.2 hls (ht.lines c hm) (ht.words c hm) _ c.2.length 0 (by omega) ?_ ?_
      · intro hf
        simp -implicitDefEqProofs only [go_sem, repeatCells, splice, chunk, bsFin, ne_eq, not_true_eq_false, not_false_eq_true, List.headD_cons, Bool.false_eq_true, Nat.le_refl, Nat.zero_mul, Nat.one_mul, Nat.mul_one, assoc_setI, assoc_keep, ↓reduceIte, Nat.reduceEqDiff, Nat.reduceLT, Nat.reduceLeDiff, Nat.reduceAdd, Nat.reduceSub, Nat.reduceMul, decide_true, decide_false, Bool.not_true, Bool.not_false, List.mem_cons, List.not_mem_nil, true_or, or_true, false_or, or_false, and_true, true_and, and_self, List.getElem?_cons_succ, List.getElem?_cons_zero, Option.bind_some, Option.map_some, Option.map_none, List.map_cons, List.map_nil, List.length_cons, List.length_nil, List.filterMap_cons, List.filterMap_nil, List.cons_append, List.nil_append, List.append_nil, Nat.zero_add, Nat.add_zero, List.take_succ_cons, List.take_zero, List.take_nil, List.drop_succ_cons, List.drop_zero, List.drop_nil, List.all_cons, List.all_nil, Bool.and_true, Bool.true_and, Bool.false_and, Bool.and_false, reduceCtorEq, beq_iff_eq, beq_self_eq_true, intA, hw]
        subst hK
        simp -implicitDefEqProofs only [go_sem, repeatCells, splice, chunk, bsFin, ne_eq, not_true_eq_false, not_false_eq_true, List.headD_cons, Bool.false_eq_true, Nat.le_refl, Nat.zero_mul, Nat.one_mul, Nat.mul_one, assoc_setI, assoc_keep, ↓reduceIte, Nat.reduceEqDiff, Nat.reduceLT, Nat.reduceLeDiff, Nat.reduceAdd, Nat.reduceSub, Nat.reduceMul, decide_true, decide_false, Bool.not_true, Bool.not_false, List.mem_cons, List.not_mem_nil, true_or, or_true, false_or, or_false, and_true, true_and, and_self, List.getElem?_cons_succ, List.getElem?_cons_zero, Option.bind_some, Option.map_some, Option.map_none, List.map_cons, List.map_nil, List.length_cons, List.length_nil, List.filterMap_cons, List.filterMap_nil, List.cons_append, List.nil_append, List.append_nil, Nat.zero_add, Nat.add_zero, List.take_succ_cons, List.take_zero, List.take_nil, List.drop_succ_cons, List.drop_zero, List.drop_nil, List.all_cons, List.all_nil, Bool.and_true, Bool.true_and, Bool.false_and, Bool.and_false, reduceCtorEq, beq_iff_eq, beq_self_eq_true]
        have hd' : chG t j = chG t (j + 1) := by
          rw [hd]; unfold greatC; rw [show c.2.any greatL = lnG c.2 0 from rfl, hf]; simp; omega
        rw [hd'] at h1 h2
        exact ih (j + 1) (by omega) h1 h2
      · intro hf l HH hl
        subst hK
        simp -implicitDefEqProofs only [go_sem, repeatCells, splice, chunk, bsFin, ne_eq, not_true_eq_false, not_false_eq_true, List.headD_cons, Bool.false_eq_true, Nat.le_refl, Nat.zero_mul, Nat.one_mul, Nat.mul_one, assoc_setI, assoc_keep, ↓reduceIte, Nat.reduceEqDiff, Nat.reduceLT, Nat.reduceLeDiff, Nat.reduceAdd, Nat.reduceSub, Nat.reduceMul, decide_true, decide_false, Bool.not_true, Bool.not_false, List.mem_cons, List.not_mem_nil, true_or, or_true, false_or, or_false, and_true, true_and, and_self, List.getElem?_cons_succ, List.getElem?_cons_zero, Option.bind_some, Option.map_some, Option.map_none, List.map_cons, List.map_nil, List.length_cons, List.length_nil, List.filterMap_cons, List.filterMap_nil, List.cons_append, List.nil_append, List.append_nil, Nat.zero_add, Nat.add_zero, List.take_succ_cons, List.take_zero, List.take_nil, List.drop_succ_cons, List.drop_zero, List.drop_nil, List.all_cons, List.all_nil, Bool.and_true, Bool.true_and, Bool.false_and, Bool.and_false, reduceCtorEq, beq_iff_eq, beq_self_eq_true]
        exact h2 (by rw [hd]; unfold greatC; rw [show c.2.any greatL = lnG c.2 0 from rfl, hf]; simp) l HH hl
set_option maxHeartbeats 1000000 in
theorem ans38 {e : Exts} (t : Txt) (ht : Fits t) (x : AV) (hx : TextA t x) : Ans (Cx e) 38 [x] (.v (.bool (greatT t))) := by
  obtain ⟨ch, rfl, xs, hch, hall⟩ := hx
  unfold Ans
  rw [fn_step (fn_38 e) (show Tryz.f38.body = some _ from rfl)]
  by_cases h1 : 10 < (t.length : Int)
  · simp -implicitDefEqProofs only [Tryz.f38, intA, go_sem, repeatCells, splice, chunk, bsFin, ne_eq, not_true_eq_false, not_false_eq_true, List.headD_cons, Bool.false_eq_true, Nat.le_refl, Nat.zero_mul, Nat.one_mul, Nat.mul_one, assoc_setI, assoc_keep, ↓reduceIte, Nat.reduceEqDiff, Nat.reduceLT, Nat.reduceLeDiff, Nat.reduceAdd, Nat.reduceSub, Nat.reduceMul, decide_true, decide_false, Bool.not_true, Bool.not_false, List.mem_cons, List.not_mem_nil, true_or, or_true, false_or, or_false, and_true, true_and, and_self, List.getElem?_cons_succ, List.getElem?_cons_zero, Option.bind_some, Option.map_some, Option.map_none, List.map_cons, List.map_nil, List.length_cons, List.length_nil, List.filterMap_cons, List.filterMap_nil, List.cons_append, List.nil_append, List.append_nil, Nat.zero_add, Nat.add_zero, List.take_succ_cons, List.take_zero, List.take_nil, List.drop_succ_cons, List.drop_zero, List.drop_nil, List.all_cons, List.all_nil, Bool.and_true, Bool.true_and, Bool.false_and, Bool.and_false, reduceCtorEq, beq_iff_eq, beq_self_eq_true, hch.len, hch.cells, hch.flat, hch.bound, ← hall.1, h1]
    have : greatT t = true := by unfold greatT; simp; left; omega
    rw [this]
  · simp -implicitDefEqProofs only [Tryz.f38, intA, go_sem, repeatCells, splice, chunk, bsFin, ne_eq, not_true_eq_false, not_false_eq_true, List.headD_cons, Bool.false_eq_true, Nat.le_refl, Nat.zero_mul, Nat.one_mul, Nat.mul_one, assoc_setI, assoc_keep, ↓reduceIte, Nat.reduceEqDiff, Nat.reduceLT, Nat.reduceLeDiff, Nat.reduceAdd, Nat.reduceSub, Nat.reduceMul, decide_true, decide_false, Bool.not_true, Bool.not_false, List.mem_cons, List.not_mem_nil, true_or, or_true, false_or, or_false, and_true, true_and, and_self, List.getElem?_cons_succ, List.getElem?_cons_zero, Option.bind_some, Option.map_some, Option.map_none, List.map_cons, List.map_nil, List.length_cons, List.length_nil, List.filterMap_cons, List.filterMap_nil, List.cons_append, List.nil_append, List.append_nil, Nat.zero_add, Nat.add_zero, List.take_succ_cons, List.take_zero, List.take_nil, List.drop_succ_cons, List.drop_zero, List.drop_nil, List.all_cons, List.all_nil, Bool.and_true, Bool.true_and, Bool.false_and, Bool.and_false, reduceCtorEq, beq_iff_eq, beq_self_eq_true, hch.len, hch.cells, hch.flat, hch.bound, ← hall.1, h1]
    refine loop38a xs ch hch t ht ht.chs hall _ t.length 0 (by omega) ?_ ?_
    · intro hf
      simp -implicitDefEqProofs only [go_sem, repeatCells, splice, chunk, bsFin, ne_eq, not_true_eq_false, not_false_eq_true, List.headD_cons, Bool.false_eq_true, Nat.le_refl, Nat.zero_mul, Nat.one_mul, Nat.mul_one, assoc_setI, assoc_keep, ↓reduceIte, Nat.reduceEqDiff, Nat.reduceLT, Nat.reduceLeDiff, Nat.reduceAdd, Nat.reduceSub, Nat.reduceMul, decide_true, decide_false, Bool.not_true, Bool.not_false, List.mem_cons, List.not_mem_nil, true_or, or_true, false_or, or_false, and_true, true_and, and_self, List.getElem?_cons_succ, List.getElem?_cons_zero, Option.bind_some, Option.map_some, Option.map_none, List.map_cons, List.map_nil, List.length_cons, List.length_nil, List.filterMap_cons, List.filterMap_nil, List.cons_append, List.nil_append, List.append_nil, Nat.zero_add, Nat.add_zero, List.take_succ_cons, List.take_zero, List.take_nil, List.drop_succ_cons, List.drop_zero, List.drop_nil, List.all_cons, List.all_nil, Bool.and_true, Bool.true_and, Bool.false_and, Bool.and_false, reduceCtorEq, beq_iff_eq, beq_self_eq_true]
      have : greatT t = false := by unfold greatT; rw [show t.any greatC = chG t 0 from rfl, hf]; simp; omega
      rw [this]
    · intro hf l HH hl
      simp -implicitDefEqProofs only [go_sem, repeatCells, splice, chunk, bsFin, ne_eq, not_true_eq_false, not_false_eq_true, List.headD_cons, Bool.false_eq_true, Nat.le_refl, Nat.zero_mul, Nat.one_mul, Nat.mul_one, assoc_setI, assoc_keep, ↓reduceIte, Nat.reduceEqDiff, Nat.reduceLT, Nat.reduceLeDiff, Nat.reduceAdd, Nat.reduceSub, Nat.reduceMul, decide_true, decide_false, Bool.not_true, Bool.not_false, List.mem_cons, List.not_mem_nil, true_or, or_true, false_or, or_false, and_true, true_and, and_self, List.getElem?_cons_succ, List.getElem?_cons_zero, Option.bind_some, Option.map_some, Option.map_none, List.map_cons, List.map_nil, List.length_cons, List.length_nil, List.filterMap_cons, List.filterMap_nil, List.cons_append, List.nil_append, List.append_nil, Nat.zero_add, Nat.add_zero, List.take_succ_cons, List.take_zero, List.take_nil, List.drop_succ_cons, List.drop_zero, List.drop_nil, List.all_cons, List.all_nil, Bool.and_true, Bool.true_and, Bool.false_and, Bool.and_false, reduceCtorEq, beq_iff_eq, beq_self_eq_true, hl]
      have : greatT t = true := by unfold greatT; rw [show t.any greatC = chG t 0 from rfl, hf]; simp
      rw [this]
end Go.Ev
namespace Go.Ev
open Go.Proofs
set_option maxRecDepth 100000
set_option linter.unusedSimpArgs false
def wsB (ws : Line) (j : Nat) : Bool := !(ws.drop j).all wordB
def lineB (l : Line) : Bool := withinB 1 10 [(l.length : Int)] && l.all wordB
def lnB (ls : List Line) (j : Nat) : Bool := !(ls.drop j).all lineB
def idB (t : Txt) (id : Int) (j n : Nat) : Bool := ((t.take n).drop j).any fun c => decide (c.1 = id)
def condC (t : Txt) (i : Nat) (c : Chap) : Bool := withinB 0 9999 [c.1] && withinB 1 10 [(c.2.length : Int)] && !idB t c.1 0 i && c.2.all lineB
def okFrom (t : Txt) : Nat → Txt → Bool
  | _, [] => true
  | j, c :: r => condC t j c && okFrom t (j + 1) r
def textB (t : Txt) : Bool := withinB 1 6 [(t.length : Int)] && okFrom t 0 t
noncomputable def body39 (n : Nat) : Code := ((Tryz.f39.body.map loops).getD [])[n]?.getD .skip
theorem idB_step (t : Txt) (id : Int) (n j : Nat) (c : Chap) (hn : n ≤ t.length) (hj : j < n) (h : t[j]? = some c) : idB t id j n = (decide (c.1 = id) || idB t id (j + 1) n) := by
  unfold idB
  exact drop_any _ _ j c (by rw [List.getElem?_take, if_pos hj]; exact h)
set_option maxHeartbeats 4000000 in
theorem loop39i {e : Exts} (t : Txt) (xs : List AV) (ch : AV) (hch : SlOf 2 xs ch) (hall : All2 ChapA t xs) (i : Nat) (hi : i ≤ t.length) (hn : i < 2 ^ 63) (id : Int) (l : AV) (K : Post) :
    ∀ m j : Nat, j + m = i → (idB t id j i = false → AtK K (.exit 2) ⟨85, [(0, .agg [ch]), (1, .ptr 0 0 0), (2, .v (.bool false)), (12, .v (.bool false)), (3, intA i), (17, .v (.bool true)), (4, .ptr 1 0 0), (35, .v (.bool false)), (5, intA (i : Nat))], []⟩ ⟨[some (.cells 0 0 24 1 false [ch]), some (.cells 0 0 46 1 false [intA id, l])], 0⟩) → (idB t id j i = true → ∀ tl HH, assoc 2 tl = some (.v (.bool false)) → AtK K .ret ⟨85, tl, []⟩ HH) →
    Lp (Cx e) 39 none [0, 1, 2, 12, 3, 17, 4, 35, 5] (body39 1) ⟨85, [(0, .agg [ch]), (1, .ptr 0 0 0), (2, .v (.bool false)), (12, .v (.bool false)), (3, intA i), (17, .v (.bool true)), (4, .ptr 1 0 0), (35, .v (.bool false)), (5, intA j)], []⟩ ⟨[some (.cells 0 0 24 1 false [ch]), some (.cells 0 0 46 1 false [intA id, l])], 0⟩ K := by
  intro m
  induction m with
  | zero =>
    intro j hj h1 h2
    rw [Lp_step]
    generalize hK : loopK (Cx e) 39 none [0, 1, 2, 12, 3, 17, 4, 35, 5] (body39 1) _ K = KK
    unfold body39
    obtain rfl : j = i := by omega
    simp only [Tryz.f39, loops, Option.map_some, Option.getD_some, List.nil_append, List.append_nil, List.cons_append, List.getElem?_cons_zero, List.getElem?_cons_succ]
    simp -implicitDefEqProofs only [go_sem, repeatCells, splice, chunk, bsFin, ne_eq, not_true_eq_false, not_false_eq_true, List.headD_cons, Bool.false_eq_true, Nat.le_refl, Nat.zero_mul, Nat.one_mul, Nat.mul_one, assoc_setI, assoc_keep, ↓reduceIte, Nat.reduceEqDiff, Nat.reduceLT, Nat.reduceLeDiff, Nat.reduceAdd, Nat.reduceSub, Nat.reduceMul, decide_true, decide_false, Bool.not_true, Bool.not_false, List.mem_cons, List.not_mem_nil, true_or, or_true, false_or, or_false, and_true, true_and, and_self, List.getElem?_cons_succ, List.getElem?_cons_zero, Option.bind_some, Option.map_some, Option.map_none, List.map_cons, List.map_nil, List.length_cons, List.length_nil, List.filterMap_cons, List.filterMap_nil, List.cons_append, List.nil_append, List.append_nil, Nat.zero_add, Nat.add_zero, List.take_succ_cons, List.take_zero, List.take_nil, List.drop_succ_cons, List.drop_zero, List.drop_nil, List.all_cons, List.all_nil, Bool.and_true, Bool.true_and, Bool.false_and, Bool.and_false, reduceCtorEq, beq_iff_eq, beq_self_eq_true, intA, Int.lt_irrefl, hch.len]
    subst hK
    simp -implicitDefEqProofs only [go_sem, repeatCells, splice, chunk, bsFin, ne_eq, not_true_eq_false, not_false_eq_true, List.headD_cons, Bool.false_eq_true, Nat.le_refl, Nat.zero_mul, Nat.one_mul, Nat.mul_one, assoc_setI, assoc_keep, ↓reduceIte, Nat.reduceEqDiff, Nat.reduceLT, Nat.reduceLeDiff, Nat.reduceAdd, Nat.reduceSub, Nat.reduceMul, decide_true, decide_false, Bool.not_true, Bool.not_false, List.mem_cons, List.not_mem_nil, true_or, or_true, false_or, or_false, and_true, true_and, and_self, List.getElem?_cons_succ, List.getElem?_cons_zero, Option.bind_some, Option.map_some, Option.map_none, List.map_cons, List.map_nil, List.length_cons, List.length_nil, List.filterMap_cons, List.filterMap_nil, List.cons_append, List.nil_append, List.append_nil, Nat.zero_add, Nat.add_zero, List.take_succ_cons, List.take_zero, List.take_nil, List.drop_succ_cons, List.drop_zero, List.drop_nil, List.all_cons, List.all_nil, Bool.and_true, Bool.true_and, Bool.false_and, Bool.and_false, reduceCtorEq, beq_iff_eq, beq_self_eq_true]
    exact h1 (by unfold idB; rw [List.drop_of_length_le (by simp; omega)]; rfl)
  | succ m ih =>
    intro j hj h1 h2
    rw [Lp_step]
    generalize hK : loopK (Cx e) 39 none [0, 1, 2, 12, 3, 17, 4, 35, 5] (body39 1) _ K = KK
    unfold body39
    have hlt : (j : Int) < ((i : Nat) : Int) := by omega
    have hw := wrap_succ j (by omega)
    have hj0 : (0 : Int) ≤ (j : Int) := by omega
    simp only [Tryz.f39, loops, Option.map_some, Option.getD_some, List.nil_append, List.append_nil, List.cons_append, List.getElem?_cons_zero, List.getElem?_cons_succ]
    obtain ⟨c, hs⟩ := at_lt t j (by omega)
    obtain ⟨y, hy, lj, rfl, -⟩ := hall.get hs
    have hd := idB_step t id i j c hi (by omega) hs
    simp -implicitDefEqProofs only [go_sem, repeatCells, splice, chunk, bsFin, ne_eq, not_true_eq_false, not_false_eq_true, List.headD_cons, Bool.false_eq_true, Nat.le_refl, Nat.zero_mul, Nat.one_mul, Nat.mul_one, assoc_setI, assoc_keep, ↓reduceIte, Nat.reduceEqDiff, Nat.reduceLT, Nat.reduceLeDiff, Nat.reduceAdd, Nat.reduceSub, Nat.reduceMul, decide_true, decide_false, Bool.not_true, Bool.not_false, List.mem_cons, List.not_mem_nil, true_or, or_true, false_or, or_false, and_true, true_and, and_self, List.getElem?_cons_succ, List.getElem?_cons_zero, Option.bind_some, Option.map_some, Option.map_none, List.map_cons, List.map_nil, List.length_cons, List.length_nil, List.filterMap_cons, List.filterMap_nil, List.cons_append, List.nil_append, List.append_nil, Nat.zero_add, Nat.add_zero, List.take_succ_cons, List.take_zero, List.take_nil, List.drop_succ_cons, List.drop_zero, List.drop_nil, List.all_cons, List.all_nil, Bool.and_true, Bool.true_and, Bool.false_and, Bool.and_false, reduceCtorEq, beq_iff_eq, beq_self_eq_true, intA, hlt, hw]
    refine wp_draw (by kernel_rfl) ?_
    by_cases c1 : c.1 = id
    · simp -implicitDefEqProofs only [go_sem, repeatCells, splice, chunk, bsFin, ne_eq, not_true_eq_false, not_false_eq_true, List.headD_cons, Bool.false_eq_true, Nat.le_refl, Nat.zero_mul, Nat.one_mul, Nat.mul_one, assoc_setI, assoc_keep, ↓reduceIte, Nat.reduceEqDiff, Nat.reduceLT, Nat.reduceLeDiff, Nat.reduceAdd, Nat.reduceSub, Nat.reduceMul, decide_true, decide_false, Bool.not_true, Bool.not_false, List.mem_cons, List.not_mem_nil, true_or, or_true, false_or, or_false, and_true, true_and, and_self, List.getElem?_cons_succ, List.getElem?_cons_zero, Option.bind_some, Option.map_some, Option.map_none, List.map_cons, List.map_nil, List.length_cons, List.length_nil, List.filterMap_cons, List.filterMap_nil, List.cons_append, List.nil_append, List.append_nil, Nat.zero_add, Nat.add_zero, List.take_succ_cons, List.take_zero, List.take_nil, List.drop_succ_cons, List.drop_zero, List.drop_nil, List.all_cons, List.all_nil, Bool.and_true, Bool.true_and, Bool.false_and, Bool.and_false, reduceCtorEq, beq_iff_eq, beq_self_eq_true, intA, hlt, hw, hch.idx hy, c1]
      subst hK
      simp -implicitDefEqProofs only [go_sem, repeatCells, splice, chunk, bsFin, ne_eq, not_true_eq_false, not_false_eq_true, List.headD_cons, Bool.false_eq_true, Nat.le_refl, Nat.zero_mul, Nat.one_mul, Nat.mul_one, assoc_setI, assoc_keep, ↓reduceIte, Nat.reduceEqDiff, Nat.reduceLT, Nat.reduceLeDiff, Nat.reduceAdd, Nat.reduceSub, Nat.reduceMul, decide_true, decide_false, Bool.not_true, Bool.not_false, List.mem_cons, List.not_mem_nil, true_or, or_true, false_or, or_false, and_true, true_and, and_self, List.getElem?_cons_succ, List.getElem?_cons_zero, Option.bind_some, Option.map_some, Option.map_none, List.map_cons, List.map_nil, List.length_cons, List.length_nil, List.filterMap_cons, List.filterMap_nil, List.cons_append, List.nil_append, List.append_nil, Nat.zero_add, Nat.add_zero, List.take_succ_cons, List.take_zero, List.take_nil, List.drop_succ_cons, List.drop_zero, List.drop_nil, List.all_cons, List.all_nil, Bool.and_true, Bool.true_and, Bool.false_and, Bool.and_false, reduceCtorEq, beq_iff_eq, beq_self_eq_true]
      exact h2 (by rw [hd]; simp [c1]) _ _ rfl
    · simp -implicitDefEqProofs only [go_sem, repeatCells, splice, chunk, bsFin, ne_eq, not_true_eq_false, not_false_eq_true, List.headD_cons, Bool.false_eq_true, Nat.le_refl, Nat.zero_mul, Nat.one_mul, Nat.mul_one, assoc_setI, assoc_keep, ↓reduceIte, Nat.reduceEqDiff, Nat.reduceLT, Nat.reduceLeDiff, Nat.reduceAdd, Nat.reduceSub, Nat.reduceMul, decide_true, decide_false, Bool.not_true, Bool.not_false, List.mem_cons, List.not_mem_nil, true_or, or_true, false_or, or_false, and_true, true_and, and_self, List.getElem?_cons_succ, List.getElem?_cons_zero, Option.bind_some, Option.map_some, Option.map_none, List.map_cons, List.map_nil, List.length_cons, List.length_nil, List.filterMap_cons, List.filterMap_nil, List.cons_append, List.nil_append, List.append_nil, Nat.zero_add, Nat.add_zero, List.take_succ_cons, List.take_zero, List.take_nil, List.drop_succ_cons, List.drop_zero, List.drop_nil, List.all_cons, List.all_nil, Bool.and_true, Bool.true_and, Bool.false_and, Bool.and_false, reduceCtorEq, beq_iff_eq, beq_self_eq_true, intA, hlt, hw, hch.idx hy, c1]
      subst hK
      simp -implicitDefEqProofs only [go_sem, repeatCells, splice, chunk, bsFin, ne_eq, not_true_eq_false, not_false_eq_true, List.headD_cons, Bool.false_eq_true, Nat.le_refl, Nat.zero_mul, Nat.one_mul, Nat.mul_one, assoc_setI, assoc_keep, ↓reduceIte, Nat.reduceEqDiff, Nat.reduceLT, Nat.reduceLeDiff, Nat.reduceAdd, Nat.reduceSub, Nat.reduceMul, decide_true, decide_false, Bool.not_true, Bool.not_false, List.mem_cons, List.not_mem_nil, true_or, or_true, false_or, or_false, and_true, true_and, and_self, List.getElem?_cons_succ, List.getElem?_cons_zero, Option.bind_some, Option.map_some, Option.map_none, List.map_cons, List.map_nil, List.length_cons, List.length_nil, List.filterMap_cons, List.filterMap_nil, List.cons_append, List.nil_append, List.append_nil, Nat.zero_add, Nat.add_zero, List.take_succ_cons, List.take_zero, List.take_nil, List.drop_succ_cons, List.drop_zero, List.drop_nil, List.all_cons, List.all_nil, Bool.and_true, Bool.true_and, Bool.false_and, Bool.and_false, reduceCtorEq, beq_iff_eq, beq_self_eq_true]
      have hd' : idB t id j i = idB t id (j + 1) i := by rw [hd]; simp [c1]
      rw [hd'] at h1 h2
      exact ih (j + 1) (by omega) h1 h2
set_option maxHeartbeats 4000000 in
theorem loop39w {e : Exts} (he : Quiet e) (ch : AV) (i k : Nat) (id : Int) (lxs : List AV) (l lx : AV) (hl : SlOf 1 lxs l) (hk : lxs[k]? = some lx) (ws : Line) (hlx : SlOf 1 (strs ws) lx) (hn : ws.length < 2 ^ 63) (hz : ∀ s ∈ ws, s.size < 2 ^ 63) (K : Post) :
    ∀ m j : Nat, j + m = ws.length → (wsB ws j = false → AtK K (.exit 6) ⟨85, [(0, .agg [ch]), (1, .ptr 0 0 0), (2, .v (.bool false)), (12, .v (.bool false)), (3, intA i), (17, .v (.bool true)), (4, .ptr 1 0 0), (35, .v (.bool false)), (5, intA i), (6, intA k), (54, .v (.bool true)), (64, .v (.bool false)), (7, intA (ws.length : Nat))], []⟩ ⟨[some (.cells 0 0 24 1 false [ch]), some (.cells 0 0 46 1 false [intA id, l])], 0⟩) → (wsB ws j = true → ∀ tl HH, assoc 2 tl = some (.v (.bool false)) → AtK K .ret ⟨85, tl, []⟩ HH) →
    Lp (Cx e) 39 none [0, 1, 2, 12, 3, 17, 4, 35, 5, 6, 54, 64, 7] (body39 3) ⟨85, [(0, .agg [ch]), (1, .ptr 0 0 0), (2, .v (.bool false)), (12, .v (.bool false)), (3, intA i), (17, .v (.bool true)), (4, .ptr 1 0 0), (35, .v (.bool false)), (5, intA i), (6, intA k), (54, .v (.bool true)), (64, .v (.bool false)), (7, intA j)], []⟩ ⟨[some (.cells 0 0 24 1 false [ch]), some (.cells 0 0 46 1 false [intA id, l])], 0⟩ K := by
  intro m
  induction m with
  | zero =>
    intro j hj h1 h2
    rw [Lp_step]
    generalize hK : loopK (Cx e) 39 none [0, 1, 2, 12, 3, 17, 4, 35, 5, 6, 54, 64, 7] (body39 3) _ K = KK
    unfold body39
    obtain rfl : j = ws.length := by omega
    simp only [Tryz.f39, loops, Option.map_some, Option.getD_some, List.nil_append, List.append_nil, List.cons_append, List.getElem?_cons_zero, List.getElem?_cons_succ]
    simp -implicitDefEqProofs only [go_sem, repeatCells, splice, chunk, bsFin, ne_eq, not_true_eq_false, not_false_eq_true, List.headD_cons, Bool.false_eq_true, Nat.le_refl, Nat.zero_mul, Nat.one_mul, Nat.mul_one, assoc_setI, assoc_keep, ↓reduceIte, Nat.reduceEqDiff, Nat.reduceLT, Nat.reduceLeDiff, Nat.reduceAdd, Nat.reduceSub, Nat.reduceMul, decide_true, decide_false, Bool.not_true, Bool.not_false, List.mem_cons, List.not_mem_nil, true_or, or_true, false_or, or_false, and_true, true_and, and_self, List.getElem?_cons_succ, List.getElem?_cons_zero, Option.bind_some, Option.map_some, Option.map_none, List.map_cons, List.map_nil, List.length_cons, List.length_nil, List.filterMap_cons, List.filterMap_nil, List.cons_append, List.nil_append, List.append_nil, Nat.zero_add, Nat.add_zero, List.take_succ_cons, List.take_zero, List.take_nil, List.drop_succ_cons, List.drop_zero, List.drop_nil, List.all_cons, List.all_nil, Bool.and_true, Bool.true_and, Bool.false_and, Bool.and_false, reduceCtorEq, beq_iff_eq, beq_self_eq_true, intA, Int.lt_irrefl, hl.len, hl.cells, hl.idx hk, hlx.len, hlx.cells, strs_len]
    subst hK
    simp -implicitDefEqProofs only [go_sem, repeatCells, splice, chunk, bsFin, ne_eq, not_true_eq_false, not_false_eq_true, List.headD_cons, Bool.false_eq_true, Nat.le_refl, Nat.zero_mul, Nat.one_mul, Nat.mul_one, assoc_setI, assoc_keep, ↓reduceIte, Nat.reduceEqDiff, Nat.reduceLT, Nat.reduceLeDiff, Nat.reduceAdd, Nat.reduceSub, Nat.reduceMul, decide_true, decide_false, Bool.not_true, Bool.not_false, List.mem_cons, List.not_mem_nil, true_or, or_true, false_or, or_false, and_true, true_and, and_self, List.getElem?_cons_succ, List.getElem?_cons_zero, Option.bind_some, Option.map_some, Option.map_none, List.map_cons, List.map_nil, List.length_cons, List.length_nil, List.filterMap_cons, List.filterMap_nil, List.cons_append, List.nil_append, List.append_nil, Nat.zero_add, Nat.add_zero, List.take_succ_cons, List.take_zero, List.take_nil, List.drop_succ_cons, List.drop_zero, List.drop_nil, List.all_cons, List.all_nil, Bool.and_true, Bool.true_and, Bool.false_and, Bool.and_false, reduceCtorEq, beq_iff_eq, beq_self_eq_true]
    exact h1 (by unfold wsB; rw [List.drop_of_length_le (by simp)]; rfl)
  | succ m ih =>
    intro j hj h1 h2
    rw [Lp_step]
    generalize hK : loopK (Cx e) 39 none [0, 1, 2, 12, 3, 17, 4, 35, 5, 6, 54, 64, 7] (body39 3) _ K = KK
    unfold body39
    have hlt : (j : Int) < ((ws.length : Nat) : Int) := by omega
    have hw := wrap_succ j (by omega)
    have hj0 : (0 : Int) ≤ (j : Int) := by omega
    simp only [Tryz.f39, loops, Option.map_some, Option.getD_some, List.nil_append, List.append_nil, List.cons_append, List.getElem?_cons_zero, List.getElem?_cons_succ]
    obtain ⟨s, hs⟩ := at_lt ws j (by omega)
    have hd : wsB ws j = (!wordB s || wsB ws (j + 1)) := by unfold wsB; rw [drop_all _ ws j s hs, Bool.not_and]
    have hc := call61 he s (hz s (List.mem_of_getElem? hs))
    cases c1 : wordB s
    · rw [c1] at hc
      simp -implicitDefEqProofs only [go_sem, repeatCells, splice, chunk, bsFin, ne_eq, not_true_eq_false, not_false_eq_true, List.headD_cons, Bool.false_eq_true, Nat.le_refl, Nat.zero_mul, Nat.one_mul, Nat.mul_one, assoc_setI, assoc_keep, ↓reduceIte, Nat.reduceEqDiff, Nat.reduceLT, Nat.reduceLeDiff, Nat.reduceAdd, Nat.reduceSub, Nat.reduceMul, decide_true, decide_false, Bool.not_true, Bool.not_false, List.mem_cons, List.not_mem_nil, true_or, or_true, false_or, or_false, and_true, true_and, and_self, List.getElem?_cons_succ, List.getElem?_cons_zero, Option.bind_some, Option.map_some, Option.map_none, List.map_cons, List.map_nil, List.length_cons, List.length_nil, List.filterMap_cons, List.filterMap_nil, List.cons_append, List.nil_append, List.append_nil, Nat.zero_add, Nat.add_zero, List.take_succ_cons, List.take_zero, List.take_nil, List.drop_succ_cons, List.drop_zero, List.drop_nil, List.all_cons, List.all_nil, Bool.and_true, Bool.true_and, Bool.false_and, Bool.and_false, reduceCtorEq, beq_iff_eq, beq_self_eq_true, intA, hlt, hw, hl.len, hl.cells, hl.idx hk, hlx.len, hlx.cells, strs_len, hlx.idx (strs_get hs), hc]
      subst hK
      simp -implicitDefEqProofs only [go_sem, repeatCells, splice, chunk, bsFin, ne_eq, not_true_eq_false, not_false_eq_true, List.headD_cons, Bool.false_eq_true, Nat.le_refl, Nat.zero_mul, Nat.one_mul, Nat.mul_one, assoc_setI, assoc_keep, ↓reduceIte, Nat.reduceEqDiff, Nat.reduceLT, Nat.reduceLeDiff, Nat.reduceAdd, Nat.reduceSub, Nat.reduceMul, decide_true, decide_false, Bool.not_true, Bool.not_false, List.mem_cons, List.not_mem_nil, true_or, or_true, false_or, or_false, and_true, true_and, and_self, List.getElem?_cons_succ, List.getElem?_cons_zero, Option.bind_some, Option.map_some, Option.map_none, List.map_cons, List.map_nil, List.length_cons, List.length_nil, List.filterMap_cons, List.filterMap_nil, List.cons_append, List.nil_append, List.append_nil, Nat.zero_add, Nat.add_zero, List.take_succ_cons, List.take_zero, List.take_nil, List.drop_succ_cons, List.drop_zero, List.drop_nil, List.all_cons, List.all_nil, Bool.and_true, Bool.true_and, Bool.false_and, Bool.and_false, reduceCtorEq, beq_iff_eq, beq_self_eq_true]
      exact h2 (by rw [hd, c1]; rfl) _ _ rfl
    · rw [c1] at hc
      simp -implicitDefEqProofs only [go_sem, repeatCells, splice, chunk, bsFin, ne_eq, not_true_eq_false, not_false_eq_true, List.headD_cons, Bool.false_eq_true, Nat.le_refl, Nat.zero_mul, Nat.one_mul, Nat.mul_one, assoc_setI, assoc_keep, ↓reduceIte, Nat.reduceEqDiff, Nat.reduceLT, Nat.reduceLeDiff, Nat.reduceAdd, Nat.reduceSub, Nat.reduceMul, decide_true, decide_false, Bool.not_true, Bool.not_false, List.mem_cons, List.not_mem_nil, true_or, or_true, false_or, or_false, and_true, true_and, and_self, List.getElem?_cons_succ, List.getElem?_cons_zero, Option.bind_some, Option.map_some, Option.map_none, List.map_cons, List.map_nil, List.length_cons, List.length_nil, List.filterMap_cons, List.filterMap_nil, List.cons_append, List.nil_append, List.append_nil, Nat.zero_add, Nat.add_zero, List.take_succ_cons, List.take_zero, List.take_nil, List.drop_succ_cons, List.drop_zero, List.drop_nil, List.all_cons, List.all_nil, Bool.and_true, Bool.true_and, Bool.false_and, Bool.and_false, reduceCtorEq, beq_iff_eq, beq_self_eq_true, intA, hlt, hw, hl.len, hl.cells, hl.idx hk, hlx.len, hlx.cells, strs_len, hlx.idx (strs_get hs), hc]
      subst hK
      simp -implicitDefEqProofs only [go_sem, repeatCells, splice, chunk, bsFin, ne_eq, not_true_eq_false, not_false_eq_true, List.headD_cons, Bool.false_eq_true, Nat.le_refl, Nat.zero_mul, Nat.one_mul, Nat.mul_one, assoc_setI, assoc_keep, ↓reduceIte, Nat.reduceEqDiff, Nat.reduceLT, Nat.reduceLeDiff, Nat.reduceAdd, Nat.reduceSub, Nat.reduceMul, decide_true, decide_false, Bool.not_true, Bool.not_false, List.mem_cons, List.not_mem_nil, true_or, or_true, false_or, or_false, and_true, true_and, and_self, List.getElem?_cons_succ, List.getElem?_cons_zero, Option.bind_some, Option.map_some, Option.map_none, List.map_cons, List.map_nil, List.length_cons, List.length_nil, List.filterMap_cons, List.filterMap_nil, List.cons_append, List.nil_append, List.append_nil, Nat.zero_add, Nat.add_zero, List.take_succ_cons, List.take_zero, List.take_nil, List.drop_succ_cons, List.drop_zero, List.drop_nil, List.all_cons, List.all_nil, Bool.and_true, Bool.true_and, Bool.false_and, Bool.and_false, reduceCtorEq, beq_iff_eq, beq_self_eq_true]
      have hd' : wsB ws j = wsB ws (j + 1) := by rw [hd, c1]; rfl
      rw [hd'] at h1 h2
      exact ih (j + 1) (by omega) h1 h2
set_option maxHeartbeats 4000000 in
theorem loop39l {e : Exts} (he : Quiet e) (ch : AV) (i : Nat) (id : Int) (lxs : List AV) (l : AV) (hl : SlOf 1 lxs l) (ls : List Line) (hls : All2 LineA ls lxs) (hn : ls.length < 2 ^ 63) (hz : ∀ s ∈ ls, s.length < 2 ^ 63) (hzz : ∀ l ∈ ls, ∀ s ∈ l, s.size < 2 ^ 63) (K : Post) :
    ∀ m j : Nat, j + m = ls.length → (lnB ls j = false → AtK K (.exit 4) ⟨85, [(0, .agg [ch]), (1, .ptr 0 0 0), (2, .v (.bool false)), (12, .v (.bool false)), (3, intA i), (17, .v (.bool true)), (4, .ptr 1 0 0), (35, .v (.bool false)), (5, intA i), (6, intA (ls.length : Nat))], []⟩ ⟨[some (.cells 0 0 24 1 false [ch]), some (.cells 0 0 46 1 false [intA id, l])], 0⟩) → (lnB ls j = true → ∀ tl HH, assoc 2 tl = some (.v (.bool false)) → AtK K .ret ⟨85, tl, []⟩ HH) →
    Lp (Cx e) 39 none [0, 1, 2, 12, 3, 17, 4, 35, 5, 6] (body39 2) ⟨85, [(0, .agg [ch]), (1, .ptr 0 0 0), (2, .v (.bool false)), (12, .v (.bool false)), (3, intA i), (17, .v (.bool true)), (4, .ptr 1 0 0), (35, .v (.bool false)), (5, intA i), (6, intA j)], []⟩ ⟨[some (.cells 0 0 24 1 false [ch]), some (.cells 0 0 46 1 false [intA id, l])], 0⟩ K := by
  intro m
  induction m with
  | zero =>
    intro j hj h1 h2
    rw [Lp_step]
    generalize hK : loopK (Cx e) 39 none [0, 1, 2, 12, 3, 17, 4, 35, 5, 6] (body39 2) _ K = KK
    unfold body39
    obtain rfl : j = ls.length := by omega
    simp only [Tryz.f39, loops, Option.map_some, Option.getD_some, List.nil_append, List.append_nil, List.cons_append, List.getElem?_cons_zero, List.getElem?_cons_succ]
    simp -implicitDefEqProofs only [go_sem, repeatCells, splice, chunk, bsFin, ne_eq, not_true_eq_false, not_false_eq_true, List.headD_cons, Bool.false_eq_true, Nat.le_refl, Nat.zero_mul, Nat.one_mul, Nat.mul_one, assoc_setI, assoc_keep, ↓reduceIte, Nat.reduceEqDiff, Nat.reduceLT, Nat.reduceLeDiff, Nat.reduceAdd, Nat.reduceSub, Nat.reduceMul, decide_true, decide_false, Bool.not_true, Bool.not_false, List.mem_cons, List.not_mem_nil, true_or, or_true, false_or, or_false, and_true, true_and, and_self, List.getElem?_cons_succ, List.getElem?_cons_zero, Option.bind_some, Option.map_some, Option.map_none, List.map_cons, List.map_nil, List.length_cons, List.length_nil, List.filterMap_cons, List.filterMap_nil, List.cons_append, List.nil_append, List.append_nil, Nat.zero_add, Nat.add_zero, List.take_succ_cons, List.take_zero, List.take_nil, List.drop_succ_cons, List.drop_zero, List.drop_nil, List.all_cons, List.all_nil, Bool.and_true, Bool.true_and, Bool.false_and, Bool.and_false, reduceCtorEq, beq_iff_eq, beq_self_eq_true, intA, Int.lt_irrefl, hl.len, hl.cells, ← hls.1]
    subst hK
    simp -implicitDefEqProofs only [go_sem, repeatCells, splice, chunk, bsFin, ne_eq, not_true_eq_false, not_false_eq_true, List.headD_cons, Bool.false_eq_true, Nat.le_refl, Nat.zero_mul, Nat.one_mul, Nat.mul_one, assoc_setI, assoc_keep, ↓reduceIte, Nat.reduceEqDiff, Nat.reduceLT, Nat.reduceLeDiff, Nat.reduceAdd, Nat.reduceSub, Nat.reduceMul, decide_true, decide_false, Bool.not_true, Bool.not_false, List.mem_cons, List.not_mem_nil, true_or, or_true, false_or, or_false, and_true, true_and, and_self, List.getElem?_cons_succ, List.getElem?_cons_zero, Option.bind_some, Option.map_some, Option.map_none, List.map_cons, List.map_nil, List.length_cons, List.length_nil, List.filterMap_cons, List.filterMap_nil, List.cons_append, List.nil_append, List.append_nil, Nat.zero_add, Nat.add_zero, List.take_succ_cons, List.take_zero, List.take_nil, List.drop_succ_cons, List.drop_zero, List.drop_nil, List.all_cons, List.all_nil, Bool.and_true, Bool.true_and, Bool.false_and, Bool.and_false, reduceCtorEq, beq_iff_eq, beq_self_eq_true]
    exact h1 (by unfold lnB; rw [List.drop_of_length_le (by simp)]; rfl)
  | succ m ih =>
    intro j hj h1 h2
    rw [Lp_step]
    generalize hK : loopK (Cx e) 39 none [0, 1, 2, 12, 3, 17, 4, 35, 5, 6] (body39 2) _ K = KK
    unfold body39
    have hlt : (j : Int) < ((ls.length : Nat) : Int) := by omega
    have hw := wrap_succ j (by omega)
    have hj0 : (0 : Int) ≤ (j : Int) := by omega
    simp only [Tryz.f39, loops, Option.map_some, Option.getD_some, List.nil_append, List.append_nil, List.cons_append, List.getElem?_cons_zero, List.getElem?_cons_succ]
    obtain ⟨ws, hs⟩ := at_lt ls j (by omega)
    obtain ⟨lx, hk, hlx⟩ := hls.get hs
    have hlx : SlOf 1 (strs ws) lx := hlx
    have hd : lnB ls j = (!lineB ws || lnB ls (j + 1)) := by unfold lnB; rw [drop_all _ ls j ws hs, Bool.not_and]
    have hm := List.mem_of_getElem? hs
    have hc := call43 he (ws.length : Int) 1 10
    cases c1 : withinB 1 10 [(ws.length : Int)]
    · rw [c1] at hc
      simp -implicitDefEqProofs only [go_sem, repeatCells, splice, chunk, bsFin, ne_eq, not_true_eq_false, not_false_eq_true, List.headD_cons, Bool.false_eq_true, Nat.le_refl, Nat.zero_mul, Nat.one_mul, Nat.mul_one, assoc_setI, assoc_keep, ↓reduceIte, Nat.reduceEqDiff, Nat.reduceLT, Nat.reduceLeDiff, Nat.reduceAdd, Nat.reduceSub, Nat.reduceMul, decide_true, decide_false, Bool.not_true, Bool.not_false, List.mem_cons, List.not_mem_nil, true_or, or_true, false_or, or_false, and_true, true_and, and_self, List.getElem?_cons_succ, List.getElem?_cons_zero, Option.bind_some, Option.map_some, Option.map_none, List.map_cons, List.map_nil, List.length_cons, List.length_nil, List.filterMap_cons, List.filterMap_nil, List.cons_append, List.nil_append, List.append_nil, Nat.zero_add, Nat.add_zero, List.take_succ_cons, List.take_zero, List.take_nil, List.drop_succ_cons, List.drop_zero, List.drop_nil, List.all_cons, List.all_nil, Bool.and_true, Bool.true_and, Bool.false_and, Bool.and_false, reduceCtorEq, beq_iff_eq, beq_self_eq_true, intA, hlt, hw, hl.len, hl.cells, hl.idx hk, hlx.len, hlx.cells, strs_len, ← hls.1, hc]
      subst hK
      simp -implicitDefEqProofs only [go_sem, repeatCells, splice, chunk, bsFin, ne_eq, not_true_eq_false, not_false_eq_true, List.headD_cons, Bool.false_eq_true, Nat.le_refl, Nat.zero_mul, Nat.one_mul, Nat.mul_one, assoc_setI, assoc_keep, ↓reduceIte, Nat.reduceEqDiff, Nat.reduceLT, Nat.reduceLeDiff, Nat.reduceAdd, Nat.reduceSub, Nat.reduceMul, decide_true, decide_false, Bool.not_true, Bool.not_false, List.mem_cons, List.not_mem_nil, true_or, or_true, false_or, or_false, and_true, true_and, and_self, List.getElem?_cons_succ, List.getElem?_cons_zero, Option.bind_some, Option.map_some, Option.map_none, List.map_cons, List.map_nil, List.length_cons, List.length_nil, List.filterMap_cons, List.filterMap_nil, List.cons_append, List.nil_append, List.append_nil, Nat.zero_add, Nat.add_zero, List.take_succ_cons, List.take_zero, List.take_nil, List.drop_succ_cons, List.drop_zero, List.drop_nil, List.all_cons, List.all_nil, Bool.and_true, Bool.true_and, Bool.false_and, Bool.and_false, reduceCtorEq, beq_iff_eq, beq_self_eq_true]
      exact h2 (by rw [hd]; unfold lineB; rw [c1]; rfl) _ _ rfl
    · rw [c1] at hc
      simp -implicitDefEqProofs only [go_sem, repeatCells, splice, chunk, bsFin, ne_eq, not_true_eq_false, not_false_eq_true, List.headD_cons, Bool.false_eq_true, Nat.le_refl, Nat.zero_mul, Nat.one_mul, Nat.mul_one, assoc_setI, assoc_keep, ↓reduceIte, Nat.reduceEqDiff, Nat.reduceLT, Nat.reduceLeDiff, Nat.reduceAdd, Nat.reduceSub, Nat.reduceMul, decide_true, decide_false, Bool.not_true, Bool.not_false, List.mem_cons, List.not_mem_nil, true_or, or_true, false_or, or_false, and_true, true_and, and_self, List.getElem?_cons_succ, List.getElem?_cons_zero, Option.bind_some, Option.map_some, Option.map_none, List.map_cons, List.map_nil, List.length_cons, List.length_nil, List.filterMap_cons, List.filterMap_nil, List.cons_append, List.nil_append, List.append_nil, Nat.zero_add, Nat.add_zero, List.take_succ_cons, List.take_zero, List.take_nil, List.drop_succ_cons, List.drop_zero, List.drop_nil, List.all_cons, List.all_nil, Bool.and_true, Bool.true_and, Bool.false_and, Bool.and_false, reduceCtorEq, beq_iff_eq, beq_self_eq_true, intA, hlt, hw, hl.len, hl.cells, hl.idx hk, hlx.len, hlx.cells, strs_len, ← hls.1, hc]
      refine loop39w he ch i j id lxs l lx hl hk ws hlx (hz ws hm) (hzz ws hm) _ ws.length 0 (by omega) ?_ ?_
      · intro hf
        simp -implicitDefEqProofs only [go_sem, repeatCells, splice, chunk, bsFin, ne_eq, not_true_eq_false, not_false_eq_true, List.headD_cons, Bool.false_eq_true, Nat.le_refl, Nat.zero_mul, Nat.one_mul, Nat.mul_one, assoc_setI, assoc_keep, ↓reduceIte, Nat.reduceEqDiff, Nat.reduceLT, Nat.reduceLeDiff, Nat.reduceAdd, Nat.reduceSub, Nat.reduceMul, decide_true, decide_false, Bool.not_true, Bool.not_false, List.mem_cons, List.not_mem_nil, true_or, or_true, false_or, or_false, and_true, true_and, and_self, List.getElem?_cons_succ, List.getElem?_cons_zero, Option.bind_some, Option.map_some, Option.map_none, List.map_cons, List.map_nil, List.length_cons, List.length_nil, List.filterMap_cons, List.filterMap_nil, List.cons_append, List.nil_append, List.append_nil, Nat.zero_add, Nat.add_zero, List.take_succ_cons, List.take_zero, List.take_nil, List.drop_succ_cons, List.drop_zero, List.drop_nil, List.all_cons, List.all_nil, Bool.and_true, Bool.true_and, Bool.false_and, Bool.and_false, reduceCtorEq, beq_iff_eq, beq_self_eq_true, intA, hw]
        subst hK
        simp -implicitDefEqProofs only [go_sem, repeatCells, splice, chunk, bsFin, ne_eq, not_true_eq_false, not_false_eq_true, List.headD_cons, Bool.false_eq_true, Nat.le_refl, Nat.zero_mul, Nat.one_mul, Nat.mul_one, assoc_setI, assoc_keep, ↓reduceIte, Nat.reduceEqDiff, Nat.reduceLT, Nat.reduceLeDiff, Nat.reduceAdd, Nat.reduceSub, Nat.reduceMul, decide_true, decide_false, Bool.not_true, Bool.not_false, List.mem_cons, List.not_mem_nil, true_or, or_true, false_or, or_false, and_true, true_and, and_self, List.getElem?_cons_succ, List.getElem?_cons_zero, Option.bind_some, Option.map_some, Option.map_none, List.map_cons, List.map_nil, List.length_cons, List.length_nil, List.filterMap_cons, List.filterMap_nil, List.cons_append, List.nil_append, List.append_nil, Nat.zero_add, Nat.add_zero, List.take_succ_cons, List.take_zero, List.take_nil, List.drop_succ_cons, List.drop_zero, List.drop_nil, List.all_cons, List.all_nil, Bool.and_true, Bool.true_and, Bool.false_and, Bool.and_false, reduceCtorEq, beq_iff_eq, beq_self_eq_true]
        have hf' : ws.all wordB = true := by unfold wsB at hf; simpa using hf
        have hd' : lnB ls j = lnB ls (j + 1) := by rw [hd]; unfold lineB; rw [c1, hf']; rfl
        rw [hd'] at h1 h2
        exact ih (j + 1) (by omega) h1 h2
      · intro hf l HH hl
        subst hK
        simp -implicitDefEqProofs only [go_sem, repeatCells, splice, chunk, bsFin, ne_eq, not_true_eq_false, not_false_eq_true, List.headD_cons, Bool.false_eq_true, Nat.le_refl, Nat.zero_mul, Nat.one_mul, Nat.mul_one, assoc_setI, assoc_keep, ↓reduceIte, Nat.reduceEqDiff, Nat.reduceLT, Nat.reduceLeDiff, Nat.reduceAdd, Nat.reduceSub, Nat.reduceMul, decide_true, decide_false, Bool.not_true, Bool.not_false, List.mem_cons, List.not_mem_nil, true_or, or_true, false_or, or_false, and_true, true_and, and_self, List.getElem?_cons_succ, List.getElem?_cons_zero, Option.bind_some, Option.map_some, Option.map_none, List.map_cons, List.map_nil, List.length_cons, List.length_nil, List.filterMap_cons, List.filterMap_nil, List.cons_append, List.nil_append, List.append_nil, Nat.zero_add, Nat.add_zero, List.take_succ_cons, List.take_zero, List.take_nil, List.drop_succ_cons, List.drop_zero, List.drop_nil, List.all_cons, List.all_nil, Bool.and_true, Bool.true_and, Bool.false_and, Bool.and_false, reduceCtorEq, beq_iff_eq, beq_self_eq_true]
        have hf' : ws.all wordB = false := by unfold wsB at hf; simpa using hf
        exact h2 (by rw [hd]; unfold lineB; rw [hf', Bool.and_false]; rfl) l HH hl
def chB (t : Txt) (j : Nat) : Bool := !okFrom t j (t.drop j)
theorem chB_step (t : Txt) (j : Nat) (c : Chap) (h : t[j]? = some c) : chB t j = (!condC t j c || chB t (j + 1)) := by
  obtain ⟨hj, rfl⟩ := List.getElem?_eq_some_iff.1 h
  unfold chB
  rw [List.drop_eq_getElem_cons hj]
  simp only [okFrom, Bool.not_and]
set_option maxHeartbeats 4000000 in
theorem loop39c {e : Exts} (he : Quiet e) (t : Txt) (ht : Fits t) (xs : List AV) (ch : AV) (hch : SlOf 2 xs ch) (hn : t.length < 2 ^ 63) (hall : All2 ChapA t xs) (K : Post) :
    ∀ m j : Nat, j + m = t.length → (chB t j = false → AtK K (.exit 0) ⟨85, [(0, .agg [ch]), (1, .ptr 0 0 0), (2, .v (.bool false)), (12, .v (.bool false)), (3, intA (t.length : Nat))], []⟩ ⟨[some (.cells 0 0 24 1 false [ch])], 0⟩) → (chB t j = true → ∀ tl HH, assoc 2 tl = some (.v (.bool false)) → AtK K .ret ⟨85, tl, []⟩ HH) →
    Lp (Cx e) 39 none [0, 1, 2, 12, 3] (body39 0) ⟨85, [(0, .agg [ch]), (1, .ptr 0 0 0), (2, .v (.bool false)), (12, .v (.bool false)), (3, intA j)], []⟩ ⟨[some (.cells 0 0 24 1 false [ch])], 0⟩ K := by
  intro m
  induction m with
  | zero =>
    intro j hj h1 h2
    rw [Lp_step]
    generalize hK : loopK (Cx e) 39 none [0, 1, 2, 12, 3] (body39 0) _ K = KK
    unfold body39
    obtain rfl : j = t.length := by omega
    simp only [Tryz.f39, loops, Option.map_some, Option.getD_some, List.nil_append, List.append_nil, List.cons_append, List.getElem?_cons_zero, List.getElem?_cons_succ]
    simp -implicitDefEqProofs only [go_sem, repeatCells, splice, chunk, bsFin, ne_eq, not_true_eq_false, not_false_eq_true, List.headD_cons, Bool.false_eq_true, Nat.le_refl, Nat.zero_mul, Nat.one_mul, Nat.mul_one, assoc_setI, assoc_keep, ↓reduceIte, Nat.reduceEqDiff, Nat.reduceLT, Nat.reduceLeDiff, Nat.reduceAdd, Nat.reduceSub, Nat.reduceMul, decide_true, decide_false, Bool.not_true, Bool.not_false, List.mem_cons, List.not_mem_nil, true_or, or_true, false_or, or_false, and_true, true_and, and_self, List.getElem?_cons_succ, List.getElem?_cons_zero, Option.bind_some, Option.map_some, Option.map_none, List.map_cons, List.map_nil, List.length_cons, List.length_nil, List.filterMap_cons, List.filterMap_nil, List.cons_append, List.nil_append, List.append_nil, Nat.zero_add, Nat.add_zero, List.take_succ_cons, List.take_zero, List.take_nil, List.drop_succ_cons, List.drop_zero, List.drop_nil, List.all_cons, List.all_nil, Bool.and_true, Bool.true_and, Bool.false_and, Bool.and_false, reduceCtorEq, beq_iff_eq, beq_self_eq_true, intA, Int.lt_irrefl, hch.len, ← hall.1]
    subst hK
    simp -implicitDefEqProofs only [go_sem, repeatCells, splice, chunk, bsFin, ne_eq, not_true_eq_false, not_false_eq_true, List.headD_cons, Bool.false_eq_true, Nat.le_refl, Nat.zero_mul, Nat.one_mul, Nat.mul_one, assoc_setI, assoc_keep, ↓reduceIte, Nat.reduceEqDiff, Nat.reduceLT, Nat.reduceLeDiff, Nat.reduceAdd, Nat.reduceSub, Nat.reduceMul, decide_true, decide_false, Bool.not_true, Bool.not_false, List.mem_cons, List.not_mem_nil, true_or, or_true, false_or, or_false, and_true, true_and, and_self, List.getElem?_cons_succ, List.getElem?_cons_zero, Option.bind_some, Option.map_some, Option.map_none, List.map_cons, List.map_nil, List.length_cons, List.length_nil, List.filterMap_cons, List.filterMap_nil, List.cons_append, List.nil_append, List.append_nil, Nat.zero_add, Nat.add_zero, List.take_succ_cons, List.take_zero, List.take_nil, List.drop_succ_cons, List.drop_zero, List.drop_nil, List.all_cons, List.all_nil, Bool.and_true, Bool.true_and, Bool.false_and, Bool.and_false, reduceCtorEq, beq_iff_eq, beq_self_eq_true]
    exact h1 (by unfold chB; rw [List.drop_of_length_le (by simp)]; rfl)
  | succ m ih =>
    intro j hj h1 h2
    rw [Lp_step]
    generalize hK : loopK (Cx e) 39 none [0, 1, 2, 12, 3] (body39 0) _ K = KK
    unfold body39
    have hlt : (j : Int) < ((t.length : Nat) : Int) := by omega
    have hw := wrap_succ j (by omega)
    have hj0 : (0 : Int) ≤ (j : Int) := by omega
    simp only [Tryz.f39, loops, Option.map_some, Option.getD_some, List.nil_append, List.append_nil, List.cons_append, List.getElem?_cons_zero, List.getElem?_cons_succ]
    obtain ⟨c, hs⟩ := at_lt t j (by omega)
    obtain ⟨y, hy, l, rfl, lxs, hl, hls⟩ := hall.get hs
    have hd := chB_step t j c hs
    have hm := List.mem_of_getElem? hs
    have hca := call43 he c.1 0 9999
    have hcb := call43 he (c.2.length : Int) 1 10
    cases c1 : withinB 0 9999 [c.1]
    · rw [c1] at hca
      simp -implicitDefEqProofs only [go_sem, repeatCells, splice, chunk, bsFin, ne_eq, not_true_eq_false, not_false_eq_true, List.headD_cons, Bool.false_eq_true, Nat.le_refl, Nat.zero_mul, Nat.one_mul, Nat.mul_one, assoc_setI, assoc_keep, ↓reduceIte, Nat.reduceEqDiff, Nat.reduceLT, Nat.reduceLeDiff, Nat.reduceAdd, Nat.reduceSub, Nat.reduceMul, decide_true, decide_false, Bool.not_true, Bool.not_false, List.mem_cons, List.not_mem_nil, true_or, or_true, false_or, or_false, and_true, true_and, and_self, List.getElem?_cons_succ, List.getElem?_cons_zero, Option.bind_some, Option.map_some, Option.map_none, List.map_cons, List.map_nil, List.length_cons, List.length_nil, List.filterMap_cons, List.filterMap_nil, List.cons_append, List.nil_append, List.append_nil, Nat.zero_add, Nat.add_zero, List.take_succ_cons, List.take_zero, List.take_nil, List.drop_succ_cons, List.drop_zero, List.drop_nil, List.all_cons, List.all_nil, Bool.and_true, Bool.true_and, Bool.false_and, Bool.and_false, reduceCtorEq, beq_iff_eq, beq_self_eq_true, intA, hlt, hw, hch.len, hch.idx hy, hl.len, hl.cells, hl.flat, hl.bound, ← hls.1, ← hall.1, hca]
      subst hK
      simp -implicitDefEqProofs only [go_sem, repeatCells, splice, chunk, bsFin, ne_eq, not_true_eq_false, not_false_eq_true, List.headD_cons, Bool.false_eq_true, Nat.le_refl, Nat.zero_mul, Nat.one_mul, Nat.mul_one, assoc_setI, assoc_keep, ↓reduceIte, Nat.reduceEqDiff, Nat.reduceLT, Nat.reduceLeDiff, Nat.reduceAdd, Nat.reduceSub, Nat.reduceMul, decide_true, decide_false, Bool.not_true, Bool.not_false, List.mem_cons, List.not_mem_nil, true_or, or_true, false_or, or_false, and_true, true_and, and_self, List.getElem?_cons_succ, List.getElem?_cons_zero, Option.bind_some, Option.map_some, Option.map_none, List.map_cons, List.map_nil, List.length_cons, List.length_nil, List.filterMap_cons, List.filterMap_nil, List.cons_append, List.nil_append, List.append_nil, Nat.zero_add, Nat.add_zero, List.take_succ_cons, List.take_zero, List.take_nil, List.drop_succ_cons, List.drop_zero, List.drop_nil, List.all_cons, List.all_nil, Bool.and_true, Bool.true_and, Bool.false_and, Bool.and_false, reduceCtorEq, beq_iff_eq, beq_self_eq_true]
      exact h2 (by rw [hd]; unfold condC; rw [c1]; rfl) _ _ rfl
    · rw [c1] at hca
      cases c2 : withinB 1 10 [(c.2.length : Int)]
      · rw [c2] at hcb
        simp -implicitDefEqProofs only [go_sem, repeatCells, splice, chunk, bsFin, ne_eq, not_true_eq_false, not_false_eq_true, List.headD_cons, Bool.false_eq_true, Nat.le_refl, Nat.zero_mul, Nat.one_mul, Nat.mul_one, assoc_setI, assoc_keep, ↓reduceIte, Nat.reduceEqDiff, Nat.reduceLT, Nat.reduceLeDiff, Nat.reduceAdd, Nat.reduceSub, Nat.reduceMul, decide_true, decide_false, Bool.not_true, Bool.not_false, List.mem_cons, List.not_mem_nil, true_or, or_true, false_or, or_false, and_true, true_and, and_self, List.getElem?_cons_succ, List.getElem?_cons_zero, Option.bind_some, Option.map_some, Option.map_none, List.map_cons, List.map_nil, List.length_cons, List.length_nil, List.filterMap_cons, List.filterMap_nil, List.cons_append, List.nil_append, List.append_nil, Nat.zero_add, Nat.add_zero, List.take_succ_cons, List.take_zero, List.take_nil, List.drop_succ_cons, List.drop_zero, List.drop_nil, List.all_cons, List.all_nil, Bool.and_true, Bool.true_and, Bool.false_and, Bool.and_false, reduceCtorEq, beq_iff_eq, beq_self_eq_true, intA, hlt, hw, hch.len, hch.idx hy, hl.len, hl.cells, hl.flat, hl.bound, ← hls.1, ← hall.1, hca, hcb]
        subst hK
        simp -implicitDefEqProofs only [go_sem, repeatCells, splice, chunk, bsFin, ne_eq, not_true_eq_false, not_false_eq_true, List.headD_cons, Bool.false_eq_true, Nat.le_refl, Nat.zero_mul, Nat.one_mul, Nat.mul_one, assoc_setI, assoc_keep, ↓reduceIte, Nat.reduceEqDiff, Nat.reduceLT, Nat.reduceLeDiff, Nat.reduceAdd, Nat.reduceSub, Nat.reduceMul, decide_true, decide_false, Bool.not_true, Bool.not_false, List.mem_cons, List.not_mem_nil, true_or, or_true, false_or, or_false, and_true, true_and, and_self, List.getElem?_cons_succ, List.getElem?_cons_zero, Option.bind_some, Option.map_some, Option.map_none, List.map_cons, List.map_nil, List.length_cons, List.length_nil, List.filterMap_cons, List.filterMap_nil, List.cons_append, List.nil_append, List.append_nil, Nat.zero_add, Nat.add_zero, List.take_succ_cons, List.take_zero, List.take_nil, List.drop_succ_cons, List.drop_zero, List.drop_nil, List.all_cons, List.all_nil, Bool.and_true, Bool.true_and, Bool.false_and, Bool.and_false, reduceCtorEq, beq_iff_eq, beq_self_eq_true]
        exact h2 (by rw [hd]; unfold condC; rw [c1, c2]; rfl) _ _ rfl
      · rw [c2] at hcb
        simp -implicitDefEqProofs only [go_sem, repeatCells, splice, chunk, bsFin, ne_eq, not_true_eq_false, not_false_eq_true, List.headD_cons, Bool.false_eq_true, Nat.le_refl, Nat.zero_mul, Nat.one_mul, Nat.mul_one, assoc_setI, assoc_keep, ↓reduceIte, Nat.reduceEqDiff, Nat.reduceLT, Nat.reduceLeDiff, Nat.reduceAdd, Nat.reduceSub, Nat.reduceMul, decide_true, decide_false, Bool.not_true, Bool.not_false, List.mem_cons, List.not_mem_nil, true_or, or_true, false_or, or_false, and_true, true_and, and_self, List.getElem?_cons_succ, List.getElem?_cons_zero, Option.bind_some, Option.map_some, Option.map_none, List.map_cons, List.map_nil, List.length_cons, List.length_nil, List.filterMap_cons, List.filterMap_nil, List.cons_append, List.nil_append, List.append_nil, Nat.zero_add, Nat.add_zero, List.take_succ_cons, List.take_zero, List.take_nil, List.drop_succ_cons, List.drop_zero, List.drop_nil, List.all_cons, List.all_nil, Bool.and_true, Bool.true_and, Bool.false_and, Bool.and_false, reduceCtorEq, beq_iff_eq, beq_self_eq_true, intA, hlt, hw, hch.len, hch.idx hy, hl.len, hl.cells, hl.flat, hl.bound, ← hls.1, ← hall.1, hca, hcb]
        refine loop39i t xs ch hch hall j (by omega) (by omega) c.1 l _ j 0 (by omega) ?_ ?_
        · intro hf
          simp -implicitDefEqProofs only [go_sem, repeatCells, splice, chunk, bsFin, ne_eq, not_true_eq_false, not_false_eq_true, List.headD_cons, Bool.false_eq_true, Nat.le_refl, Nat.zero_mul, Nat.one_mul, Nat.mul_one, assoc_setI, assoc_keep, ↓reduceIte, Nat.reduceEqDiff, Nat.reduceLT, Nat.reduceLeDiff, Nat.reduceAdd, Nat.reduceSub, Nat.reduceMul, decide_true, decide_false, Bool.not_true, Bool.not_false, List.mem_cons, List.not_mem_nil, true_or, or_true, false_or, or_false, and_true, true_and, and_self, List.getElem?_cons_succ, List.getElem?_cons_zero, Option.bind_some, Option.map_some, Option.map_none, List.map_cons, List.map_nil, List.length_cons, List.length_nil, List.filterMap_cons, List.filterMap_nil, List.cons_append, List.nil_append, List.append_nil, Nat.zero_add, Nat.add_zero, List.take_succ_cons, List.take_zero, List.take_nil, List.drop_succ_cons, List.drop_zero, List.drop_nil, List.all_cons, List.all_nil, Bool.and_true, Bool.true_and, Bool.false_and, Bool.and_false, reduceCtorEq, beq_iff_eq, beq_self_eq_true, intA]
          refine loop39l he ch j c.1 lxs l hl c.2 hls (ht.lines c hm) (ht.words c hm) (ht.size c hm) _ c.2.length 0 (by omega) ?_ ?_
          · intro hg
            have hg' : c.2.all lineB = true := by unfold lnB at hg; simpa using hg
            simp -implicitDefEqProofs only [go_sem, repeatCells, splice, chunk, bsFin, ne_eq, not_true_eq_false, not_false_eq_true, List.headD_cons, Bool.false_eq_true, Nat.le_refl, Nat.zero_mul, Nat.one_mul, Nat.mul_one, assoc_setI, assoc_keep, ↓reduceIte, Nat.reduceEqDiff, Nat.reduceLT, Nat.reduceLeDiff, Nat.reduceAdd, Nat.reduceSub, Nat.reduceMul, decide_true, decide_false, Bool.not_true, Bool.not_false, List.mem_cons, List.not_mem_nil, true_or, or_true, false_or, or_false, and_true, true_and, and_self, List.getElem?_cons_succ, List.getElem?_cons_zero, Option.bind_some, Option.map_some, Option.map_none, List.map_cons, List.map_nil, List.length_cons, List.length_nil, List.filterMap_cons, List.filterMap_nil, List.cons_append, List.nil_append, List.append_nil, Nat.zero_add, Nat.add_zero, List.take_succ_cons, List.take_zero, List.take_nil, List.drop_succ_cons, List.drop_zero, List.drop_nil, List.all_cons, List.all_nil, Bool.and_true, Bool.true_and, Bool.false_and, Bool.and_false, reduceCtorEq, beq_iff_eq, beq_self_eq_true, intA, hw]
            subst hK
            simp -implicitDefEqProofs only [go_sem, repeatCells, splice, chunk, bsFin, ne_eq, not_true_eq_false, not_false_eq_true, List.headD_cons, Bool.false_eq_true, Nat.le_refl, Nat.zero_mul, Nat.one_mul, Nat.mul_one, assoc_setI, assoc_keep, ↓reduceIte, Nat.reduceEqDiff, Nat.reduceLT, Nat.reduceLeDiff, Nat.reduceAdd, Nat.reduceSub, Nat.reduceMul, decide_true, decide_false, Bool.not_true, Bool.not_false, List.mem_cons, List.not_mem_nil, true_or, or_true, false_or, or_false, and_true, true_and, and_self, List.getElem?_cons_succ, List.getElem?_cons_zero, Option.bind_some, Option.map_some, Option.map_none, List.map_cons, List.map_nil, List.length_cons, List.length_nil, List.filterMap_cons, List.filterMap_nil, List.cons_append, List.nil_append, List.append_nil, Nat.zero_add, Nat.add_zero, List.take_succ_cons, List.take_zero, List.take_nil, List.drop_succ_cons, List.drop_zero, List.drop_nil, List.all_cons, List.all_nil, Bool.and_true, Bool.true_and, Bool.false_and, Bool.and_false, reduceCtorEq, beq_iff_eq, beq_self_eq_true, trim_at, hch.flat, hch.bound, hch.cells]
            have hd' : chB t j = chB t (j + 1) := by rw [hd]; unfold condC; rw [c1, c2, hf, hg']; rfl
            rw [hd'] at h1 h2
            exact ih (j + 1) (by omega) h1 h2
          · intro hg tl HH htl
            have hg' : c.2.all lineB = false := by unfold lnB at hg; simpa using hg
            subst hK
            simp -implicitDefEqProofs only [go_sem, repeatCells, splice, chunk, bsFin, ne_eq, not_true_eq_false, not_false_eq_true, List.headD_cons, Bool.false_eq_true, Nat.le_refl, Nat.zero_mul, Nat.one_mul, Nat.mul_one, assoc_setI, assoc_keep, ↓reduceIte, Nat.reduceEqDiff, Nat.reduceLT, Nat.reduceLeDiff, Nat.reduceAdd, Nat.reduceSub, Nat.reduceMul, decide_true, decide_false, Bool.not_true, Bool.not_false, List.mem_cons, List.not_mem_nil, true_or, or_true, false_or, or_false, and_true, true_and, and_self, List.getElem?_cons_succ, List.getElem?_cons_zero, Option.bind_some, Option.map_some, Option.map_none, List.map_cons, List.map_nil, List.length_cons, List.length_nil, List.filterMap_cons, List.filterMap_nil, List.cons_append, List.nil_append, List.append_nil, Nat.zero_add, Nat.add_zero, List.take_succ_cons, List.take_zero, List.take_nil, List.drop_succ_cons, List.drop_zero, List.drop_nil, List.all_cons, List.all_nil, Bool.and_true, Bool.true_and, Bool.false_and, Bool.and_false, reduceCtorEq, beq_iff_eq, beq_self_eq_true]
            exact h2 (by rw [hd]; unfold condC; rw [hg', Bool.and_false]; rfl) tl HH htl
        · intro hf tl HH htl
          subst hK
          simp -implicitDefEqProofs only [go_sem, repeatCells, splice, chunk, bsFin, ne_eq, not_true_eq_false, not_false_eq_true, List.headD_cons, Bool.false_eq_true, Nat.le_refl, Nat.zero_mul, Nat.one_mul, Nat.mul_one, assoc_setI, assoc_keep, ↓reduceIte, Nat.reduceEqDiff, Nat.reduceLT, Nat.reduceLeDiff, Nat.reduceAdd, Nat.reduceSub, Nat.reduceMul, decide_true, decide_false, Bool.not_true, Bool.not_false, List.mem_cons, List.not_mem_nil, true_or, or_true, false_or, or_false, and_true, true_and, and_self, List.getElem?_cons_succ, List.getElem?_cons_zero, Option.bind_some, Option.map_some, Option.map_none, List.map_cons, List.map_nil, List.length_cons, List.length_nil, List.filterMap_cons, List.filterMap_nil, List.cons_append, List.nil_append, List.append_nil, Nat.zero_add, Nat.add_zero, List.take_succ_cons, List.take_zero, List.take_nil, List.drop_succ_cons, List.drop_zero, List.drop_nil, List.all_cons, List.all_nil, Bool.and_true, Bool.true_and, Bool.false_and, Bool.and_false, reduceCtorEq, beq_iff_eq, beq_self_eq_true]
          exact h2 (by rw [hd]; unfold condC; rw [c1, c2, hf]; rfl) tl HH htl
set_option maxHeartbeats 1000000 in
theorem ans39 {e : Exts} (he : Quiet e) (t : Txt) (ht : Fits t) (x : AV) (hx : TextA t x) : Ans (Cx e) 39 [x] (.v (.bool (textB t))) := by
  obtain ⟨ch, rfl, xs, hch, hall⟩ := hx
  unfold Ans
  rw [fn_step (fn_39 e) (show Tryz.f39.body = some _ from rfl)]
  have hc := call43 he (t.length : Int) 1 6
  cases h1 : withinB 1 6 [(t.length : Int)]
  · rw [h1] at hc
    simp -implicitDefEqProofs only [Tryz.f39, intA, go_sem, repeatCells, splice, chunk, bsFin, ne_eq, not_true_eq_false, not_false_eq_true, List.headD_cons, Bool.false_eq_true, Nat.le_refl, Nat.zero_mul, Nat.one_mul, Nat.mul_one, assoc_setI, assoc_keep, ↓reduceIte, Nat.reduceEqDiff, Nat.reduceLT, Nat.reduceLeDiff, Nat.reduceAdd, Nat.reduceSub, Nat.reduceMul, decide_true, decide_false, Bool.not_true, Bool.not_false, List.mem_cons, List.not_mem_nil, true_or, or_true, false_or, or_false, and_true, true_and, and_self, List.getElem?_cons_succ, List.getElem?_cons_zero, Option.bind_some, Option.map_some, Option.map_none, List.map_cons, List.map_nil, List.length_cons, List.length_nil, List.filterMap_cons, List.filterMap_nil, List.cons_append, List.nil_append, List.append_nil, Nat.zero_add, Nat.add_zero, List.take_succ_cons, List.take_zero, List.take_nil, List.drop_succ_cons, List.drop_zero, List.drop_nil, List.all_cons, List.all_nil, Bool.and_true, Bool.true_and, Bool.false_and, Bool.and_false, reduceCtorEq, beq_iff_eq, beq_self_eq_true, hch.len, hch.cells, hch.flat, hch.bound, ← hall.1, hc]
    unfold textB; rw [h1]; rfl
  · rw [h1] at hc
    simp -implicitDefEqProofs only [Tryz.f39, intA, go_sem, repeatCells, splice, chunk, bsFin, ne_eq, not_true_eq_false, not_false_eq_true, List.headD_cons, Bool.false_eq_true, Nat.le_refl, Nat.zero_mul, Nat.one_mul, Nat.mul_one, assoc_setI, assoc_keep, ↓reduceIte, Nat.reduceEqDiff, Nat.reduceLT, Nat.reduceLeDiff, Nat.reduceAdd, Nat.reduceSub, Nat.reduceMul, decide_true, decide_false, Bool.not_true, Bool.not_false, List.mem_cons, List.not_mem_nil, true_or, or_true, false_or, or_false, and_true, true_and, and_self, List.getElem?_cons_succ, List.getElem?_cons_zero, Option.bind_some, Option.map_some, Option.map_none, List.map_cons, List.map_nil, List.length_cons, List.length_nil, List.filterMap_cons, List.filterMap_nil, List.cons_append, List.nil_append, List.append_nil, Nat.zero_add, Nat.add_zero, List.take_succ_cons, List.take_zero, List.take_nil, List.drop_succ_cons, List.drop_zero, List.drop_nil, List.all_cons, List.all_nil, Bool.and_true, Bool.true_and, Bool.false_and, Bool.and_false, reduceCtorEq, beq_iff_eq, beq_self_eq_true, hch.len, hch.cells, hch.flat, hch.bound, ← hall.1, hc]
    refine loop39c he t ht xs ch hch ht.chs hall _ t.length 0 (by omega) ?_ ?_
    · intro hf
      have hf' : okFrom t 0 t = true := by unfold chB at hf; simpa using hf
      simp -implicitDefEqProofs only [go_sem, repeatCells, splice, chunk, bsFin, ne_eq, not_true_eq_false, not_false_eq_true, List.headD_cons, Bool.false_eq_true, Nat.le_refl, Nat.zero_mul, Nat.one_mul, Nat.mul_one, assoc_setI, assoc_keep, ↓reduceIte, Nat.reduceEqDiff, Nat.reduceLT, Nat.reduceLeDiff, Nat.reduceAdd, Nat.reduceSub, Nat.reduceMul, decide_true, decide_false, Bool.not_true, Bool.not_false, List.mem_cons, List.not_mem_nil, true_or, or_true, false_or, or_false, and_true, true_and, and_self, List.getElem?_cons_succ, List.getElem?_cons_zero, Option.bind_some, Option.map_some, Option.map_none, List.map_cons, List.map_nil, List.length_cons, List.length_nil, List.filterMap_cons, List.filterMap_nil, List.cons_append, List.nil_append, List.append_nil, Nat.zero_add, Nat.add_zero, List.take_succ_cons, List.take_zero, List.take_nil, List.drop_succ_cons, List.drop_zero, List.drop_nil, List.all_cons, List.all_nil, Bool.and_true, Bool.true_and, Bool.false_and, Bool.and_false, reduceCtorEq, beq_iff_eq, beq_self_eq_true]
      unfold textB; rw [h1, hf']; rfl
    · intro hf tl HH htl
      have hf' : okFrom t 0 t = false := by unfold chB at hf; simpa using hf
      simp -implicitDefEqProofs only [go_sem, repeatCells, splice, chunk, bsFin, ne_eq, not_true_eq_false, not_false_eq_true, List.headD_cons, Bool.false_eq_true, Nat.le_refl, Nat.zero_mul, Nat.one_mul, Nat.mul_one, assoc_setI, assoc_keep, ↓reduceIte, Nat.reduceEqDiff, Nat.reduceLT, Nat.reduceLeDiff, Nat.reduceAdd, Nat.reduceSub, Nat.reduceMul, decide_true, decide_false, Bool.not_true, Bool.not_false, List.mem_cons, List.not_mem_nil, true_or, or_true, false_or, or_false, and_true, true_and, and_self, List.getElem?_cons_succ, List.getElem?_cons_zero, Option.bind_some, Option.map_some, Option.map_none, List.map_cons, List.map_nil, List.length_cons, List.length_nil, List.filterMap_cons, List.filterMap_nil, List.cons_append, List.nil_append, List.append_nil, Nat.zero_add, Nat.add_zero, List.take_succ_cons, List.take_zero, List.take_nil, List.drop_succ_cons, List.drop_zero, List.drop_nil, List.all_cons, List.all_nil, Bool.and_true, Bool.true_and, Bool.false_and, Bool.and_false, reduceCtorEq, beq_iff_eq, beq_self_eq_true, htl]
      unfold textB; rw [h1, hf']; rfl
end Go.Ev
/- Iterators: what a function does that hands things to a loop's body. -/
namespace Go.Ev
/-- more objects behind those that are there -/
def Heap.plus (H : Heap) (E : List (Option AObj)) : Heap := { H with objs := H.objs ++ E }
theorem plus_size (H : Heap) (E : List (Option AObj)) : (H.plus E).size = H.size + E.length := by simp [Heap.plus, Heap.size]
theorem plus_lock (H : Heap) (E : List (Option AObj)) : (H.plus E).lock = H.lock := rfl
theorem plus_nil (H : Heap) : H.plus [] = H := by simp [Heap.plus]
theorem plus_plus (H : Heap) (E F : List (Option AObj)) : (H.plus E).plus F = H.plus (E ++ F) := by simp [Heap.plus]
theorem plus_get {H : Heap} {b : Nat} (E : List (Option AObj)) (h : b < H.size) : (H.plus E).get b = H.get b := by
  unfold Heap.get Heap.plus; simp only; rw [List.getElem?_append_left h]
theorem plus_get_hi {H : Heap} {b : Nat} (E : List (Option AObj)) (h : H.size ≤ b) : (H.plus E).get b = (E[b - H.size]?).join := by
  unfold Heap.get Heap.plus; simp only; rw [List.getElem?_append_right h]; rfl
theorem plus_row {H : Heap} {b v : Nat} (E : List (Option AObj)) (h : b < H.size) : (H.plus E).row b v = H.row b v := by
  unfold Heap.row; rw [plus_get E h]
theorem sop_left {α : Type} (x : α) : ∀ (b : Nat) (l E : List α), b < l.length → setOrPush x b (l ++ E) = setOrPush x b l ++ E
  | _, [], _, h => by simp at h
  | 0, y :: r, E, _ => rfl
  | n + 1, y :: r, E, h => by simp only [List.cons_append, setOrPush]; rw [sop_left x n r E (by simpa using h)]
theorem sop_right {α : Type} (x : α) : ∀ (b : Nat) (l E : List α), l.length ≤ b → setOrPush x b (l ++ E) = l ++ setOrPush x (b - l.length) E
  | b, [], E, _ => rfl
  | 0, y :: r, E, h => by simp at h
  | n + 1, y :: r, E, h => by
    simp only [List.cons_append, setOrPush]; rw [sop_right x n r E (by simpa using h)]; simp
theorem plus_put {H : Heap} {b : Nat} (E : List (Option AObj)) (o : AObj) (h : b < H.size) : (H.plus E).put b o = (H.put b o).plus E := by
  unfold Heap.put Heap.plus; simp only; rw [sop_left _ _ _ _ h]
theorem plus_put_hi {H : Heap} {b : Nat} (E : List (Option AObj)) (o : AObj) (h : H.size ≤ b) : (H.plus E).put b o = H.plus (setOrPush (some o) (b - H.size) E) := by
  unfold Heap.put Heap.plus; simp only; rw [sop_right _ _ _ _ h]; rfl
theorem put_push {H : Heap} (o : AObj) : H.put H.size o = H.plus [some o] := by
  have h := plus_put_hi (H := H) (b := H.size) [] o (Nat.le_refl _)
  rw [plus_nil] at h
  rw [h, Nat.sub_self]; rfl
theorem plus_push {H : Heap} (E : List (Option AObj)) (o : AObj) : (H.plus E).put (H.plus E).size o = H.plus (E ++ [some o]) := by rw [put_push, plus_plus]
theorem put_sizeI {H : Heap} {b : Nat} (o : AObj) (h : b < H.size) : (H.put b o).size = H.size := by
  unfold Heap.put Heap.size at *
  simp only
  have : ∀ (b : Nat) (l : List (Option AObj)), b < l.length → (setOrPush (some o) b l).length = l.length := by
    intro b l
    induction l generalizing b with
    | nil => intro h; simp at h
    | cons x r ih => intro h; cases b with
      | zero => rfl
      | succ n => simp only [setOrPush, List.length_cons]; rw [ih n (by simpa using h)]
  exact this b _ h
theorem trim_plus {H : Heap} (E F : List (Option AObj)) (vs : List AV) (ms : List Nat) {n : Nat} (hn : n = H.size + E.length) : ∃ G, (H.plus (E ++ F)).trim n vs ms = H.plus (E ++ G) := by
  subst hn
  unfold Heap.trim
  split
  · refine ⟨[], ?_⟩
    unfold Heap.plus Heap.size
    simp only [List.append_nil]
    congr 1
    rw [← List.append_assoc, List.take_append_of_le_length (by simp), List.take_of_length_le (by simp)]
  · exact ⟨F, rfl⟩
/-! ### rounds -/
section
variable {C : Cfg} {me : FuncId}
def bodyK (l n : Nat) (K : Bool → Heap → Prop) : Post := fun e _ H3 =>
  ∃ r3 j, loopObj H3 l = some r3 ∧ jumpOf e = some j ∧ K j.isNone ((H3.put l (.loop { r3 with state := if j.isNone then .ready else .done, pending := j })).trim n [] [])
def asgK (C : Cfg) (l n : Nat) (r : ALoop) (K : Bool → Heap → Prop) : Post := fun e a1 H1 =>
  e = .normal ∧ ∃ r1, loopObj H1 l = some r1 ∧ r1.state = .ready ∧ Wp C r.fn (some l) r.body a1 (H1.put l (.loop { r1 with state := .busy })) (bodyK l n K)
theorem round_step {l : Nat} {args : List AV} {H : Heap} {r : ALoop} {K : Bool → Heap → Prop} (hr : loopObj H l = some r) (ha : args.length = r.params.size) (hl : H.lock ≤ l)
    (h : Wp C r.fn (some l) r.assign ⟨r.size, setTmps r.size r.tmps (r.params.toList.zip args), []⟩ H (asgK C l H.size r K)) :
    ∃ b H', lim C (.round l args H) = some (.ret (.v (.bool b)) H') ∧ K b H' := by
  unfold Wp at h
  rw [bindO_iff] at h
  obtain ⟨⟨e1, a1, H1⟩, h1, he, r1, hr1, hs1, h2⟩ := h
  simp only at he h2 hr1
  subst he
  unfold Wp at h2
  rw [bindO_iff] at h2
  obtain ⟨⟨e2, a2, H3⟩, h3, r3, j, hr3, hj, hK⟩ := h2
  simp only at hr3 hj hK
  refine ⟨j.isNone, _, ?_, hK⟩
  rw [lim_eq]
  simp only [taskA, hr]
  rw [if_pos ⟨ha, hl⟩, h1]
  simp only [hr1, hs1, if_true, h3, hr3, hj]
def runIt {S : Type} (stp : S → List AV → Bool × S) : List (List AV) → S → Bool × S
  | [], s => (true, s)
  | x :: r, s => if (stp s x).1 then runIt stp r (stp s x).2 else (false, (stp s x).2)
theorem callB_yld {f : FuncId} {d : Option Tmp} {args : List AV} {l : Nat} (hy : AV.yld l ∈ args) {H H' : Heap} {v : AV} (h : lim C (.call f args H) = some (.ret v H')) : callB C (lim C) me f d args H = some (v, H'.trim H.size [v] []) := by
  have hb : Nat.beq (boundL args) 0 = false := by
    have h1 : ¬ boundL args ≤ 0 := fun hle => by
      have := boundL_le.1 hle _ hy
      simp [bound] at this
    cases hq : Nat.beq (boundL args) 0
    · rfl
    · exact absurd (Nat.le_of_eq (Nat.eq_of_beq_eq_true hq)) h1
  have hany : args.any isYld = true := List.any_eq_true.2 ⟨_, hy, rfl⟩
  have hk : callKind C me f d args = 0 := by
    unfold callKind; rw [hb, hany]; split <;> rfl
  unfold callB; rw [hk]; simp only [h]
theorem wp_range0 {g : Operand} {ps : Array Tmp} {asg body : Code} {a : AAct} {H : Heap} {K : Post} {f : FuncId} {first cap : List AV} (hg : a.eval g = some (.fn (.func f) first cap))
    {v : AV} {H2 : Heap} (hc : callB C (lim C) me f none (first ++ [.yld (H.size + 1)] ++ cap) ((H.put H.size .dfr).put (H.size + 1) (.loop { fn := me, state := .ready, pending := none, size := a.size, tmps := a.tmps, params := ps, assign := asg, body := body, dfr := H.size })) = some (v, H2))
    {r : ALoop} (hr : loopObj H2 (H.size + 1) = some r) (hs : r.state ≠ .busy) (hd : r.dfr = H.size)
    (hK : match r.pending with
      | none => AtK K .normal { a with marks := H.size :: a.marks } (H2.put (H.size + 1) .dead)
      | some .ret => AtK K .ret { a with marks := H.size :: a.marks } (H2.put (H.size + 1) .dead)
      | some (.exit id) => AtK K (.exit id) { a with marks := H.size :: a.marks } (H2.put (H.size + 1) .dead)
      | _ => False) : Wp C me none (.rangeFunc g ps asg body) a H K := by
  unfold Wp
  simp only [codeA, hg, hc, hr]
  rw [if_neg (by rintro (h | h); exact hs h; exact h hd)]
  split at hK
  · rename_i hp; simp only [hp]; exact hK
  · rename_i hp; simp only [hp]; exact hK
  · rename_i hp; simp only [hp]; exact hK
  · exact hK.elim
end
end Go.Ev
namespace Go.Ev
/-! ### the end of memory -/
theorem plus_mid_put {X : Heap} {n : Nat} (hn : X.size = n) (A B : List (Option AObj)) (o : Option AObj) (o' : AObj) : (X.plus (A ++ o :: B)).put (n + A.length) o' = X.plus (A ++ some o' :: B) := by
  subst hn
  rw [plus_put_hi _ _ (by omega)]
  congr 1
  rw [sop_right _ _ _ _ (by omega)]
  congr 1
  rw [show X.size + A.length - X.size - A.length = 0 by omega]; rfl
theorem plus_mid_get {X : Heap} {n : Nat} (hn : X.size = n) (A B : List (Option AObj)) (o : Option AObj) : (X.plus (A ++ o :: B)).get (n + A.length) = o := by
  subst hn
  rw [plus_get_hi _ (by omega)]
  rw [show X.size + A.length - X.size = A.length by omega, List.getElem?_append_right (Nat.le_refl _), Nat.sub_self]; rfl
theorem plus_put_end {X : Heap} {n : Nat} (hn : X.size = n) (E : List (Option AObj)) (o : AObj) : (X.plus E).put (n + E.length) o = X.plus (E ++ [some o]) := by
  subst hn; rw [← plus_size]; exact plus_push E o
theorem plus_row_at {X : Heap} {n : Nat} (hn : X.size = n) (E G : List (Option AObj)) (v w m e sz g) (cs : List AV) : (X.plus (E ++ some (.cells w m e sz g cs) :: G)).row (n + E.length) v = if w = v then some (m, e, sz, g, cs) else none := by
  subst hn
  unfold Heap.row
  rw [plus_get_hi _ (by omega)]
  have : (E ++ some (AObj.cells w m e sz g cs) :: G)[X.size + E.length - X.size]? = some (some (.cells w m e sz g cs)) := by
    rw [show X.size + E.length - X.size = E.length by omega, List.getElem?_append_right (Nat.le_refl _), Nat.sub_self]; rfl
  rw [this]; rfl
theorem plus_store_end {X : Heap} {n : Nat} (hn : X.size = n) (hl : X.lock ≤ n) (E : List (Option AObj)) (v m e sz g) (cs : List AV) (off : Nat) (xs : List AV) :
    storeCells (X.plus (E ++ [some (.cells v m e sz g cs)])) (n + E.length) v off xs = if off + xs.length ≤ cs.length ∧ xs.all AV.flat = true then some (X.plus (E ++ [some (.cells v (Nat.max m (boundL xs)) e sz g (splice off xs cs))])) else none := by
  unfold storeCells
  rw [plus_row_at hn E [], if_pos rfl]
  simp only
  have hlk : (X.plus (E ++ [some (AObj.cells v m e sz g cs)])).lock ≤ n + E.length := by rw [plus_lock]; omega
  simp only [hlk, true_and]
  split
  · congr 1
    subst hn
    rw [plus_put_hi _ _ (by omega)]
    congr 1
    rw [sop_right _ _ _ _ (by omega)]
    congr 1
    rw [show X.size + E.length - X.size - E.length = 0 by omega]; rfl
  · rfl
theorem settle_end {X : Heap} {n : Nat} (hn : X.size = n) (E : List (Option AObj)) (o : AObj) : settleH (n + E.length) (X.plus (E ++ [some o])) = X.plus (E ++ [some o]) := by
  unfold settleH
  rw [if_neg]
  subst hn
  have : (X.plus (E ++ [some o])).objs.drop (X.size + E.length) = [some o] := by
    unfold Heap.plus Heap.size
    simp only
    rw [← List.append_assoc, List.drop_append_of_le_length (by simp), List.drop_of_length_le (by simp), List.nil_append]
  rw [this]; simp
end Go.Ev
namespace Go.Ev
end Go.Ev
namespace Go.Ev
section
variable {C : Cfg}
theorem asgK_mk {l n : Nat} {r r1 : ALoop} {K : Bool → Heap → Prop} {a1 : AAct} {H1 : Heap} (h1 : loopObj H1 l = some r1) (hs : r1.state = .ready) (h : Wp C r.fn (some l) r.body a1 (H1.put l (.loop { r1 with state := .busy })) (bodyK l n K)) : AtK (asgK C l n r K) .normal a1 H1 :=
  ⟨rfl, r1, h1, hs, h⟩
theorem bodyK_mk {l n : Nat} {K : Bool → Heap → Prop} {e : AExit} {a : AAct} {H3 : Heap} {r3 : ALoop} {j : Option Code} (h1 : loopObj H3 l = some r3) (hj : jumpOf e = some j) (h : K j.isNone ((H3.put l (.loop { r3 with state := if j.isNone then .ready else .done, pending := j })).trim n [] [])) : AtK (bodyK l n K) e a H3 :=
  ⟨r3, j, h1, hj, h⟩
/-! ### an iterator over an iterator: what it lays before it begins -/
def wBox (l t : Nat) : AObj := .cells 0 (l + 1) t 1 false [.yld l]
def hq {S : Type} (hp : S → Heap) (E : List (Option AObj)) (l t : Nat) (q : S × ALoop) : Heap := (hp q.1).plus (E ++ [some (wBox l t), some .dfr, some (.loop q.2)])
variable {l t n : Nat} {S : Type} {hp : S → Heap} {stp : S → List AV → Bool × S} {ok : List AV → Prop} {live : S → Prop}
end
end Go.Ev
namespace Go.Ev
open Go.Proofs
set_option maxRecDepth 100000
set_option linter.unusedSimpArgs false
def placeA (i k : Nat) (w : Int) : AV := .agg [intA i, intA k, intA w]
def slElems (x : AV) : List AV := match x with | .vs _ xs _ => xs | _ => []
theorem SlOf.elems {sz : Nat} {xs : List AV} {x : AV} (h : SlOf sz xs x) : slElems x = xs := by
  rcases h with ⟨rfl, rfl⟩ | ⟨cap, rfl⟩ <;> rfl
def linesOf (y : AV) : List AV := match y with | .agg [_, l] => slElems l | _ => []
def lineIts (i : Nat) : Nat → List AV → List (List AV)
  | _, [] => []
  | k, x :: r => [placeA i k 0, x] :: lineIts i (k + 1) r
def chapIts : Nat → List AV → List (List AV)
  | _, [] => []
  | i, y :: r => lineIts i 0 (linesOf y) ++ chapIts (i + 1) r
theorem lineIts_drop (i : Nat) (xs : List AV) (j : Nat) (x : AV) (h : xs[j]? = some x) : lineIts i j (xs.drop j) = [placeA i j 0, x] :: lineIts i (j + 1) (xs.drop (j + 1)) := by
  obtain ⟨hj, rfl⟩ := List.getElem?_eq_some_iff.1 h
  rw [List.drop_eq_getElem_cons hj]; rfl
theorem lineIts_of (i : Nat) : ∀ (l : List AV) (k : Nat) (x : List AV), x ∈ lineIts i k l → ∃ j z, l[j]? = some z ∧ x = [placeA i (k + j) 0, z]
  | [], _, _, h => by simp [lineIts] at h
  | y :: r, k, x, h => by
    rcases List.mem_cons.1 h with rfl | h
    · exact ⟨0, y, rfl, rfl⟩
    · obtain ⟨j, z, h1, h2⟩ := lineIts_of i r (k + 1) x h
      exact ⟨j + 1, z, by simpa using h1, by rw [h2, show k + 1 + j = k + (j + 1) by omega]⟩
/-- a chapter in memory that nothing turns -/
def OkCh (y : AV) : Prop := ∃ id l0 lxs, y = .agg [intA id, l0] ∧ SlOf 1 lxs l0 ∧ (∀ x ∈ lxs, x.cells = [x]) ∧ lxs.length < 2 ^ 63
theorem chapIts_drop (xs : List AV) (i : Nat) (y : AV) (h : xs[i]? = some y) : chapIts i (xs.drop i) = lineIts i 0 (linesOf y) ++ chapIts (i + 1) (xs.drop (i + 1)) := by
  obtain ⟨hj, rfl⟩ := List.getElem?_eq_some_iff.1 h
  rw [List.drop_eq_getElem_cons hj]; rfl
theorem fn_ex {C : Cfg} {f : FuncId} {args : List AV} {H : Heap} {K : PostO} (h : Fn' C f args H K) : ∃ v H', lim C (.call f args H) = some (.ret v H') ∧ K v H' := by
  unfold Fn' at h
  rw [bindO_iff] at h
  obtain ⟨o, h1, h2⟩ := h
  cases o with
  | ret v H' => exact ⟨v, H', h1, h2⟩
  | go => exact h2.elim
end Go.Ev
namespace Go.Ev
open Go.Proofs
set_option maxRecDepth 100000
set_option linter.unusedSimpArgs false
theorem freeze_cl {sz : Nat} {xs : List AV} {ch : AV} (h : SlOf sz xs ch) (f : FuncId) (t : TypeId) : freezeV ⟨[some (.cells 0 0 t 1 false [ch])], 0⟩ 1000000 (.fn (.func f) [] [.ptr 0 0 0]) = some (.fn (.func f) [] [.ro (.agg [ch]) 0]) := by
  rcases h with ⟨rfl, rfl⟩ | ⟨cap, rfl⟩
  · kernel_rfl
  · kernel_rfl
set_option maxHeartbeats 1000000 in
theorem ans64 {e : Exts} (ch : AV) (xs : List AV) (hch : SlOf 2 xs ch) : Ans (Cx e) 64 [.agg [ch]] (.fn (.func 88) [] [.ro (.agg [ch]) 0]) := by
  unfold Ans
  rw [fn_step (fn_64 e) (show Tryz.f64.body = some _ from rfl)]
  simp -implicitDefEqProofs only [Tryz.f64, intA, go_sem, repeatCells, splice, chunk, bsFin, ne_eq, not_true_eq_false, not_false_eq_true, List.headD_cons, Bool.false_eq_true, Nat.le_refl, Nat.zero_mul, Nat.one_mul, Nat.mul_one, assoc_setI, assoc_keep, ↓reduceIte, Nat.reduceEqDiff, Nat.reduceLT, Nat.reduceLeDiff, Nat.reduceAdd, Nat.reduceSub, Nat.reduceMul, decide_true, decide_false, Bool.not_true, Bool.not_false, List.mem_cons, List.not_mem_nil, true_or, or_true, false_or, or_false, and_true, true_and, and_self, List.getElem?_cons_succ, List.getElem?_cons_zero, Option.bind_some, Option.map_some, Option.map_none, List.map_cons, List.map_nil, List.length_cons, List.length_nil, List.filterMap_cons, List.filterMap_nil, List.cons_append, List.nil_append, List.append_nil, Nat.zero_add, Nat.add_zero, List.take_succ_cons, List.take_zero, List.take_nil, List.drop_succ_cons, List.drop_zero, List.drop_nil, List.all_cons, List.all_nil, Bool.and_true, Bool.true_and, Bool.false_and, Bool.and_false, reduceCtorEq, beq_iff_eq, beq_self_eq_true, hch.cells, hch.flat, hch.bound, freeze_cl hch]
theorem call64 {e : Exts} (he : Quiet e) (ch : AV) (xs : List AV) (hch : SlOf 2 xs ch) (me : FuncId) (d : Option Tmp) (H : Heap) : callA (Cx e) (lim (Cx e)) me 64 d [.agg [ch]] H = some (.fn (.func 88) [] [.ro (.agg [ch]) 0], H) :=
  (ans64 ch xs hch).call (ext_64 he) (pure_64 _ _ _) (by simp only [boundL_cons, bound_agg, hch.bound, boundL_nil]; rfl) H
end Go.Ev
namespace Go.Ev
open Go.Proofs
set_option maxRecDepth 100000
set_option linter.unusedSimpArgs false
theorem setT_nil (n : Nat) (t : List (Tmp × AV)) : setTmps n t [] = t := rfl
theorem setT_cons (n : Nat) (t : List (Tmp × AV)) (d : Tmp) (v : AV) (r : List (Tmp × AV)) : setTmps n t ((d, v) :: r) = setTmps n (if d < n then setAssoc d v t else t) r := rfl
end Go.Ev
namespace Go.Ev
open Go.Proofs
set_option maxRecDepth 100000
set_option linter.unusedSimpArgs false
theorem runIt_cons {S : Type} (stp : S → List AV → Bool × S) (x : List AV) (r : List (List AV)) (s : S) : runIt stp (x :: r) s = if (stp s x).1 then runIt stp r (stp s x).2 else (false, (stp s x).2) := rfl
/-- a chapter of lines of texts in memory that nothing turns -/
def OkCh2 (y : AV) : Prop := ∃ id l0 lxs, y = .agg [intA id, l0] ∧ SlOf 1 lxs l0 ∧ lxs.length < 2 ^ 63 ∧ ∀ x ∈ lxs, ∃ els, SlOf 1 els x ∧ (∀ z ∈ els, z.cells = [z]) ∧ els.length < 2 ^ 63
theorem OkCh2.ok {y : AV} (h : OkCh2 y) : OkCh y := by
  obtain ⟨id, l0, lxs, h1, h2, h3, h4⟩ := h
  exact ⟨id, l0, lxs, h1, h2, fun x hx => by obtain ⟨els, h5, -⟩ := h4 x hx; exact h5.cells, h3⟩
theorem chapIts_of : ∀ (xs : List AV) (k : Nat) (x : List AV), x ∈ chapIts k xs → ∃ i y j z, xs[i]? = some y ∧ (linesOf y)[j]? = some z ∧ x = [placeA (k + i) j 0, z]
  | [], _, _, h => by simp [chapIts] at h
  | y :: r, k, x, h => by
    rcases List.mem_append.1 h with h | h
    · obtain ⟨j, z, h1, rfl⟩ := lineIts_of k _ 0 x h
      exact ⟨0, y, j, z, rfl, h1, by rw [Nat.zero_add]; rfl⟩
    · obtain ⟨i, y', j, z, h1, h2, rfl⟩ := chapIts_of r (k + 1) x h
      exact ⟨i + 1, y', j, z, by simpa using h1, h2, by rw [show k + 1 + i = k + (i + 1) by omega]⟩
end Go.Ev
namespace Go.Ev
open Go.Proofs
set_option maxRecDepth 100000
set_option linter.unusedSimpArgs false
/-! ### calls on memory that is there -/
theorem call_k2 {C : Cfg} {me f : FuncId} {d : Option Tmp} {args : List AV} {H : Heap} {x : Value} (hx : C.ext f = none) (hp : C.pure me f d = true) (hb : Nat.beq (boundL args) 0 = false) (hy : args.any isYld = false)
    (h : Fn' C f args { H with lock := H.size } fun v _ => v = .v x) : callA C (lim C) me f d args H = some (.v x, H) := by
  obtain ⟨v, H', h1, rfl⟩ := fn_ex h
  have hk : callKind C me f d args = 2 := by unfold callKind; rw [hp, hb, hy]; rfl
  unfold callA; rw [hx]; simp only
  unfold callB; rw [hk]; simp only [h1]
  rfl
theorem call_k0 {C : Cfg} {me f : FuncId} {d : Option Tmp} {args : List AV} {H : Heap} {x : Value} (hx : C.ext f = none) (hp : C.pure me f d = false)
    (h : Fn' C f args H fun v H' => v = .v x ∧ H' = H) : callA C (lim C) me f d args H = some (.v x, H) := by
  obtain ⟨v, H', h1, rfl, rfl⟩ := fn_ex h
  have hk : callKind C me f d args = 0 := by unfold callKind; rw [hp]; rfl
  unfold callA; rw [hx]; simp only
  unfold callB; rw [hk]; simp only [h1, trim_size]
set_option maxHeartbeats 1000000 in
theorem ans51 {e : Exts} (he : Quiet e) (n : Int) : Ans (Cx e) 51 [intA n] (.v (.bool (withinB 0 9999 [n]))) := by
  unfold Ans
  rw [fn_step (fn_51 e) (show Tryz.f51.body = some _ from rfl)]
  have hc := call69 he 0 9999 [n] (by simp) (.vs 1 [.v (.int .i64 n)] (some 1)) (Or.inr ⟨_, rfl⟩)
  unfold intA at hc
  simp -implicitDefEqProofs only [Tryz.f51, intA, go_sem, repeatCells, splice, chunk, bsFin, ne_eq, not_true_eq_false, not_false_eq_true, List.headD_cons, Bool.false_eq_true, Nat.le_refl, Nat.zero_mul, Nat.one_mul, Nat.mul_one, assoc_setI, assoc_keep, ↓reduceIte, Nat.reduceEqDiff, Nat.reduceLT, Nat.reduceLeDiff, Nat.reduceAdd, Nat.reduceSub, Nat.reduceMul, decide_true, decide_false, Bool.not_true, Bool.not_false, List.mem_cons, List.not_mem_nil, true_or, or_true, false_or, or_false, and_true, true_and, and_self, List.getElem?_cons_succ, List.getElem?_cons_zero, Option.bind_some, Option.map_some, Option.map_none, List.map_cons, List.map_nil, List.length_cons, List.length_nil, List.filterMap_cons, List.filterMap_nil, List.cons_append, List.nil_append, List.append_nil, Nat.zero_add, Nat.add_zero, List.take_succ_cons, List.take_zero, List.take_nil, List.drop_succ_cons, List.drop_zero, List.drop_nil, List.all_cons, List.all_nil, Bool.and_true, Bool.true_and, Bool.false_and, Bool.and_false, reduceCtorEq, beq_iff_eq, beq_self_eq_true, hc]
theorem call51 {e : Exts} (he : Quiet e) (n : Int) (me : FuncId) (d : Option Tmp) (H : Heap) : callA (Cx e) (lim (Cx e)) me 51 d [.v (.int .i64 n)] H = some (.v (.bool (withinB 0 9999 [n])), H) :=
  (ans51 he n).call (ext_51 he) (pure_51 _ _ _) rfl H
theorem callI51 {e : Exts} (he : Quiet e) (n : Int) (me : FuncId) (d : Option Tmp) : callI (Cx e) me 51 d [.v (.int .i64 n)] = some (.v (.bool (withinB 0 9999 [n]))) :=
  (ans51 he n).callI (ext_51 he) (pure_51 _ _ _) rfl
set_option maxHeartbeats 1000000 in
theorem ans82 {e : Exts} (he : Quiet e) (n : Int) : Ans (Cx e) 82 [.vs 1 [intA n] (some 1)] (.v (.bool (withinB 1 10 [n]))) := by
  unfold Ans
  rw [fn_step (fn_82 e) (show Tryz.f82.body = some _ from rfl)]
  have hc := call69 he 1 10 [n] (by simp) (.vs 1 [.v (.int .i64 n)] (some 1)) (Or.inr ⟨_, rfl⟩)
  unfold intA at hc
  simp -implicitDefEqProofs only [Tryz.f82, intA, go_sem, repeatCells, splice, chunk, bsFin, ne_eq, not_true_eq_false, not_false_eq_true, List.headD_cons, Bool.false_eq_true, Nat.le_refl, Nat.zero_mul, Nat.one_mul, Nat.mul_one, assoc_setI, assoc_keep, ↓reduceIte, Nat.reduceEqDiff, Nat.reduceLT, Nat.reduceLeDiff, Nat.reduceAdd, Nat.reduceSub, Nat.reduceMul, decide_true, decide_false, Bool.not_true, Bool.not_false, List.mem_cons, List.not_mem_nil, true_or, or_true, false_or, or_false, and_true, true_and, and_self, List.getElem?_cons_succ, List.getElem?_cons_zero, Option.bind_some, Option.map_some, Option.map_none, List.map_cons, List.map_nil, List.length_cons, List.length_nil, List.filterMap_cons, List.filterMap_nil, List.cons_append, List.nil_append, List.append_nil, Nat.zero_add, Nat.add_zero, List.take_succ_cons, List.take_zero, List.take_nil, List.drop_succ_cons, List.drop_zero, List.drop_nil, List.all_cons, List.all_nil, Bool.and_true, Bool.true_and, Bool.false_and, Bool.and_false, reduceCtorEq, beq_iff_eq, beq_self_eq_true, hc]
theorem call82 {e : Exts} (he : Quiet e) (n : Int) (me : FuncId) (d : Option Tmp) (H : Heap) : callA (Cx e) (lim (Cx e)) me 82 d [.vs 1 [.v (.int .i64 n)] (some 1)] H = some (.v (.bool (withinB 1 10 [n])), H) :=
  (ans82 he n).call (ext_82 he) (pure_82 _ _ _) rfl H
/-! ### hasId -/
def hId (id : Int) : Heap := ⟨[some (.cells 0 0 3 1 false [intA id])], 0⟩
set_option maxHeartbeats 1000000 in
theorem call101 {e : Exts} (he : Quiet e) (id n : Int) (l : AV) (ls : List AV) (hl : SlOf 1 ls l) (me : FuncId) (d : Option Tmp) : callA (Cx e) (lim (Cx e)) me 101 d [.agg [.v (.int .i64 n), l], .ptr 0 0 0] (hId id) = some (.v (.bool (decide (n = id))), hId id) := by
  refine call_k2 (ext_101 he) (pure_101 _ _ _) (by simp only [boundL_cons, bound_agg, bound_ptr, bound_v, hl.bound, boundL_nil]; rfl) rfl ?_
  rw [fn_step (fn_101 e) (show Tryz.f101.body = some _ from rfl)]
  simp -implicitDefEqProofs only [Tryz.f101, hId, intA, go_sem, repeatCells, splice, chunk, bsFin, ne_eq, not_true_eq_false, not_false_eq_true, List.headD_cons, Bool.false_eq_true, Nat.le_refl, Nat.zero_mul, Nat.one_mul, Nat.mul_one, assoc_setI, assoc_keep, ↓reduceIte, Nat.reduceEqDiff, Nat.reduceLT, Nat.reduceLeDiff, Nat.reduceAdd, Nat.reduceSub, Nat.reduceMul, decide_true, decide_false, Bool.not_true, Bool.not_false, List.mem_cons, List.not_mem_nil, true_or, or_true, false_or, or_false, and_true, true_and, and_self, List.getElem?_cons_succ, List.getElem?_cons_zero, Option.bind_some, Option.map_some, Option.map_none, List.map_cons, List.map_nil, List.length_cons, List.length_nil, List.filterMap_cons, List.filterMap_nil, List.cons_append, List.nil_append, List.append_nil, Nat.zero_add, Nat.add_zero, List.take_succ_cons, List.take_zero, List.take_nil, List.drop_succ_cons, List.drop_zero, List.drop_nil, List.all_cons, List.all_nil, Bool.and_true, Bool.true_and, Bool.false_and, Bool.and_false, reduceCtorEq, beq_iff_eq, beq_self_eq_true, hl.cells, hl.flat, hl.bound]
  rfl
noncomputable def body120 : Code := ((Tryz.f120.body.map loops).getD [])[0]?.getD .skip
set_option maxHeartbeats 1000000 in
theorem loop120 {e : Exts} (he : Quiet e) (id : Int) (t : Txt) (x : AV) (xs : List AV) (hx : SlOf 2 xs x) (hall : All2 ChapA t xs) (hn : t.length < 2 ^ 63) (K : Post) :
    ∀ m j : Nat, j + m = t.length → ((t.drop j).any (fun c => decide (c.1 = id)) = false → ∀ tl, AtK K (.exit 0) ⟨19, tl, []⟩ (hId id)) → ((t.drop j).any (fun c => decide (c.1 = id)) = true → ∀ (n : Nat) tl, assoc 4 tl = some (intA n) → AtK K .ret ⟨19, tl, []⟩ (hId id)) →
    Lp (Cx e) 120 none [0, 1, 4, 7, 8] body120 ⟨19, [(0, x), (1, .fn (.func 101) [] [.ptr 0 0 0]), (4, intA 0), (7, intA t.length), (8, intA j)], []⟩ (hId id) K := by
  intro m
  induction m with
  | zero =>
    intro j hj h1 h2
    rw [Lp_step]
    generalize hK : loopK (Cx e) 120 none _ body120 _ K = KK
    unfold body120
    obtain rfl : j = t.length := by omega
    simp only [Tryz.f120, loops, Option.map_some, Option.getD_some, List.nil_append, List.append_nil, List.cons_append, List.getElem?_cons_zero, List.getElem?_cons_succ]
    simp -implicitDefEqProofs only [go_sem, repeatCells, splice, chunk, bsFin, ne_eq, not_true_eq_false, not_false_eq_true, List.headD_cons, Bool.false_eq_true, Nat.le_refl, Nat.zero_mul, Nat.one_mul, Nat.mul_one, assoc_setI, assoc_keep, ↓reduceIte, Nat.reduceEqDiff, Nat.reduceLT, Nat.reduceLeDiff, Nat.reduceAdd, Nat.reduceSub, Nat.reduceMul, decide_true, decide_false, Bool.not_true, Bool.not_false, List.mem_cons, List.not_mem_nil, true_or, or_true, false_or, or_false, and_true, true_and, and_self, List.getElem?_cons_succ, List.getElem?_cons_zero, Option.bind_some, Option.map_some, Option.map_none, List.map_cons, List.map_nil, List.length_cons, List.length_nil, List.filterMap_cons, List.filterMap_nil, List.cons_append, List.nil_append, List.append_nil, Nat.zero_add, Nat.add_zero, List.take_succ_cons, List.take_zero, List.take_nil, List.drop_succ_cons, List.drop_zero, List.drop_nil, List.all_cons, List.all_nil, Bool.and_true, Bool.true_and, Bool.false_and, Bool.and_false, reduceCtorEq, beq_iff_eq, beq_self_eq_true, intA, hId, Int.lt_irrefl]
    subst hK
    simp -implicitDefEqProofs only [go_sem, repeatCells, splice, chunk, bsFin, ne_eq, not_true_eq_false, not_false_eq_true, List.headD_cons, Bool.false_eq_true, Nat.le_refl, Nat.zero_mul, Nat.one_mul, Nat.mul_one, assoc_setI, assoc_keep, ↓reduceIte, Nat.reduceEqDiff, Nat.reduceLT, Nat.reduceLeDiff, Nat.reduceAdd, Nat.reduceSub, Nat.reduceMul, decide_true, decide_false, Bool.not_true, Bool.not_false, List.mem_cons, List.not_mem_nil, true_or, or_true, false_or, or_false, and_true, true_and, and_self, List.getElem?_cons_succ, List.getElem?_cons_zero, Option.bind_some, Option.map_some, Option.map_none, List.map_cons, List.map_nil, List.length_cons, List.length_nil, List.filterMap_cons, List.filterMap_nil, List.cons_append, List.nil_append, List.append_nil, Nat.zero_add, Nat.add_zero, List.take_succ_cons, List.take_zero, List.take_nil, List.drop_succ_cons, List.drop_zero, List.drop_nil, List.all_cons, List.all_nil, Bool.and_true, Bool.true_and, Bool.false_and, Bool.and_false, reduceCtorEq, beq_iff_eq, beq_self_eq_true, hId]
    exact h1 (by simp) _
  | succ m ih =>
    intro j hj h1 h2
    obtain ⟨c, hs⟩ := at_lt t j (by omega)
    obtain ⟨y, hy, l, rfl, ls, hl, -⟩ := hall.get hs
    have hd := drop_any (fun c : Chap => decide (c.1 = id)) t j c hs
    have hlt : (j : Int) < ((t.length : Nat) : Int) := by omega
    have hw := wrap_succ j (by omega)
    have hc := call101 he id c.1 l ls hl
    unfold hId intA at hc
    rw [Lp_step]
    generalize hK : loopK (Cx e) 120 none _ body120 _ K = KK
    unfold body120
    simp only [Tryz.f120, loops, Option.map_some, Option.getD_some, List.nil_append, List.append_nil, List.cons_append, List.getElem?_cons_zero, List.getElem?_cons_succ]
    by_cases c1 : c.1 = id
    · simp only [c1, decide_true] at hc
      simp -implicitDefEqProofs only [go_sem, repeatCells, splice, chunk, bsFin, ne_eq, not_true_eq_false, not_false_eq_true, List.headD_cons, Bool.false_eq_true, Nat.le_refl, Nat.zero_mul, Nat.one_mul, Nat.mul_one, assoc_setI, assoc_keep, ↓reduceIte, Nat.reduceEqDiff, Nat.reduceLT, Nat.reduceLeDiff, Nat.reduceAdd, Nat.reduceSub, Nat.reduceMul, decide_true, decide_false, Bool.not_true, Bool.not_false, List.mem_cons, List.not_mem_nil, true_or, or_true, false_or, or_false, and_true, true_and, and_self, List.getElem?_cons_succ, List.getElem?_cons_zero, Option.bind_some, Option.map_some, Option.map_none, List.map_cons, List.map_nil, List.length_cons, List.length_nil, List.filterMap_cons, List.filterMap_nil, List.cons_append, List.nil_append, List.append_nil, Nat.zero_add, Nat.add_zero, List.take_succ_cons, List.take_zero, List.take_nil, List.drop_succ_cons, List.drop_zero, List.drop_nil, List.all_cons, List.all_nil, Bool.and_true, Bool.true_and, Bool.false_and, Bool.and_false, reduceCtorEq, beq_iff_eq, beq_self_eq_true, intA, hId, hlt, hw, hx.idx hy, hc, c1]
      subst hK
      simp -implicitDefEqProofs only [go_sem, repeatCells, splice, chunk, bsFin, ne_eq, not_true_eq_false, not_false_eq_true, List.headD_cons, Bool.false_eq_true, Nat.le_refl, Nat.zero_mul, Nat.one_mul, Nat.mul_one, assoc_setI, assoc_keep, ↓reduceIte, Nat.reduceEqDiff, Nat.reduceLT, Nat.reduceLeDiff, Nat.reduceAdd, Nat.reduceSub, Nat.reduceMul, decide_true, decide_false, Bool.not_true, Bool.not_false, List.mem_cons, List.not_mem_nil, true_or, or_true, false_or, or_false, and_true, true_and, and_self, List.getElem?_cons_succ, List.getElem?_cons_zero, Option.bind_some, Option.map_some, Option.map_none, List.map_cons, List.map_nil, List.length_cons, List.length_nil, List.filterMap_cons, List.filterMap_nil, List.cons_append, List.nil_append, List.append_nil, Nat.zero_add, Nat.add_zero, List.take_succ_cons, List.take_zero, List.take_nil, List.drop_succ_cons, List.drop_zero, List.drop_nil, List.all_cons, List.all_nil, Bool.and_true, Bool.true_and, Bool.false_and, Bool.and_false, reduceCtorEq, beq_iff_eq, beq_self_eq_true]
      exact h2 (by rw [hd]; simp [c1]) j _ rfl
    · simp only [c1, decide_false] at hc
      simp -implicitDefEqProofs only [go_sem, repeatCells, splice, chunk, bsFin, ne_eq, not_true_eq_false, not_false_eq_true, List.headD_cons, Bool.false_eq_true, Nat.le_refl, Nat.zero_mul, Nat.one_mul, Nat.mul_one, assoc_setI, assoc_keep, ↓reduceIte, Nat.reduceEqDiff, Nat.reduceLT, Nat.reduceLeDiff, Nat.reduceAdd, Nat.reduceSub, Nat.reduceMul, decide_true, decide_false, Bool.not_true, Bool.not_false, List.mem_cons, List.not_mem_nil, true_or, or_true, false_or, or_false, and_true, true_and, and_self, List.getElem?_cons_succ, List.getElem?_cons_zero, Option.bind_some, Option.map_some, Option.map_none, List.map_cons, List.map_nil, List.length_cons, List.length_nil, List.filterMap_cons, List.filterMap_nil, List.cons_append, List.nil_append, List.append_nil, Nat.zero_add, Nat.add_zero, List.take_succ_cons, List.take_zero, List.take_nil, List.drop_succ_cons, List.drop_zero, List.drop_nil, List.all_cons, List.all_nil, Bool.and_true, Bool.true_and, Bool.false_and, Bool.and_false, reduceCtorEq, beq_iff_eq, beq_self_eq_true, intA, hId, hlt, hw, hx.idx hy, hc]
      subst hK
      simp -implicitDefEqProofs only [go_sem, repeatCells, splice, chunk, bsFin, ne_eq, not_true_eq_false, not_false_eq_true, List.headD_cons, Bool.false_eq_true, Nat.le_refl, Nat.zero_mul, Nat.one_mul, Nat.mul_one, assoc_setI, assoc_keep, ↓reduceIte, Nat.reduceEqDiff, Nat.reduceLT, Nat.reduceLeDiff, Nat.reduceAdd, Nat.reduceSub, Nat.reduceMul, decide_true, decide_false, Bool.not_true, Bool.not_false, List.mem_cons, List.not_mem_nil, true_or, or_true, false_or, or_false, and_true, true_and, and_self, List.getElem?_cons_succ, List.getElem?_cons_zero, Option.bind_some, Option.map_some, Option.map_none, List.map_cons, List.map_nil, List.length_cons, List.length_nil, List.filterMap_cons, List.filterMap_nil, List.cons_append, List.nil_append, List.append_nil, Nat.zero_add, Nat.add_zero, List.take_succ_cons, List.take_zero, List.take_nil, List.drop_succ_cons, List.drop_zero, List.drop_nil, List.all_cons, List.all_nil, Bool.and_true, Bool.true_and, Bool.false_and, Bool.and_false, reduceCtorEq, beq_iff_eq, beq_self_eq_true, hId]
      rw [hd] at h1 h2
      simp only [c1, decide_false, Bool.false_or] at h1 h2
      exact ih (j + 1) (by omega) h1 h2
def hasIdB (t : Txt) (id : Int) : Bool := t.any fun c => decide (c.1 = id)
theorem pure120 (e : Exts) (h : FuncId) (d : Option Tmp) : (Cx e).pure h 120 d = false := by simp [Cx, pureF, impF, impC]
theorem pure100 (e : Exts) (h : FuncId) (d : Option Tmp) : (Cx e).pure h 100 d = false := by simp [Cx, pureF, impF, impC]
set_option maxHeartbeats 1000000 in
theorem fn120 {e : Exts} (he : Quiet e) (id : Int) (t : Txt) (x : AV) (xs : List AV) (hx : SlOf 2 xs x) (hall : All2 ChapA t xs) (hn : t.length < 2 ^ 63) :
    ∃ n : Int, decide (0 ≤ n) = hasIdB t id ∧ Fn' (Cx e) 120 [x, .fn (.func 101) [] [.ptr 0 0 0]] (hId id) fun v H' => v = intA n ∧ H' = hId id := by
  have key : Fn' (Cx e) 120 [x, .fn (.func 101) [] [.ptr 0 0 0]] (hId id) fun v H' => (∃ n : Int, decide (0 ≤ n) = hasIdB t id ∧ v = intA n) ∧ H' = hId id := by
    rw [fn_step (fn_120 e) (show Tryz.f120.body = some _ from rfl)]
    simp -implicitDefEqProofs only [Tryz.f120, hId, intA, go_sem, repeatCells, splice, chunk, bsFin, ne_eq, not_true_eq_false, not_false_eq_true, List.headD_cons, Bool.false_eq_true, Nat.le_refl, Nat.zero_mul, Nat.one_mul, Nat.mul_one, assoc_setI, assoc_keep, ↓reduceIte, Nat.reduceEqDiff, Nat.reduceLT, Nat.reduceLeDiff, Nat.reduceAdd, Nat.reduceSub, Nat.reduceMul, decide_true, decide_false, Bool.not_true, Bool.not_false, List.mem_cons, List.not_mem_nil, true_or, or_true, false_or, or_false, and_true, true_and, and_self, List.getElem?_cons_succ, List.getElem?_cons_zero, Option.bind_some, Option.map_some, Option.map_none, List.map_cons, List.map_nil, List.length_cons, List.length_nil, List.filterMap_cons, List.filterMap_nil, List.cons_append, List.nil_append, List.append_nil, Nat.zero_add, Nat.add_zero, List.take_succ_cons, List.take_zero, List.take_nil, List.drop_succ_cons, List.drop_zero, List.drop_nil, List.all_cons, List.all_nil, Bool.and_true, Bool.true_and, Bool.false_and, Bool.and_false, reduceCtorEq, beq_iff_eq, beq_self_eq_true, hx.len, ← hall.1]
    refine loop120 he id t x xs hx hall hn _ t.length 0 (by omega) ?_ ?_
    · intro hf tl
      simp -implicitDefEqProofs only [go_sem, repeatCells, splice, chunk, bsFin, ne_eq, not_true_eq_false, not_false_eq_true, List.headD_cons, Bool.false_eq_true, Nat.le_refl, Nat.zero_mul, Nat.one_mul, Nat.mul_one, assoc_setI, assoc_keep, ↓reduceIte, Nat.reduceEqDiff, Nat.reduceLT, Nat.reduceLeDiff, Nat.reduceAdd, Nat.reduceSub, Nat.reduceMul, decide_true, decide_false, Bool.not_true, Bool.not_false, List.mem_cons, List.not_mem_nil, true_or, or_true, false_or, or_false, and_true, true_and, and_self, List.getElem?_cons_succ, List.getElem?_cons_zero, Option.bind_some, Option.map_some, Option.map_none, List.map_cons, List.map_nil, List.length_cons, List.length_nil, List.filterMap_cons, List.filterMap_nil, List.cons_append, List.nil_append, List.append_nil, Nat.zero_add, Nat.add_zero, List.take_succ_cons, List.take_zero, List.take_nil, List.drop_succ_cons, List.drop_zero, List.drop_nil, List.all_cons, List.all_nil, Bool.and_true, Bool.true_and, Bool.false_and, Bool.and_false, reduceCtorEq, beq_iff_eq, beq_self_eq_true, hId]
      exact ⟨⟨-1, by unfold hasIdB; rw [List.drop_zero] at hf; rw [hf]; rfl, rfl⟩, rfl⟩
    · intro hf n tl htl
      simp -implicitDefEqProofs only [go_sem, repeatCells, splice, chunk, bsFin, ne_eq, not_true_eq_false, not_false_eq_true, List.headD_cons, Bool.false_eq_true, Nat.le_refl, Nat.zero_mul, Nat.one_mul, Nat.mul_one, assoc_setI, assoc_keep, ↓reduceIte, Nat.reduceEqDiff, Nat.reduceLT, Nat.reduceLeDiff, Nat.reduceAdd, Nat.reduceSub, Nat.reduceMul, decide_true, decide_false, Bool.not_true, Bool.not_false, List.mem_cons, List.not_mem_nil, true_or, or_true, false_or, or_false, and_true, true_and, and_self, List.getElem?_cons_succ, List.getElem?_cons_zero, Option.bind_some, Option.map_some, Option.map_none, List.map_cons, List.map_nil, List.length_cons, List.length_nil, List.filterMap_cons, List.filterMap_nil, List.cons_append, List.nil_append, List.append_nil, Nat.zero_add, Nat.add_zero, List.take_succ_cons, List.take_zero, List.take_nil, List.drop_succ_cons, List.drop_zero, List.drop_nil, List.all_cons, List.all_nil, Bool.and_true, Bool.true_and, Bool.false_and, Bool.and_false, reduceCtorEq, beq_iff_eq, beq_self_eq_true, htl]
      exact ⟨⟨n, by unfold hasIdB; rw [List.drop_zero] at hf; rw [hf]; simp, rfl⟩, rfl⟩
  obtain ⟨v, H', h1, ⟨n, hnn, rfl⟩, rfl⟩ := fn_ex key
  refine ⟨n, hnn, ?_⟩
  unfold Fn'; rw [h1]; exact ⟨rfl, rfl⟩
set_option maxHeartbeats 1000000 in
theorem call100 {e : Exts} (he : Quiet e) (id : Int) (t : Txt) (x : AV) (xs : List AV) (hx : SlOf 2 xs x) (hall : All2 ChapA t xs) (hn : t.length < 2 ^ 63) (me : FuncId) (d : Option Tmp) :
    callA (Cx e) (lim (Cx e)) me 100 d [x, .fn (.func 101) [] [.ptr 0 0 0]] (hId id) = some (.v (.bool (hasIdB t id)), hId id) := by
  refine call_k0 (ext_100 he) (pure100 _ _ _) ?_
  obtain ⟨n, hnn, hf⟩ := fn120 he id t x xs hx hall hn
  have hc := call_k0 (me := 100) (d := some 7) (ext_120 he) (pure120 e _ _) hf
  unfold hId intA at hc
  rw [fn_step (fn_100 e) (show Tryz.f100.body = some _ from rfl)]
  simp -implicitDefEqProofs only [Tryz.f100, hId, intA, go_sem, repeatCells, splice, chunk, bsFin, ne_eq, not_true_eq_false, not_false_eq_true, List.headD_cons, Bool.false_eq_true, Nat.le_refl, Nat.zero_mul, Nat.one_mul, Nat.mul_one, assoc_setI, assoc_keep, ↓reduceIte, Nat.reduceEqDiff, Nat.reduceLT, Nat.reduceLeDiff, Nat.reduceAdd, Nat.reduceSub, Nat.reduceMul, decide_true, decide_false, Bool.not_true, Bool.not_false, List.mem_cons, List.not_mem_nil, true_or, or_true, false_or, or_false, and_true, true_and, and_self, List.getElem?_cons_succ, List.getElem?_cons_zero, Option.bind_some, Option.map_some, Option.map_none, List.map_cons, List.map_nil, List.length_cons, List.length_nil, List.filterMap_cons, List.filterMap_nil, List.cons_append, List.nil_append, List.append_nil, Nat.zero_add, Nat.add_zero, List.take_succ_cons, List.take_zero, List.take_nil, List.drop_succ_cons, List.drop_zero, List.drop_nil, List.all_cons, List.all_nil, Bool.and_true, Bool.true_and, Bool.false_and, Bool.and_false, reduceCtorEq, beq_iff_eq, beq_self_eq_true, hc]
  exact ⟨by rw [hnn], rfl⟩
set_option maxHeartbeats 1000000 in
theorem ans86 {e : Exts} (he : Quiet e) (id : Int) (t : Txt) (x : AV) (xs : List AV) (hx : SlOf 2 xs x) (hall : All2 ChapA t xs) (hn : t.length < 2 ^ 63) : Ans (Cx e) 86 [x, intA id] (.v (.bool (hasIdB t id))) := by
  unfold Ans
  have hc := call100 he id t x xs hx hall hn 86 (some 7)
  unfold hId intA at hc
  rw [fn_step (fn_86 e) (show Tryz.f86.body = some _ from rfl)]
  simp -implicitDefEqProofs only [Tryz.f86, intA, go_sem, repeatCells, splice, chunk, bsFin, ne_eq, not_true_eq_false, not_false_eq_true, List.headD_cons, Bool.false_eq_true, Nat.le_refl, Nat.zero_mul, Nat.one_mul, Nat.mul_one, assoc_setI, assoc_keep, ↓reduceIte, Nat.reduceEqDiff, Nat.reduceLT, Nat.reduceLeDiff, Nat.reduceAdd, Nat.reduceSub, Nat.reduceMul, decide_true, decide_false, Bool.not_true, Bool.not_false, List.mem_cons, List.not_mem_nil, true_or, or_true, false_or, or_false, and_true, true_and, and_self, List.getElem?_cons_succ, List.getElem?_cons_zero, Option.bind_some, Option.map_some, Option.map_none, List.map_cons, List.map_nil, List.length_cons, List.length_nil, List.filterMap_cons, List.filterMap_nil, List.cons_append, List.nil_append, List.append_nil, Nat.zero_add, Nat.add_zero, List.take_succ_cons, List.take_zero, List.take_nil, List.drop_succ_cons, List.drop_zero, List.drop_nil, List.all_cons, List.all_nil, Bool.and_true, Bool.true_and, Bool.false_and, Bool.and_false, reduceCtorEq, beq_iff_eq, beq_self_eq_true, hc]
theorem callI86 {e : Exts} (he : Quiet e) (id : Int) (t : Txt) (x : AV) (xs : List AV) (hx : SlOf 2 xs x) (hall : All2 ChapA t xs) (hn : t.length < 2 ^ 63) (me : FuncId) (d : Option Tmp) : callI (Cx e) me 86 d [x, .v (.int .i64 id)] = some (.v (.bool (hasIdB t id))) :=
  (ans86 he id t x xs hx hall hn).callI (ext_86 he) (pure_86 _ _ _) (by simp only [boundL_cons, hx.bound, intA, bound_v, boundL_nil]; rfl)
/-! ### isLines -/
noncomputable def body87 (n : Nat) : Code := ((Tryz.f87.body.map loops).getD [])[n]?.getD .skip
def okUpto (ls : List Line) (j : Nat) : Nat := ((ls.take j).filter lineB).length
theorem okUpto_succ (ls : List Line) (j : Nat) (l : Line) (h : ls[j]? = some l) : okUpto ls (j + 1) = okUpto ls j + if lineB l then 1 else 0 := by
  obtain ⟨hj, rfl⟩ := List.getElem?_eq_some_iff.1 h
  unfold okUpto
  rw [List.take_succ_eq_append_getElem hj, List.filter_append, List.length_append]
  congr 1
  cases h : lineB ls[j] <;> simp [h]
theorem okUpto_le (ls : List Line) (j : Nat) : okUpto ls j ≤ j := by
  unfold okUpto
  exact Nat.le_trans (List.length_filter_le _ _) (by simp; omega)
theorem okUpto_all (ls : List Line) : (okUpto ls ls.length = ls.length) ↔ ls.all lineB = true := by
  unfold okUpto
  rw [List.take_of_length_le (Nat.le_refl _), List.length_filter_eq_length_iff, List.all_eq_true]
def allW (ws : Line) (j : Nat) : Bool := (ws.drop j).all wordB
set_option maxHeartbeats 1000000 in
theorem loop87w {e : Exts} (he : Quiet e) (x lx : AV) (r nl i : Nat) (ws : Line) (hlx : SlOf 1 (strs ws) lx) (hn : ws.length < 2 ^ 63) (hz : ∀ s ∈ ws, s.size < 2 ^ 63) (K : Post) :
    ∀ m j : Nat, j + m = ws.length → (allW ws j = true → ∀ k : Nat, AtK K (.exit 2) ⟨46, [(0, x), (2, .v (.bool false)), (12, .v (.bool false)), (3, intA r), (14, intA nl), (15, intA i), (16, .v (.bool true)), (4, intA i), (25, .v (.bool false)), (29, lx), (30, intA ws.length), (31, intA k)], []⟩ ⟨[], 0⟩) →
      (allW ws j = false → ∀ k : Nat, AtK K (.exit 1) ⟨46, [(0, x), (2, .v (.bool false)), (12, .v (.bool false)), (3, intA r), (14, intA nl), (15, intA i), (16, .v (.bool true)), (4, intA i), (25, .v (.bool false)), (29, lx), (30, intA ws.length), (31, intA k)], []⟩ ⟨[], 0⟩) →
    Lp (Cx e) 87 none [0, 2, 12, 3, 14, 15, 16, 4, 25, 29, 30, 31] (body87 1) ⟨46, [(0, x), (2, .v (.bool false)), (12, .v (.bool false)), (3, intA r), (14, intA nl), (15, intA i), (16, .v (.bool true)), (4, intA i), (25, .v (.bool false)), (29, lx), (30, intA ws.length), (31, intA j)], []⟩ ⟨[], 0⟩ K := by
  intro m
  induction m with
  | zero =>
    intro j hj h1 h2
    rw [Lp_step]
    generalize hK : loopK (Cx e) 87 none _ (body87 1) _ K = KK
    unfold body87
    obtain rfl : j = ws.length := by omega
    simp only [Tryz.f87, loops, Option.map_some, Option.getD_some, List.nil_append, List.append_nil, List.cons_append, List.getElem?_cons_zero, List.getElem?_cons_succ]
    simp -implicitDefEqProofs only [go_sem, repeatCells, splice, chunk, bsFin, ne_eq, not_true_eq_false, not_false_eq_true, List.headD_cons, Bool.false_eq_true, Nat.le_refl, Nat.zero_mul, Nat.one_mul, Nat.mul_one, assoc_setI, assoc_keep, ↓reduceIte, Nat.reduceEqDiff, Nat.reduceLT, Nat.reduceLeDiff, Nat.reduceAdd, Nat.reduceSub, Nat.reduceMul, decide_true, decide_false, Bool.not_true, Bool.not_false, List.mem_cons, List.not_mem_nil, true_or, or_true, false_or, or_false, and_true, true_and, and_self, List.getElem?_cons_succ, List.getElem?_cons_zero, Option.bind_some, Option.map_some, Option.map_none, List.map_cons, List.map_nil, List.length_cons, List.length_nil, List.filterMap_cons, List.filterMap_nil, List.cons_append, List.nil_append, List.append_nil, Nat.zero_add, Nat.add_zero, List.take_succ_cons, List.take_zero, List.take_nil, List.drop_succ_cons, List.drop_zero, List.drop_nil, List.all_cons, List.all_nil, Bool.and_true, Bool.true_and, Bool.false_and, Bool.and_false, reduceCtorEq, beq_iff_eq, beq_self_eq_true, intA, Int.lt_irrefl]
    subst hK
    simp -implicitDefEqProofs only [go_sem, repeatCells, splice, chunk, bsFin, ne_eq, not_true_eq_false, not_false_eq_true, List.headD_cons, Bool.false_eq_true, Nat.le_refl, Nat.zero_mul, Nat.one_mul, Nat.mul_one, assoc_setI, assoc_keep, ↓reduceIte, Nat.reduceEqDiff, Nat.reduceLT, Nat.reduceLeDiff, Nat.reduceAdd, Nat.reduceSub, Nat.reduceMul, decide_true, decide_false, Bool.not_true, Bool.not_false, List.mem_cons, List.not_mem_nil, true_or, or_true, false_or, or_false, and_true, true_and, and_self, List.getElem?_cons_succ, List.getElem?_cons_zero, Option.bind_some, Option.map_some, Option.map_none, List.map_cons, List.map_nil, List.length_cons, List.length_nil, List.filterMap_cons, List.filterMap_nil, List.cons_append, List.nil_append, List.append_nil, Nat.zero_add, Nat.add_zero, List.take_succ_cons, List.take_zero, List.take_nil, List.drop_succ_cons, List.drop_zero, List.drop_nil, List.all_cons, List.all_nil, Bool.and_true, Bool.true_and, Bool.false_and, Bool.and_false, reduceCtorEq, beq_iff_eq, beq_self_eq_true]
    exact h1 (by unfold allW; rw [List.drop_of_length_le (Nat.le_refl _)]; rfl) _
  | succ m ih =>
    intro j hj h1 h2
    obtain ⟨s, hs⟩ := at_lt ws j (by omega)
    have hd : allW ws j = (wordB s && allW ws (j + 1)) := drop_all _ ws j s hs
    have hlt : (j : Int) < ((ws.length : Nat) : Int) := by omega
    have hw := wrap_succ j (by omega)
    have hc := call49 he s (hz s (List.mem_of_getElem? hs))
    rw [Lp_step]
    generalize hK : loopK (Cx e) 87 none _ (body87 1) _ K = KK
    unfold body87
    simp only [Tryz.f87, loops, Option.map_some, Option.getD_some, List.nil_append, List.append_nil, List.cons_append, List.getElem?_cons_zero, List.getElem?_cons_succ]
    cases c1 : wordB s
    · rw [c1] at hc
      simp -implicitDefEqProofs only [go_sem, repeatCells, splice, chunk, bsFin, ne_eq, not_true_eq_false, not_false_eq_true, List.headD_cons, Bool.false_eq_true, Nat.le_refl, Nat.zero_mul, Nat.one_mul, Nat.mul_one, assoc_setI, assoc_keep, ↓reduceIte, Nat.reduceEqDiff, Nat.reduceLT, Nat.reduceLeDiff, Nat.reduceAdd, Nat.reduceSub, Nat.reduceMul, decide_true, decide_false, Bool.not_true, Bool.not_false, List.mem_cons, List.not_mem_nil, true_or, or_true, false_or, or_false, and_true, true_and, and_self, List.getElem?_cons_succ, List.getElem?_cons_zero, Option.bind_some, Option.map_some, Option.map_none, List.map_cons, List.map_nil, List.length_cons, List.length_nil, List.filterMap_cons, List.filterMap_nil, List.cons_append, List.nil_append, List.append_nil, Nat.zero_add, Nat.add_zero, List.take_succ_cons, List.take_zero, List.take_nil, List.drop_succ_cons, List.drop_zero, List.drop_nil, List.all_cons, List.all_nil, Bool.and_true, Bool.true_and, Bool.false_and, Bool.and_false, reduceCtorEq, beq_iff_eq, beq_self_eq_true, intA, hlt, hw, hlx.idx (strs_get hs), hc]
      subst hK
      simp -implicitDefEqProofs only [go_sem, repeatCells, splice, chunk, bsFin, ne_eq, not_true_eq_false, not_false_eq_true, List.headD_cons, Bool.false_eq_true, Nat.le_refl, Nat.zero_mul, Nat.one_mul, Nat.mul_one, assoc_setI, assoc_keep, ↓reduceIte, Nat.reduceEqDiff, Nat.reduceLT, Nat.reduceLeDiff, Nat.reduceAdd, Nat.reduceSub, Nat.reduceMul, decide_true, decide_false, Bool.not_true, Bool.not_false, List.mem_cons, List.not_mem_nil, true_or, or_true, false_or, or_false, and_true, true_and, and_self, List.getElem?_cons_succ, List.getElem?_cons_zero, Option.bind_some, Option.map_some, Option.map_none, List.map_cons, List.map_nil, List.length_cons, List.length_nil, List.filterMap_cons, List.filterMap_nil, List.cons_append, List.nil_append, List.append_nil, Nat.zero_add, Nat.add_zero, List.take_succ_cons, List.take_zero, List.take_nil, List.drop_succ_cons, List.drop_zero, List.drop_nil, List.all_cons, List.all_nil, Bool.and_true, Bool.true_and, Bool.false_and, Bool.and_false, reduceCtorEq, beq_iff_eq, beq_self_eq_true]
      exact h2 (by rw [hd, c1]; rfl) j
    · rw [c1] at hc
      simp -implicitDefEqProofs only [go_sem, repeatCells, splice, chunk, bsFin, ne_eq, not_true_eq_false, not_false_eq_true, List.headD_cons, Bool.false_eq_true, Nat.le_refl, Nat.zero_mul, Nat.one_mul, Nat.mul_one, assoc_setI, assoc_keep, ↓reduceIte, Nat.reduceEqDiff, Nat.reduceLT, Nat.reduceLeDiff, Nat.reduceAdd, Nat.reduceSub, Nat.reduceMul, decide_true, decide_false, Bool.not_true, Bool.not_false, List.mem_cons, List.not_mem_nil, true_or, or_true, false_or, or_false, and_true, true_and, and_self, List.getElem?_cons_succ, List.getElem?_cons_zero, Option.bind_some, Option.map_some, Option.map_none, List.map_cons, List.map_nil, List.length_cons, List.length_nil, List.filterMap_cons, List.filterMap_nil, List.cons_append, List.nil_append, List.append_nil, Nat.zero_add, Nat.add_zero, List.take_succ_cons, List.take_zero, List.take_nil, List.drop_succ_cons, List.drop_zero, List.drop_nil, List.all_cons, List.all_nil, Bool.and_true, Bool.true_and, Bool.false_and, Bool.and_false, reduceCtorEq, beq_iff_eq, beq_self_eq_true, intA, hlt, hw, hlx.idx (strs_get hs), hc]
      subst hK
      simp -implicitDefEqProofs only [go_sem, repeatCells, splice, chunk, bsFin, ne_eq, not_true_eq_false, not_false_eq_true, List.headD_cons, Bool.false_eq_true, Nat.le_refl, Nat.zero_mul, Nat.one_mul, Nat.mul_one, assoc_setI, assoc_keep, ↓reduceIte, Nat.reduceEqDiff, Nat.reduceLT, Nat.reduceLeDiff, Nat.reduceAdd, Nat.reduceSub, Nat.reduceMul, decide_true, decide_false, Bool.not_true, Bool.not_false, List.mem_cons, List.not_mem_nil, true_or, or_true, false_or, or_false, and_true, true_and, and_self, List.getElem?_cons_succ, List.getElem?_cons_zero, Option.bind_some, Option.map_some, Option.map_none, List.map_cons, List.map_nil, List.length_cons, List.length_nil, List.filterMap_cons, List.filterMap_nil, List.cons_append, List.nil_append, List.append_nil, Nat.zero_add, Nat.add_zero, List.take_succ_cons, List.take_zero, List.take_nil, List.drop_succ_cons, List.drop_zero, List.drop_nil, List.all_cons, List.all_nil, Bool.and_true, Bool.true_and, Bool.false_and, Bool.and_false, reduceCtorEq, beq_iff_eq, beq_self_eq_true]
      rw [hd, c1, Bool.true_and] at h1 h2
      exact ih (j + 1) (by omega) h1 h2
set_option maxHeartbeats 1000000 in
theorem loop87l {e : Exts} (he : Quiet e) (x : AV) (lxs : List AV) (hx : SlOf 1 lxs x) (ls : List Line) (hls : All2 LineA ls lxs) (hn : ls.length < 2 ^ 63) (hnn : ∀ l ∈ ls, l.length < 2 ^ 63) (hz : ∀ l ∈ ls, ∀ s ∈ l, s.size < 2 ^ 63) (K : Post)
    (hK0 : AtK K (.exit 0) ⟨46, [(0, x), (2, .v (.bool false)), (12, .v (.bool false)), (3, intA (okUpto ls ls.length)), (14, intA ls.length), (15, intA ls.length)], []⟩ ⟨[], 0⟩) :
    ∀ m j : Nat, j + m = ls.length →
    Lp (Cx e) 87 none [0, 2, 12, 3, 14, 15] (body87 0) ⟨46, [(0, x), (2, .v (.bool false)), (12, .v (.bool false)), (3, intA (okUpto ls j)), (14, intA ls.length), (15, intA j)], []⟩ ⟨[], 0⟩ K := by
  intro m
  induction m with
  | zero =>
    intro j hj
    rw [Lp_step]
    generalize hK : loopK (Cx e) 87 none _ (body87 0) _ K = KK
    unfold body87
    obtain rfl : j = ls.length := by omega
    simp only [Tryz.f87, loops, Option.map_some, Option.getD_some, List.nil_append, List.append_nil, List.cons_append, List.getElem?_cons_zero, List.getElem?_cons_succ]
    simp -implicitDefEqProofs only [go_sem, repeatCells, splice, chunk, bsFin, ne_eq, not_true_eq_false, not_false_eq_true, List.headD_cons, Bool.false_eq_true, Nat.le_refl, Nat.zero_mul, Nat.one_mul, Nat.mul_one, assoc_setI, assoc_keep, ↓reduceIte, Nat.reduceEqDiff, Nat.reduceLT, Nat.reduceLeDiff, Nat.reduceAdd, Nat.reduceSub, Nat.reduceMul, decide_true, decide_false, Bool.not_true, Bool.not_false, List.mem_cons, List.not_mem_nil, true_or, or_true, false_or, or_false, and_true, true_and, and_self, List.getElem?_cons_succ, List.getElem?_cons_zero, Option.bind_some, Option.map_some, Option.map_none, List.map_cons, List.map_nil, List.length_cons, List.length_nil, List.filterMap_cons, List.filterMap_nil, List.cons_append, List.nil_append, List.append_nil, Nat.zero_add, Nat.add_zero, List.take_succ_cons, List.take_zero, List.take_nil, List.drop_succ_cons, List.drop_zero, List.drop_nil, List.all_cons, List.all_nil, Bool.and_true, Bool.true_and, Bool.false_and, Bool.and_false, reduceCtorEq, beq_iff_eq, beq_self_eq_true, intA, Int.lt_irrefl]
    subst hK
    simp -implicitDefEqProofs only [go_sem, repeatCells, splice, chunk, bsFin, ne_eq, not_true_eq_false, not_false_eq_true, List.headD_cons, Bool.false_eq_true, Nat.le_refl, Nat.zero_mul, Nat.one_mul, Nat.mul_one, assoc_setI, assoc_keep, ↓reduceIte, Nat.reduceEqDiff, Nat.reduceLT, Nat.reduceLeDiff, Nat.reduceAdd, Nat.reduceSub, Nat.reduceMul, decide_true, decide_false, Bool.not_true, Bool.not_false, List.mem_cons, List.not_mem_nil, true_or, or_true, false_or, or_false, and_true, true_and, and_self, List.getElem?_cons_succ, List.getElem?_cons_zero, Option.bind_some, Option.map_some, Option.map_none, List.map_cons, List.map_nil, List.length_cons, List.length_nil, List.filterMap_cons, List.filterMap_nil, List.cons_append, List.nil_append, List.append_nil, Nat.zero_add, Nat.add_zero, List.take_succ_cons, List.take_zero, List.take_nil, List.drop_succ_cons, List.drop_zero, List.drop_nil, List.all_cons, List.all_nil, Bool.and_true, Bool.true_and, Bool.false_and, Bool.and_false, reduceCtorEq, beq_iff_eq, beq_self_eq_true]
    exact hK0
  | succ m ih =>
    intro j hj
    obtain ⟨ws, hs⟩ := at_lt ls j (by omega)
    obtain ⟨lx, hy, hlx⟩ := hls.get hs
    have hlx : SlOf 1 (strs ws) lx := hlx
    have hm := List.mem_of_getElem? hs
    have hsu := okUpto_succ ls j ws hs
    have hle := okUpto_le ls j
    have hlt : (j : Int) < ((ls.length : Nat) : Int) := by omega
    have hw := wrap_succ j (by omega)
    have hw2 := wrap_succ (okUpto ls j) (by omega)
    have hc := call82 he (ws.length : Int)
    have hih := ih (j + 1) (by omega)
    rw [Lp_step]
    generalize hK : loopK (Cx e) 87 none _ (body87 0) _ K = KK
    unfold body87
    simp only [Tryz.f87, loops, Option.map_some, Option.getD_some, List.nil_append, List.append_nil, List.cons_append, List.getElem?_cons_zero, List.getElem?_cons_succ]
    cases c1 : withinB 1 10 [(ws.length : Int)]
    · rw [c1] at hc
      have hb : lineB ws = false := by unfold lineB; rw [c1]; rfl
      simp -implicitDefEqProofs only [go_sem, repeatCells, splice, chunk, bsFin, ne_eq, not_true_eq_false, not_false_eq_true, List.headD_cons, Bool.false_eq_true, Nat.le_refl, Nat.zero_mul, Nat.one_mul, Nat.mul_one, assoc_setI, assoc_keep, ↓reduceIte, Nat.reduceEqDiff, Nat.reduceLT, Nat.reduceLeDiff, Nat.reduceAdd, Nat.reduceSub, Nat.reduceMul, decide_true, decide_false, Bool.not_true, Bool.not_false, List.mem_cons, List.not_mem_nil, true_or, or_true, false_or, or_false, and_true, true_and, and_self, List.getElem?_cons_succ, List.getElem?_cons_zero, Option.bind_some, Option.map_some, Option.map_none, List.map_cons, List.map_nil, List.length_cons, List.length_nil, List.filterMap_cons, List.filterMap_nil, List.cons_append, List.nil_append, List.append_nil, Nat.zero_add, Nat.add_zero, List.take_succ_cons, List.take_zero, List.take_nil, List.drop_succ_cons, List.drop_zero, List.drop_nil, List.all_cons, List.all_nil, Bool.and_true, Bool.true_and, Bool.false_and, Bool.and_false, reduceCtorEq, beq_iff_eq, beq_self_eq_true, intA, hlt, hw, hx.idx hy, hlx.cells, hlx.len, strs_len, hc]
      subst hK
      simp -implicitDefEqProofs only [go_sem, repeatCells, splice, chunk, bsFin, ne_eq, not_true_eq_false, not_false_eq_true, List.headD_cons, Bool.false_eq_true, Nat.le_refl, Nat.zero_mul, Nat.one_mul, Nat.mul_one, assoc_setI, assoc_keep, ↓reduceIte, Nat.reduceEqDiff, Nat.reduceLT, Nat.reduceLeDiff, Nat.reduceAdd, Nat.reduceSub, Nat.reduceMul, decide_true, decide_false, Bool.not_true, Bool.not_false, List.mem_cons, List.not_mem_nil, true_or, or_true, false_or, or_false, and_true, true_and, and_self, List.getElem?_cons_succ, List.getElem?_cons_zero, Option.bind_some, Option.map_some, Option.map_none, List.map_cons, List.map_nil, List.length_cons, List.length_nil, List.filterMap_cons, List.filterMap_nil, List.cons_append, List.nil_append, List.append_nil, Nat.zero_add, Nat.add_zero, List.take_succ_cons, List.take_zero, List.take_nil, List.drop_succ_cons, List.drop_zero, List.drop_nil, List.all_cons, List.all_nil, Bool.and_true, Bool.true_and, Bool.false_and, Bool.and_false, reduceCtorEq, beq_iff_eq, beq_self_eq_true]
      rw [hsu, hb] at hih
      exact hih
    · rw [c1] at hc
      simp -implicitDefEqProofs only [go_sem, repeatCells, splice, chunk, bsFin, ne_eq, not_true_eq_false, not_false_eq_true, List.headD_cons, Bool.false_eq_true, Nat.le_refl, Nat.zero_mul, Nat.one_mul, Nat.mul_one, assoc_setI, assoc_keep, ↓reduceIte, Nat.reduceEqDiff, Nat.reduceLT, Nat.reduceLeDiff, Nat.reduceAdd, Nat.reduceSub, Nat.reduceMul, decide_true, decide_false, Bool.not_true, Bool.not_false, List.mem_cons, List.not_mem_nil, true_or, or_true, false_or, or_false, and_true, true_and, and_self, List.getElem?_cons_succ, List.getElem?_cons_zero, Option.bind_some, Option.map_some, Option.map_none, List.map_cons, List.map_nil, List.length_cons, List.length_nil, List.filterMap_cons, List.filterMap_nil, List.cons_append, List.nil_append, List.append_nil, Nat.zero_add, Nat.add_zero, List.take_succ_cons, List.take_zero, List.take_nil, List.drop_succ_cons, List.drop_zero, List.drop_nil, List.all_cons, List.all_nil, Bool.and_true, Bool.true_and, Bool.false_and, Bool.and_false, reduceCtorEq, beq_iff_eq, beq_self_eq_true, intA, hlt, hw, hx.idx hy, hlx.cells, hlx.len, strs_len, hc]
      refine loop87w he x lx (okUpto ls j) ls.length j ws hlx (hnn ws hm) (hz ws hm) _ ws.length 0 (by omega) ?_ ?_
      · intro hf k
        have hb : lineB ws = true := by unfold lineB; rw [c1]; unfold allW at hf; rw [List.drop_zero] at hf; rw [hf]; rfl
        simp -implicitDefEqProofs only [go_sem, repeatCells, splice, chunk, bsFin, ne_eq, not_true_eq_false, not_false_eq_true, List.headD_cons, Bool.false_eq_true, Nat.le_refl, Nat.zero_mul, Nat.one_mul, Nat.mul_one, assoc_setI, assoc_keep, ↓reduceIte, Nat.reduceEqDiff, Nat.reduceLT, Nat.reduceLeDiff, Nat.reduceAdd, Nat.reduceSub, Nat.reduceMul, decide_true, decide_false, Bool.not_true, Bool.not_false, List.mem_cons, List.not_mem_nil, true_or, or_true, false_or, or_false, and_true, true_and, and_self, List.getElem?_cons_succ, List.getElem?_cons_zero, Option.bind_some, Option.map_some, Option.map_none, List.map_cons, List.map_nil, List.length_cons, List.length_nil, List.filterMap_cons, List.filterMap_nil, List.cons_append, List.nil_append, List.append_nil, Nat.zero_add, Nat.add_zero, List.take_succ_cons, List.take_zero, List.take_nil, List.drop_succ_cons, List.drop_zero, List.drop_nil, List.all_cons, List.all_nil, Bool.and_true, Bool.true_and, Bool.false_and, Bool.and_false, reduceCtorEq, beq_iff_eq, beq_self_eq_true, intA, hw, hw2]
        subst hK
        simp -implicitDefEqProofs only [go_sem, repeatCells, splice, chunk, bsFin, ne_eq, not_true_eq_false, not_false_eq_true, List.headD_cons, Bool.false_eq_true, Nat.le_refl, Nat.zero_mul, Nat.one_mul, Nat.mul_one, assoc_setI, assoc_keep, ↓reduceIte, Nat.reduceEqDiff, Nat.reduceLT, Nat.reduceLeDiff, Nat.reduceAdd, Nat.reduceSub, Nat.reduceMul, decide_true, decide_false, Bool.not_true, Bool.not_false, List.mem_cons, List.not_mem_nil, true_or, or_true, false_or, or_false, and_true, true_and, and_self, List.getElem?_cons_succ, List.getElem?_cons_zero, Option.bind_some, Option.map_some, Option.map_none, List.map_cons, List.map_nil, List.length_cons, List.length_nil, List.filterMap_cons, List.filterMap_nil, List.cons_append, List.nil_append, List.append_nil, Nat.zero_add, Nat.add_zero, List.take_succ_cons, List.take_zero, List.take_nil, List.drop_succ_cons, List.drop_zero, List.drop_nil, List.all_cons, List.all_nil, Bool.and_true, Bool.true_and, Bool.false_and, Bool.and_false, reduceCtorEq, beq_iff_eq, beq_self_eq_true]
        rw [hsu, hb] at hih
        exact hih
      · intro hf k
        have hb : lineB ws = false := by unfold lineB; unfold allW at hf; rw [List.drop_zero] at hf; rw [hf, Bool.and_false]
        simp -implicitDefEqProofs only [go_sem, repeatCells, splice, chunk, bsFin, ne_eq, not_true_eq_false, not_false_eq_true, List.headD_cons, Bool.false_eq_true, Nat.le_refl, Nat.zero_mul, Nat.one_mul, Nat.mul_one, assoc_setI, assoc_keep, ↓reduceIte, Nat.reduceEqDiff, Nat.reduceLT, Nat.reduceLeDiff, Nat.reduceAdd, Nat.reduceSub, Nat.reduceMul, decide_true, decide_false, Bool.not_true, Bool.not_false, List.mem_cons, List.not_mem_nil, true_or, or_true, false_or, or_false, and_true, true_and, and_self, List.getElem?_cons_succ, List.getElem?_cons_zero, Option.bind_some, Option.map_some, Option.map_none, List.map_cons, List.map_nil, List.length_cons, List.length_nil, List.filterMap_cons, List.filterMap_nil, List.cons_append, List.nil_append, List.append_nil, Nat.zero_add, Nat.add_zero, List.take_succ_cons, List.take_zero, List.take_nil, List.drop_succ_cons, List.drop_zero, List.drop_nil, List.all_cons, List.all_nil, Bool.and_true, Bool.true_and, Bool.false_and, Bool.and_false, reduceCtorEq, beq_iff_eq, beq_self_eq_true, intA, hw]
        subst hK
        simp -implicitDefEqProofs only [go_sem, repeatCells, splice, chunk, bsFin, ne_eq, not_true_eq_false, not_false_eq_true, List.headD_cons, Bool.false_eq_true, Nat.le_refl, Nat.zero_mul, Nat.one_mul, Nat.mul_one, assoc_setI, assoc_keep, ↓reduceIte, Nat.reduceEqDiff, Nat.reduceLT, Nat.reduceLeDiff, Nat.reduceAdd, Nat.reduceSub, Nat.reduceMul, decide_true, decide_false, Bool.not_true, Bool.not_false, List.mem_cons, List.not_mem_nil, true_or, or_true, false_or, or_false, and_true, true_and, and_self, List.getElem?_cons_succ, List.getElem?_cons_zero, Option.bind_some, Option.map_some, Option.map_none, List.map_cons, List.map_nil, List.length_cons, List.length_nil, List.filterMap_cons, List.filterMap_nil, List.cons_append, List.nil_append, List.append_nil, Nat.zero_add, Nat.add_zero, List.take_succ_cons, List.take_zero, List.take_nil, List.drop_succ_cons, List.drop_zero, List.drop_nil, List.all_cons, List.all_nil, Bool.and_true, Bool.true_and, Bool.false_and, Bool.and_false, reduceCtorEq, beq_iff_eq, beq_self_eq_true]
        rw [hsu, hb] at hih
        exact hih
def linesB (ls : List Line) : Bool := withinB 1 10 [(ls.length : Int)] && ls.all lineB
set_option maxHeartbeats 1000000 in
theorem ans87 {e : Exts} (he : Quiet e) (x : AV) (ls : List Line) (hx : LinesA ls x) (hn : ls.length < 2 ^ 63) (hnn : ∀ l ∈ ls, l.length < 2 ^ 63) (hz : ∀ l ∈ ls, ∀ s ∈ l, s.size < 2 ^ 63) : Ans (Cx e) 87 [x] (.v (.bool (linesB ls))) := by
  obtain ⟨lxs, hx, hls⟩ := hx
  unfold Ans
  have hc := call69 he 1 10 [(ls.length : Int)] (by simp) (.vs 1 [.v (.int .i64 ls.length)] (some 1)) (Or.inr ⟨_, rfl⟩)
  unfold intA at hc
  rw [fn_step (fn_87 e) (show Tryz.f87.body = some _ from rfl)]
  cases c1 : withinB 1 10 [(ls.length : Int)]
  · rw [c1] at hc
    simp -implicitDefEqProofs only [Tryz.f87, intA, go_sem, repeatCells, splice, chunk, bsFin, ne_eq, not_true_eq_false, not_false_eq_true, List.headD_cons, Bool.false_eq_true, Nat.le_refl, Nat.zero_mul, Nat.one_mul, Nat.mul_one, assoc_setI, assoc_keep, ↓reduceIte, Nat.reduceEqDiff, Nat.reduceLT, Nat.reduceLeDiff, Nat.reduceAdd, Nat.reduceSub, Nat.reduceMul, decide_true, decide_false, Bool.not_true, Bool.not_false, List.mem_cons, List.not_mem_nil, true_or, or_true, false_or, or_false, and_true, true_and, and_self, List.getElem?_cons_succ, List.getElem?_cons_zero, Option.bind_some, Option.map_some, Option.map_none, List.map_cons, List.map_nil, List.length_cons, List.length_nil, List.filterMap_cons, List.filterMap_nil, List.cons_append, List.nil_append, List.append_nil, Nat.zero_add, Nat.add_zero, List.take_succ_cons, List.take_zero, List.take_nil, List.drop_succ_cons, List.drop_zero, List.drop_nil, List.all_cons, List.all_nil, Bool.and_true, Bool.true_and, Bool.false_and, Bool.and_false, reduceCtorEq, beq_iff_eq, beq_self_eq_true, hx.len, ← hls.1, hc]
    unfold linesB; rw [c1]; rfl
  · rw [c1] at hc
    simp -implicitDefEqProofs only [Tryz.f87, intA, go_sem, repeatCells, splice, chunk, bsFin, ne_eq, not_true_eq_false, not_false_eq_true, List.headD_cons, Bool.false_eq_true, Nat.le_refl, Nat.zero_mul, Nat.one_mul, Nat.mul_one, assoc_setI, assoc_keep, ↓reduceIte, Nat.reduceEqDiff, Nat.reduceLT, Nat.reduceLeDiff, Nat.reduceAdd, Nat.reduceSub, Nat.reduceMul, decide_true, decide_false, Bool.not_true, Bool.not_false, List.mem_cons, List.not_mem_nil, true_or, or_true, false_or, or_false, and_true, true_and, and_self, List.getElem?_cons_succ, List.getElem?_cons_zero, Option.bind_some, Option.map_some, Option.map_none, List.map_cons, List.map_nil, List.length_cons, List.length_nil, List.filterMap_cons, List.filterMap_nil, List.cons_append, List.nil_append, List.append_nil, Nat.zero_add, Nat.add_zero, List.take_succ_cons, List.take_zero, List.take_nil, List.drop_succ_cons, List.drop_zero, List.drop_nil, List.all_cons, List.all_nil, Bool.and_true, Bool.true_and, Bool.false_and, Bool.and_false, reduceCtorEq, beq_iff_eq, beq_self_eq_true, hx.len, ← hls.1, hc]
    refine loop87l he x lxs hx ls hls hn hnn hz _ ?_ ls.length 0 (by omega)
    by_cases hall : ls.all lineB = true
    · have h1 := (okUpto_all ls).2 hall
      simp -implicitDefEqProofs only [go_sem, repeatCells, splice, chunk, bsFin, ne_eq, not_true_eq_false, not_false_eq_true, List.headD_cons, Bool.false_eq_true, Nat.le_refl, Nat.zero_mul, Nat.one_mul, Nat.mul_one, assoc_setI, assoc_keep, ↓reduceIte, Nat.reduceEqDiff, Nat.reduceLT, Nat.reduceLeDiff, Nat.reduceAdd, Nat.reduceSub, Nat.reduceMul, decide_true, decide_false, Bool.not_true, Bool.not_false, List.mem_cons, List.not_mem_nil, true_or, or_true, false_or, or_false, and_true, true_and, and_self, List.getElem?_cons_succ, List.getElem?_cons_zero, Option.bind_some, Option.map_some, Option.map_none, List.map_cons, List.map_nil, List.length_cons, List.length_nil, List.filterMap_cons, List.filterMap_nil, List.cons_append, List.nil_append, List.append_nil, Nat.zero_add, Nat.add_zero, List.take_succ_cons, List.take_zero, List.take_nil, List.drop_succ_cons, List.drop_zero, List.drop_nil, List.all_cons, List.all_nil, Bool.and_true, Bool.true_and, Bool.false_and, Bool.and_false, reduceCtorEq, beq_iff_eq, beq_self_eq_true, intA, hx.len, ← hls.1, h1]
      unfold linesB; rw [c1, hall]; rfl
    · have h1 : ¬ okUpto ls ls.length = ls.length := fun h => hall ((okUpto_all ls).1 h)
      have h2 : ¬ ((okUpto ls ls.length : Nat) : Int) = (ls.length : Int) := by omega
      simp -implicitDefEqProofs only [go_sem, repeatCells, splice, chunk, bsFin, ne_eq, not_true_eq_false, not_false_eq_true, List.headD_cons, Bool.false_eq_true, Nat.le_refl, Nat.zero_mul, Nat.one_mul, Nat.mul_one, assoc_setI, assoc_keep, ↓reduceIte, Nat.reduceEqDiff, Nat.reduceLT, Nat.reduceLeDiff, Nat.reduceAdd, Nat.reduceSub, Nat.reduceMul, decide_true, decide_false, Bool.not_true, Bool.not_false, List.mem_cons, List.not_mem_nil, true_or, or_true, false_or, or_false, and_true, true_and, and_self, List.getElem?_cons_succ, List.getElem?_cons_zero, Option.bind_some, Option.map_some, Option.map_none, List.map_cons, List.map_nil, List.length_cons, List.length_nil, List.filterMap_cons, List.filterMap_nil, List.cons_append, List.nil_append, List.append_nil, Nat.zero_add, Nat.add_zero, List.take_succ_cons, List.take_zero, List.take_nil, List.drop_succ_cons, List.drop_zero, List.drop_nil, List.all_cons, List.all_nil, Bool.and_true, Bool.true_and, Bool.false_and, Bool.and_false, reduceCtorEq, beq_iff_eq, beq_self_eq_true, intA, hx.len, ← hls.1, h2]
      have h3 : ls.all lineB = false := by simpa using hall
      unfold linesB; rw [c1, h3]; rfl
theorem callI87 {e : Exts} (he : Quiet e) (x : AV) (ls : List Line) (hx : LinesA ls x) (hn : ls.length < 2 ^ 63) (hnn : ∀ l ∈ ls, l.length < 2 ^ 63) (hz : ∀ l ∈ ls, ∀ s ∈ l, s.size < 2 ^ 63) (me : FuncId) (d : Option Tmp) : callI (Cx e) me 87 d [x] = some (.v (.bool (linesB ls))) :=
  (ans87 he x ls hx hn hnn hz).callI (ext_87 he) (pure_87 _ _ _) (by obtain ⟨lxs, hx, -⟩ := hx; simp only [boundL_cons, hx.bound, boundL_nil]; rfl)
end Go.Ev
namespace Go.Ev
open Go.Proofs
set_option maxRecDepth 100000
set_option linter.unusedSimpArgs false
def condD (t : Txt) (i : Nat) (c : Chap) : Bool := withinB 0 9999 [c.1] && !hasIdB (t.take i) c.1 && linesB c.2
theorem condD_eq (t : Txt) (i : Nat) (c : Chap) : condD t i c = condC t i c := by
  unfold condD condC linesB hasIdB idB
  rw [List.drop_zero]
  cases withinB 0 9999 [c.1] <;> cases withinB 1 10 [(c.2.length : Int)] <;> cases (t.take i).any (fun c_1 => decide (c_1.1 = c.1)) <;> simp
noncomputable def body62 : Code := ((Tryz.f62.body.map loops).getD [])[0]?.getD .skip
theorem All2.take {α β : Type} {R : α → β → Prop} {l : List α} {m : List β} (h : All2 R l m) (n : Nat) : All2 R (l.take n) (m.take n) := by
  refine ⟨by simp [h.1], fun i a b ha hb => ?_⟩
  rw [List.getElem?_take] at ha hb
  split at ha
  · rename_i hi; rw [if_pos hi] at hb; exact h.2 i a b ha hb
  · cases ha
set_option maxHeartbeats 4000000 in
theorem loop62 {e : Exts} (he : Quiet e) (t : Txt) (ht : Fits t) (xs : List AV) (ch : AV) (hch : SlOf 2 xs ch) (hn : t.length < 2 ^ 63) (hall : All2 ChapA t xs) (K : Post) :
    ∀ m j : Nat, j + m = t.length → (chB t j = false → AtK K (.exit 0) ⟨40, [(0, .agg [ch]), (1, .ptr 0 0 0), (2, .v (.bool false)), (11, .v (.bool false)), (13, ch), (14, intA t.length), (15, intA (t.length : Nat))], []⟩ ⟨[some (.cells 0 0 24 1 false [ch])], 0⟩) → (chB t j = true → ∀ tl HH, assoc 2 tl = some (.v (.bool false)) → AtK K .ret ⟨40, tl, []⟩ HH) →
    Lp (Cx e) 62 none [0, 1, 2, 11, 13, 14, 15] (body62) ⟨40, [(0, .agg [ch]), (1, .ptr 0 0 0), (2, .v (.bool false)), (11, .v (.bool false)), (13, ch), (14, intA t.length), (15, intA j)], []⟩ ⟨[some (.cells 0 0 24 1 false [ch])], 0⟩ K := by
  intro m
  induction m with
  | zero =>
    intro j hj h1 h2
    rw [Lp_step]
    generalize hK : loopK (Cx e) 62 none [0, 1, 2, 11, 13, 14, 15] (body62) _ K = KK
    unfold body62
    obtain rfl : j = t.length := by omega
    simp only [Tryz.f62, loops, Option.map_some, Option.getD_some, List.nil_append, List.append_nil, List.cons_append, List.getElem?_cons_zero, List.getElem?_cons_succ]
    simp -implicitDefEqProofs only [go_sem, repeatCells, splice, chunk, bsFin, ne_eq, not_true_eq_false, not_false_eq_true, List.headD_cons, Bool.false_eq_true, Nat.le_refl, Nat.zero_mul, Nat.one_mul, Nat.mul_one, assoc_setI, assoc_keep, ↓reduceIte, Nat.reduceEqDiff, Nat.reduceLT, Nat.reduceLeDiff, Nat.reduceAdd, Nat.reduceSub, Nat.reduceMul, decide_true, decide_false, Bool.not_true, Bool.not_false, List.mem_cons, List.not_mem_nil, true_or, or_true, false_or, or_false, and_true, true_and, and_self, List.getElem?_cons_succ, List.getElem?_cons_zero, Option.bind_some, Option.map_some, Option.map_none, List.map_cons, List.map_nil, List.length_cons, List.length_nil, List.filterMap_cons, List.filterMap_nil, List.cons_append, List.nil_append, List.append_nil, Nat.zero_add, Nat.add_zero, List.take_succ_cons, List.take_zero, List.take_nil, List.drop_succ_cons, List.drop_zero, List.drop_nil, List.all_cons, List.all_nil, Bool.and_true, Bool.true_and, Bool.false_and, Bool.and_false, reduceCtorEq, beq_iff_eq, beq_self_eq_true, intA, Int.lt_irrefl, hch.len, ← hall.1]
    subst hK
    simp -implicitDefEqProofs only [go_sem, repeatCells, splice, chunk, bsFin, ne_eq, not_true_eq_false, not_false_eq_true, List.headD_cons, Bool.false_eq_true, Nat.le_refl, Nat.zero_mul, Nat.one_mul, Nat.mul_one, assoc_setI, assoc_keep, ↓reduceIte, Nat.reduceEqDiff, Nat.reduceLT, Nat.reduceLeDiff, Nat.reduceAdd, Nat.reduceSub, Nat.reduceMul, decide_true, decide_false, Bool.not_true, Bool.not_false, List.mem_cons, List.not_mem_nil, true_or, or_true, false_or, or_false, and_true, true_and, and_self, List.getElem?_cons_succ, List.getElem?_cons_zero, Option.bind_some, Option.map_some, Option.map_none, List.map_cons, List.map_nil, List.length_cons, List.length_nil, List.filterMap_cons, List.filterMap_nil, List.cons_append, List.nil_append, List.append_nil, Nat.zero_add, Nat.add_zero, List.take_succ_cons, List.take_zero, List.take_nil, List.drop_succ_cons, List.drop_zero, List.drop_nil, List.all_cons, List.all_nil, Bool.and_true, Bool.true_and, Bool.false_and, Bool.and_false, reduceCtorEq, beq_iff_eq, beq_self_eq_true]
    exact h1 (by unfold chB; rw [List.drop_of_length_le (by simp)]; rfl)
  | succ m ih =>
    intro j hj h1 h2
    rw [Lp_step]
    generalize hK : loopK (Cx e) 62 none [0, 1, 2, 11, 13, 14, 15] (body62) _ K = KK
    unfold body62
    have hlt : (j : Int) < ((t.length : Nat) : Int) := by omega
    have hw := wrap_succ j (by omega)
    have hj0 : (0 : Int) ≤ (j : Int) := by omega
    simp only [Tryz.f62, loops, Option.map_some, Option.getD_some, List.nil_append, List.append_nil, List.cons_append, List.getElem?_cons_zero, List.getElem?_cons_succ]
    obtain ⟨c, hs⟩ := at_lt t j (by omega)
    obtain ⟨y, hy, l, rfl, hl'⟩ := hall.get hs
    obtain ⟨lxs, hl, hls⟩ := hl'
    have hd := chB_step t j c hs
    have hm := List.mem_of_getElem? hs
    have hca := callI51 he c.1
    obtain ⟨z, hz1, hz2⟩ := hch.slice und_22 size_46 j (by rw [← hall.1]; omega)
    have hcb := callI86 he c.1 (t.take j) z _ hz2 (hall.take j) (by simp; omega)
    have hcc := callI87 he l c.2 ⟨lxs, hl, hls⟩ (ht.lines c hm) (ht.words c hm) (ht.size c hm)
    simp -implicitDefEqProofs only [go_sem, repeatCells, splice, chunk, bsFin, ne_eq, not_true_eq_false, not_false_eq_true, List.headD_cons, Bool.false_eq_true, Nat.le_refl, Nat.zero_mul, Nat.one_mul, Nat.mul_one, assoc_setI, assoc_keep, ↓reduceIte, Nat.reduceEqDiff, Nat.reduceLT, Nat.reduceLeDiff, Nat.reduceAdd, Nat.reduceSub, Nat.reduceMul, decide_true, decide_false, Bool.not_true, Bool.not_false, List.mem_cons, List.not_mem_nil, true_or, or_true, false_or, or_false, and_true, true_and, and_self, List.getElem?_cons_succ, List.getElem?_cons_zero, Option.bind_some, Option.map_some, Option.map_none, List.map_cons, List.map_nil, List.length_cons, List.length_nil, List.filterMap_cons, List.filterMap_nil, List.cons_append, List.nil_append, List.append_nil, Nat.zero_add, Nat.add_zero, List.take_succ_cons, List.take_zero, List.take_nil, List.drop_succ_cons, List.drop_zero, List.drop_nil, List.all_cons, List.all_nil, Bool.and_true, Bool.true_and, Bool.false_and, Bool.and_false, reduceCtorEq, beq_iff_eq, beq_self_eq_true, intA, hlt, hw, hch.len, hch.cells, hch.idx hy, hl.len, hl.cells, hl.flat, hl.bound]
    refine wp_draw (by kernel_rfl) ?_
    rw [← condD_eq] at hd
    cases c1 : withinB 0 9999 [c.1]
    · rw [c1] at hca
      simp -implicitDefEqProofs only [go_sem, repeatCells, splice, chunk, bsFin, ne_eq, not_true_eq_false, not_false_eq_true, List.headD_cons, Bool.false_eq_true, Nat.le_refl, Nat.zero_mul, Nat.one_mul, Nat.mul_one, assoc_setI, assoc_keep, ↓reduceIte, Nat.reduceEqDiff, Nat.reduceLT, Nat.reduceLeDiff, Nat.reduceAdd, Nat.reduceSub, Nat.reduceMul, decide_true, decide_false, Bool.not_true, Bool.not_false, List.mem_cons, List.not_mem_nil, true_or, or_true, false_or, or_false, and_true, true_and, and_self, List.getElem?_cons_succ, List.getElem?_cons_zero, Option.bind_some, Option.map_some, Option.map_none, List.map_cons, List.map_nil, List.length_cons, List.length_nil, List.filterMap_cons, List.filterMap_nil, List.cons_append, List.nil_append, List.append_nil, Nat.zero_add, Nat.add_zero, List.take_succ_cons, List.take_zero, List.take_nil, List.drop_succ_cons, List.drop_zero, List.drop_nil, List.all_cons, List.all_nil, Bool.and_true, Bool.true_and, Bool.false_and, Bool.and_false, reduceCtorEq, beq_iff_eq, beq_self_eq_true, intA, hlt, hw, hca]
      subst hK
      simp -implicitDefEqProofs only [go_sem, repeatCells, splice, chunk, bsFin, ne_eq, not_true_eq_false, not_false_eq_true, List.headD_cons, Bool.false_eq_true, Nat.le_refl, Nat.zero_mul, Nat.one_mul, Nat.mul_one, assoc_setI, assoc_keep, ↓reduceIte, Nat.reduceEqDiff, Nat.reduceLT, Nat.reduceLeDiff, Nat.reduceAdd, Nat.reduceSub, Nat.reduceMul, decide_true, decide_false, Bool.not_true, Bool.not_false, List.mem_cons, List.not_mem_nil, true_or, or_true, false_or, or_false, and_true, true_and, and_self, List.getElem?_cons_succ, List.getElem?_cons_zero, Option.bind_some, Option.map_some, Option.map_none, List.map_cons, List.map_nil, List.length_cons, List.length_nil, List.filterMap_cons, List.filterMap_nil, List.cons_append, List.nil_append, List.append_nil, Nat.zero_add, Nat.add_zero, List.take_succ_cons, List.take_zero, List.take_nil, List.drop_succ_cons, List.drop_zero, List.drop_nil, List.all_cons, List.all_nil, Bool.and_true, Bool.true_and, Bool.false_and, Bool.and_false, reduceCtorEq, beq_iff_eq, beq_self_eq_true]
      exact h2 (by rw [hd]; unfold condD; rw [c1]; rfl) _ _ rfl
    · rw [c1] at hca
      cases c2 : hasIdB (t.take j) c.1
      · rw [c2] at hcb
        cases c3 : linesB c.2
        · rw [c3] at hcc
          simp -implicitDefEqProofs only [go_sem, repeatCells, splice, chunk, bsFin, ne_eq, not_true_eq_false, not_false_eq_true, List.headD_cons, Bool.false_eq_true, Nat.le_refl, Nat.zero_mul, Nat.one_mul, Nat.mul_one, assoc_setI, assoc_keep, ↓reduceIte, Nat.reduceEqDiff, Nat.reduceLT, Nat.reduceLeDiff, Nat.reduceAdd, Nat.reduceSub, Nat.reduceMul, decide_true, decide_false, Bool.not_true, Bool.not_false, List.mem_cons, List.not_mem_nil, true_or, or_true, false_or, or_false, and_true, true_and, and_self, List.getElem?_cons_succ, List.getElem?_cons_zero, Option.bind_some, Option.map_some, Option.map_none, List.map_cons, List.map_nil, List.length_cons, List.length_nil, List.filterMap_cons, List.filterMap_nil, List.cons_append, List.nil_append, List.append_nil, Nat.zero_add, Nat.add_zero, List.take_succ_cons, List.take_zero, List.take_nil, List.drop_succ_cons, List.drop_zero, List.drop_nil, List.all_cons, List.all_nil, Bool.and_true, Bool.true_and, Bool.false_and, Bool.and_false, reduceCtorEq, beq_iff_eq, beq_self_eq_true, intA, hlt, hw, hca, hcb, hcc, hz1]
          subst hK
          simp -implicitDefEqProofs only [go_sem, repeatCells, splice, chunk, bsFin, ne_eq, not_true_eq_false, not_false_eq_true, List.headD_cons, Bool.false_eq_true, Nat.le_refl, Nat.zero_mul, Nat.one_mul, Nat.mul_one, assoc_setI, assoc_keep, ↓reduceIte, Nat.reduceEqDiff, Nat.reduceLT, Nat.reduceLeDiff, Nat.reduceAdd, Nat.reduceSub, Nat.reduceMul, decide_true, decide_false, Bool.not_true, Bool.not_false, List.mem_cons, List.not_mem_nil, true_or, or_true, false_or, or_false, and_true, true_and, and_self, List.getElem?_cons_succ, List.getElem?_cons_zero, Option.bind_some, Option.map_some, Option.map_none, List.map_cons, List.map_nil, List.length_cons, List.length_nil, List.filterMap_cons, List.filterMap_nil, List.cons_append, List.nil_append, List.append_nil, Nat.zero_add, Nat.add_zero, List.take_succ_cons, List.take_zero, List.take_nil, List.drop_succ_cons, List.drop_zero, List.drop_nil, List.all_cons, List.all_nil, Bool.and_true, Bool.true_and, Bool.false_and, Bool.and_false, reduceCtorEq, beq_iff_eq, beq_self_eq_true]
          exact h2 (by rw [hd]; unfold condD; rw [c1, c2, c3]; rfl) _ _ rfl
        · rw [c3] at hcc
          simp -implicitDefEqProofs only [go_sem, repeatCells, splice, chunk, bsFin, ne_eq, not_true_eq_false, not_false_eq_true, List.headD_cons, Bool.false_eq_true, Nat.le_refl, Nat.zero_mul, Nat.one_mul, Nat.mul_one, assoc_setI, assoc_keep, ↓reduceIte, Nat.reduceEqDiff, Nat.reduceLT, Nat.reduceLeDiff, Nat.reduceAdd, Nat.reduceSub, Nat.reduceMul, decide_true, decide_false, Bool.not_true, Bool.not_false, List.mem_cons, List.not_mem_nil, true_or, or_true, false_or, or_false, and_true, true_and, and_self, List.getElem?_cons_succ, List.getElem?_cons_zero, Option.bind_some, Option.map_some, Option.map_none, List.map_cons, List.map_nil, List.length_cons, List.length_nil, List.filterMap_cons, List.filterMap_nil, List.cons_append, List.nil_append, List.append_nil, Nat.zero_add, Nat.add_zero, List.take_succ_cons, List.take_zero, List.take_nil, List.drop_succ_cons, List.drop_zero, List.drop_nil, List.all_cons, List.all_nil, Bool.and_true, Bool.true_and, Bool.false_and, Bool.and_false, reduceCtorEq, beq_iff_eq, beq_self_eq_true, intA, hlt, hw, hca, hcb, hcc, hz1]
          subst hK
          simp -implicitDefEqProofs only [go_sem, repeatCells, splice, chunk, bsFin, ne_eq, not_true_eq_false, not_false_eq_true, List.headD_cons, Bool.false_eq_true, Nat.le_refl, Nat.zero_mul, Nat.one_mul, Nat.mul_one, assoc_setI, assoc_keep, ↓reduceIte, Nat.reduceEqDiff, Nat.reduceLT, Nat.reduceLeDiff, Nat.reduceAdd, Nat.reduceSub, Nat.reduceMul, decide_true, decide_false, Bool.not_true, Bool.not_false, List.mem_cons, List.not_mem_nil, true_or, or_true, false_or, or_false, and_true, true_and, and_self, List.getElem?_cons_succ, List.getElem?_cons_zero, Option.bind_some, Option.map_some, Option.map_none, List.map_cons, List.map_nil, List.length_cons, List.length_nil, List.filterMap_cons, List.filterMap_nil, List.cons_append, List.nil_append, List.append_nil, Nat.zero_add, Nat.add_zero, List.take_succ_cons, List.take_zero, List.take_nil, List.drop_succ_cons, List.drop_zero, List.drop_nil, List.all_cons, List.all_nil, Bool.and_true, Bool.true_and, Bool.false_and, Bool.and_false, reduceCtorEq, beq_iff_eq, beq_self_eq_true, trim_at, hch.flat, hch.bound, hch.cells]
          have hd' : chB t j = chB t (j + 1) := by rw [hd]; unfold condD; rw [c1, c2, c3]; rfl
          rw [hd'] at h1 h2
          exact ih (j + 1) (by omega) h1 h2
      · rw [c2] at hcb
        simp -implicitDefEqProofs only [go_sem, repeatCells, splice, chunk, bsFin, ne_eq, not_true_eq_false, not_false_eq_true, List.headD_cons, Bool.false_eq_true, Nat.le_refl, Nat.zero_mul, Nat.one_mul, Nat.mul_one, assoc_setI, assoc_keep, ↓reduceIte, Nat.reduceEqDiff, Nat.reduceLT, Nat.reduceLeDiff, Nat.reduceAdd, Nat.reduceSub, Nat.reduceMul, decide_true, decide_false, Bool.not_true, Bool.not_false, List.mem_cons, List.not_mem_nil, true_or, or_true, false_or, or_false, and_true, true_and, and_self, List.getElem?_cons_succ, List.getElem?_cons_zero, Option.bind_some, Option.map_some, Option.map_none, List.map_cons, List.map_nil, List.length_cons, List.length_nil, List.filterMap_cons, List.filterMap_nil, List.cons_append, List.nil_append, List.append_nil, Nat.zero_add, Nat.add_zero, List.take_succ_cons, List.take_zero, List.take_nil, List.drop_succ_cons, List.drop_zero, List.drop_nil, List.all_cons, List.all_nil, Bool.and_true, Bool.true_and, Bool.false_and, Bool.and_false, reduceCtorEq, beq_iff_eq, beq_self_eq_true, intA, hlt, hw, hca, hcb, hz1]
        subst hK
        simp -implicitDefEqProofs only [go_sem, repeatCells, splice, chunk, bsFin, ne_eq, not_true_eq_false, not_false_eq_true, List.headD_cons, Bool.false_eq_true, Nat.le_refl, Nat.zero_mul, Nat.one_mul, Nat.mul_one, assoc_setI, assoc_keep, ↓reduceIte, Nat.reduceEqDiff, Nat.reduceLT, Nat.reduceLeDiff, Nat.reduceAdd, Nat.reduceSub, Nat.reduceMul, decide_true, decide_false, Bool.not_true, Bool.not_false, List.mem_cons, List.not_mem_nil, true_or, or_true, false_or, or_false, and_true, true_and, and_self, List.getElem?_cons_succ, List.getElem?_cons_zero, Option.bind_some, Option.map_some, Option.map_none, List.map_cons, List.map_nil, List.length_cons, List.length_nil, List.filterMap_cons, List.filterMap_nil, List.cons_append, List.nil_append, List.append_nil, Nat.zero_add, Nat.add_zero, List.take_succ_cons, List.take_zero, List.take_nil, List.drop_succ_cons, List.drop_zero, List.drop_nil, List.all_cons, List.all_nil, Bool.and_true, Bool.true_and, Bool.false_and, Bool.and_false, reduceCtorEq, beq_iff_eq, beq_self_eq_true]
        exact h2 (by rw [hd]; unfold condD; rw [c1, c2]; rfl) _ _ rfl
set_option maxHeartbeats 1000000 in
theorem ans62 {e : Exts} (he : Quiet e) (t : Txt) (ht : Fits t) (x : AV) (hx : TextA t x) : Ans (Cx e) 62 [x] (.v (.bool (textB t))) := by
  obtain ⟨ch, rfl, xs, hch, hall⟩ := hx
  unfold Ans
  have hc := call69 he 1 6 [(t.length : Int)] (by simp) (.vs 1 [.v (.int .i64 t.length)] (some 1)) (Or.inr ⟨_, rfl⟩)
  unfold intA at hc
  rw [fn_step (fn_62 e) (show Tryz.f62.body = some _ from rfl)]
  cases h1 : withinB 1 6 [(t.length : Int)]
  · rw [h1] at hc
    simp -implicitDefEqProofs only [Tryz.f62, intA, go_sem, repeatCells, splice, chunk, bsFin, ne_eq, not_true_eq_false, not_false_eq_true, List.headD_cons, Bool.false_eq_true, Nat.le_refl, Nat.zero_mul, Nat.one_mul, Nat.mul_one, assoc_setI, assoc_keep, ↓reduceIte, Nat.reduceEqDiff, Nat.reduceLT, Nat.reduceLeDiff, Nat.reduceAdd, Nat.reduceSub, Nat.reduceMul, decide_true, decide_false, Bool.not_true, Bool.not_false, List.mem_cons, List.not_mem_nil, true_or, or_true, false_or, or_false, and_true, true_and, and_self, List.getElem?_cons_succ, List.getElem?_cons_zero, Option.bind_some, Option.map_some, Option.map_none, List.map_cons, List.map_nil, List.length_cons, List.length_nil, List.filterMap_cons, List.filterMap_nil, List.cons_append, List.nil_append, List.append_nil, Nat.zero_add, Nat.add_zero, List.take_succ_cons, List.take_zero, List.take_nil, List.drop_succ_cons, List.drop_zero, List.drop_nil, List.all_cons, List.all_nil, Bool.and_true, Bool.true_and, Bool.false_and, Bool.and_false, reduceCtorEq, beq_iff_eq, beq_self_eq_true, hch.len, hch.cells, hch.flat, hch.bound, ← hall.1, hc]
    unfold textB; rw [h1]; rfl
  · rw [h1] at hc
    simp -implicitDefEqProofs only [Tryz.f62, intA, go_sem, repeatCells, splice, chunk, bsFin, ne_eq, not_true_eq_false, not_false_eq_true, List.headD_cons, Bool.false_eq_true, Nat.le_refl, Nat.zero_mul, Nat.one_mul, Nat.mul_one, assoc_setI, assoc_keep, ↓reduceIte, Nat.reduceEqDiff, Nat.reduceLT, Nat.reduceLeDiff, Nat.reduceAdd, Nat.reduceSub, Nat.reduceMul, decide_true, decide_false, Bool.not_true, Bool.not_false, List.mem_cons, List.not_mem_nil, true_or, or_true, false_or, or_false, and_true, true_and, and_self, List.getElem?_cons_succ, List.getElem?_cons_zero, Option.bind_some, Option.map_some, Option.map_none, List.map_cons, List.map_nil, List.length_cons, List.length_nil, List.filterMap_cons, List.filterMap_nil, List.cons_append, List.nil_append, List.append_nil, Nat.zero_add, Nat.add_zero, List.take_succ_cons, List.take_zero, List.take_nil, List.drop_succ_cons, List.drop_zero, List.drop_nil, List.all_cons, List.all_nil, Bool.and_true, Bool.true_and, Bool.false_and, Bool.and_false, reduceCtorEq, beq_iff_eq, beq_self_eq_true, hch.len, hch.cells, hch.flat, hch.bound, ← hall.1, hc]
    refine loop62 he t ht xs ch hch ht.chs hall _ t.length 0 (by omega) ?_ ?_
    · intro hf
      have hf' : okFrom t 0 t = true := by unfold chB at hf; simpa using hf
      simp -implicitDefEqProofs only [go_sem, repeatCells, splice, chunk, bsFin, ne_eq, not_true_eq_false, not_false_eq_true, List.headD_cons, Bool.false_eq_true, Nat.le_refl, Nat.zero_mul, Nat.one_mul, Nat.mul_one, assoc_setI, assoc_keep, ↓reduceIte, Nat.reduceEqDiff, Nat.reduceLT, Nat.reduceLeDiff, Nat.reduceAdd, Nat.reduceSub, Nat.reduceMul, decide_true, decide_false, Bool.not_true, Bool.not_false, List.mem_cons, List.not_mem_nil, true_or, or_true, false_or, or_false, and_true, true_and, and_self, List.getElem?_cons_succ, List.getElem?_cons_zero, Option.bind_some, Option.map_some, Option.map_none, List.map_cons, List.map_nil, List.length_cons, List.length_nil, List.filterMap_cons, List.filterMap_nil, List.cons_append, List.nil_append, List.append_nil, Nat.zero_add, Nat.add_zero, List.take_succ_cons, List.take_zero, List.take_nil, List.drop_succ_cons, List.drop_zero, List.drop_nil, List.all_cons, List.all_nil, Bool.and_true, Bool.true_and, Bool.false_and, Bool.and_false, reduceCtorEq, beq_iff_eq, beq_self_eq_true]
      unfold textB; rw [h1, hf']; rfl
    · intro hf tl HH htl
      have hf' : okFrom t 0 t = false := by unfold chB at hf; simpa using hf
      simp -implicitDefEqProofs only [go_sem, repeatCells, splice, chunk, bsFin, ne_eq, not_true_eq_false, not_false_eq_true, List.headD_cons, Bool.false_eq_true, Nat.le_refl, Nat.zero_mul, Nat.one_mul, Nat.mul_one, assoc_setI, assoc_keep, ↓reduceIte, Nat.reduceEqDiff, Nat.reduceLT, Nat.reduceLeDiff, Nat.reduceAdd, Nat.reduceSub, Nat.reduceMul, decide_true, decide_false, Bool.not_true, Bool.not_false, List.mem_cons, List.not_mem_nil, true_or, or_true, false_or, or_false, and_true, true_and, and_self, List.getElem?_cons_succ, List.getElem?_cons_zero, Option.bind_some, Option.map_some, Option.map_none, List.map_cons, List.map_nil, List.length_cons, List.length_nil, List.filterMap_cons, List.filterMap_nil, List.cons_append, List.nil_append, List.append_nil, Nat.zero_add, Nat.add_zero, List.take_succ_cons, List.take_zero, List.take_nil, List.drop_succ_cons, List.drop_zero, List.drop_nil, List.all_cons, List.all_nil, Bool.and_true, Bool.true_and, Bool.false_and, Bool.and_false, reduceCtorEq, beq_iff_eq, beq_self_eq_true, htl]
      unfold textB; rw [h1, hf']; rfl
theorem call62 {e : Exts} (he : Quiet e) (t : Txt) (ht : Fits t) (x : AV) (hx : TextA t x) (me : FuncId) (d : Option Tmp) (H : Heap) : callA (Cx e) (lim (Cx e)) me 62 d [x] H = some (.v (.bool (textB t)), H) :=
  (ans62 he t ht x hx).call (ext_62 he) (pure_62 _ _ _) (by obtain ⟨ch, rfl, xs, hch, -⟩ := hx; simp only [boundL_cons, bound_agg, hch.bound, boundL_nil]; rfl) H
set_option maxHeartbeats 1000000 in
theorem ans40 {e : Exts} (he : Quiet e) (t : Txt) (ht : Fits t) (ch : AV) (hx : ChsA t ch) : Ans (Cx e) 40 [.agg [ch]] (if textB t then .tup [.agg [ch], intA 0] else .tup [.agg [.v (.slice none 0 0)], intA 10]) := by
  have hc := call62 he t ht _ ⟨ch, rfl, hx⟩ 40 (some 5)
  obtain ⟨xs, hch, hall⟩ := hx
  unfold Ans
  rw [fn_step (fn_40 e) (show Tryz.f40.body = some _ from rfl)]
  cases h1 : textB t
  · rw [h1] at hc
    simp -implicitDefEqProofs only [Tryz.f40, intA, go_sem, repeatCells, splice, chunk, bsFin, ne_eq, not_true_eq_false, not_false_eq_true, List.headD_cons, Bool.false_eq_true, Nat.le_refl, Nat.zero_mul, Nat.one_mul, Nat.mul_one, assoc_setI, assoc_keep, ↓reduceIte, Nat.reduceEqDiff, Nat.reduceLT, Nat.reduceLeDiff, Nat.reduceAdd, Nat.reduceSub, Nat.reduceMul, decide_true, decide_false, Bool.not_true, Bool.not_false, List.mem_cons, List.not_mem_nil, true_or, or_true, false_or, or_false, and_true, true_and, and_self, List.getElem?_cons_succ, List.getElem?_cons_zero, Option.bind_some, Option.map_some, Option.map_none, List.map_cons, List.map_nil, List.length_cons, List.length_nil, List.filterMap_cons, List.filterMap_nil, List.cons_append, List.nil_append, List.append_nil, Nat.zero_add, Nat.add_zero, List.take_succ_cons, List.take_zero, List.take_nil, List.drop_succ_cons, List.drop_zero, List.drop_nil, List.all_cons, List.all_nil, Bool.and_true, Bool.true_and, Bool.false_and, Bool.and_false, reduceCtorEq, beq_iff_eq, beq_self_eq_true, hch.cells, hch.flat, hch.bound, hc]
    rcases hch with ⟨rfl, rfl⟩ | ⟨cap, rfl⟩
    · kernel_rfl
    · kernel_rfl
  · rw [h1] at hc
    simp -implicitDefEqProofs only [Tryz.f40, intA, go_sem, repeatCells, splice, chunk, bsFin, ne_eq, not_true_eq_false, not_false_eq_true, List.headD_cons, Bool.false_eq_true, Nat.le_refl, Nat.zero_mul, Nat.one_mul, Nat.mul_one, assoc_setI, assoc_keep, ↓reduceIte, Nat.reduceEqDiff, Nat.reduceLT, Nat.reduceLeDiff, Nat.reduceAdd, Nat.reduceSub, Nat.reduceMul, decide_true, decide_false, Bool.not_true, Bool.not_false, List.mem_cons, List.not_mem_nil, true_or, or_true, false_or, or_false, and_true, true_and, and_self, List.getElem?_cons_succ, List.getElem?_cons_zero, Option.bind_some, Option.map_some, Option.map_none, List.map_cons, List.map_nil, List.length_cons, List.length_nil, List.filterMap_cons, List.filterMap_nil, List.cons_append, List.nil_append, List.append_nil, Nat.zero_add, Nat.add_zero, List.take_succ_cons, List.take_zero, List.take_nil, List.drop_succ_cons, List.drop_zero, List.drop_nil, List.all_cons, List.all_nil, Bool.and_true, Bool.true_and, Bool.false_and, Bool.and_false, reduceCtorEq, beq_iff_eq, beq_self_eq_true, hch.cells, hch.flat, hch.bound, hc]
    rcases hch with ⟨rfl, rfl⟩ | ⟨cap, rfl⟩
    · kernel_rfl
    · kernel_rfl
theorem call40 {e : Exts} (he : Quiet e) (t : Txt) (ht : Fits t) (ch : AV) (hx : ChsA t ch) (me : FuncId) (d : Option Tmp) (H : Heap) : callA (Cx e) (lim (Cx e)) me 40 d [.agg [ch]] H = some (if textB t then .tup [.agg [ch], intA 0] else .tup [.agg [.v (.slice none 0 0)], intA 10], H) :=
  (ans40 he t ht ch hx).call (ext_40 he) (pure_40 _ _ _) (by obtain ⟨xs, hch, -⟩ := hx; simp only [boundL_cons, bound_agg, hch.bound, boundL_nil]; rfl) H
end Go.Ev
namespace Go.Ev
open Go.Proofs
set_option maxRecDepth 100000
set_option linter.unusedSimpArgs false
theorem okCh2_of {t : Txt} (ht : Fits t) {xs : List AV} (hall : All2 ChapA t xs) : ∀ y ∈ xs, OkCh2 y := by
  intro y hy
  obtain ⟨i, hi⟩ := List.getElem?_of_mem hy
  have hlt := (List.getElem?_eq_some_iff.1 hi).1
  obtain ⟨c, hc⟩ := at_lt t i (by rw [hall.1]; exact hlt)
  obtain ⟨l, rfl, lxs, hl, hls⟩ := hall.2 i c y hc hi
  have hm := List.mem_of_getElem? hc
  refine ⟨c.1, l, lxs, rfl, hl, by rw [← hls.1]; exact ht.lines c hm, fun x hx => ?_⟩
  obtain ⟨j, hj⟩ := List.getElem?_of_mem hx
  have hjl := (List.getElem?_eq_some_iff.1 hj).1
  obtain ⟨ws, hws⟩ := at_lt c.2 j (by rw [hls.1]; exact hjl)
  have hlx : SlOf 1 (strs ws) x := hls.2 j ws x hws hj
  exact ⟨strs ws, hlx, fun z hz => by obtain ⟨s, -, rfl⟩ := List.mem_map.1 hz; rfl, by rw [strs_len]; exact ht.words c hm ws (List.mem_of_getElem? hws)⟩
end Go.Ev
namespace Go.Ev
open Go.Proofs
set_option maxRecDepth 100000
set_option linter.unusedSimpArgs false
theorem call38 {e : Exts} (he : Quiet e) (t : Txt) (ht : Fits t) (x : AV) (hx : TextA t x) (me : FuncId) (d : Option Tmp) (H : Heap) : callA (Cx e) (lim (Cx e)) me 38 d [x] H = some (.v (.bool (greatT t)), H) :=
  (ans38 t ht x hx).call (ext_38 he) (pure_38 _ _ _) (by obtain ⟨ch, rfl, xs, hch, -⟩ := hx; simp only [boundL_cons, bound_agg, hch.bound, boundL_nil]; rfl) H
theorem call39 {e : Exts} (he : Quiet e) (t : Txt) (ht : Fits t) (x : AV) (hx : TextA t x) (me : FuncId) (d : Option Tmp) (H : Heap) : callA (Cx e) (lim (Cx e)) me 39 d [x] H = some (.v (.bool (textB t)), H) :=
  (ans39 he t ht x hx).call (ext_39 he) (pure_39 _ _ _) (by obtain ⟨ch, rfl, xs, hch, -⟩ := hx; simp only [boundL_cons, bound_agg, hch.bound, boundL_nil]; rfl) H
def readyB (t : Txt) : Bool := !greatT t && textB t
set_option maxHeartbeats 1000000 in
theorem ans13 {e : Exts} (he : Quiet e) (t : Txt) (ht : Fits t) (x : AV) (hx : TextA t x) : Ans (Cx e) 13 [x] (.v (.bool (readyB t))) := by
  have h1 := call38 he t ht x hx
  have h2 := call39 he t ht x hx
  obtain ⟨ch, rfl, xs, hch, hall⟩ := hx
  unfold Ans
  rw [fn_step (fn_13 e) (show Tryz.f13.body = some _ from rfl)]
  unfold readyB
  cases c1 : greatT t
  · rw [c1] at h1
    simp -implicitDefEqProofs only [Tryz.f13, intA, go_sem, repeatCells, splice, chunk, bsFin, ne_eq, not_true_eq_false, not_false_eq_true, List.headD_cons, Bool.false_eq_true, Nat.le_refl, Nat.zero_mul, Nat.one_mul, Nat.mul_one, assoc_setI, assoc_keep, ↓reduceIte, Nat.reduceEqDiff, Nat.reduceLT, Nat.reduceLeDiff, Nat.reduceAdd, Nat.reduceSub, Nat.reduceMul, decide_true, decide_false, Bool.not_true, Bool.not_false, List.mem_cons, List.not_mem_nil, true_or, or_true, false_or, or_false, and_true, true_and, and_self, List.getElem?_cons_succ, List.getElem?_cons_zero, Option.bind_some, Option.map_some, Option.map_none, List.map_cons, List.map_nil, List.length_cons, List.length_nil, List.filterMap_cons, List.filterMap_nil, List.cons_append, List.nil_append, List.append_nil, Nat.zero_add, Nat.add_zero, List.take_succ_cons, List.take_zero, List.take_nil, List.drop_succ_cons, List.drop_zero, List.drop_nil, List.all_cons, List.all_nil, Bool.and_true, Bool.true_and, Bool.false_and, Bool.and_false, reduceCtorEq, beq_iff_eq, beq_self_eq_true, hch.cells, hch.flat, hch.bound, h1, h2]
  · rw [c1] at h1
    simp -implicitDefEqProofs only [Tryz.f13, intA, go_sem, repeatCells, splice, chunk, bsFin, ne_eq, not_true_eq_false, not_false_eq_true, List.headD_cons, Bool.false_eq_true, Nat.le_refl, Nat.zero_mul, Nat.one_mul, Nat.mul_one, assoc_setI, assoc_keep, ↓reduceIte, Nat.reduceEqDiff, Nat.reduceLT, Nat.reduceLeDiff, Nat.reduceAdd, Nat.reduceSub, Nat.reduceMul, decide_true, decide_false, Bool.not_true, Bool.not_false, List.mem_cons, List.not_mem_nil, true_or, or_true, false_or, or_false, and_true, true_and, and_self, List.getElem?_cons_succ, List.getElem?_cons_zero, Option.bind_some, Option.map_some, Option.map_none, List.map_cons, List.map_nil, List.length_cons, List.length_nil, List.filterMap_cons, List.filterMap_nil, List.cons_append, List.nil_append, List.append_nil, Nat.zero_add, Nat.add_zero, List.take_succ_cons, List.take_zero, List.take_nil, List.drop_succ_cons, List.drop_zero, List.drop_nil, List.all_cons, List.all_nil, Bool.and_true, Bool.true_and, Bool.false_and, Bool.and_false, reduceCtorEq, beq_iff_eq, beq_self_eq_true, hch.cells, hch.flat, hch.bound, h1]
theorem call13 {e : Exts} (he : Quiet e) (t : Txt) (ht : Fits t) (x : AV) (hx : TextA t x) (me : FuncId) (d : Option Tmp) (H : Heap) : callA (Cx e) (lim (Cx e)) me 13 d [x] H = some (.v (.bool (readyB t)), H) :=
  (ans13 he t ht x hx).call (ext_13 he) (pure_13 _ _ _) (by obtain ⟨ch, rfl, xs, hch, -⟩ := hx; simp only [boundL_cons, bound_agg, hch.bound, boundL_nil]; rfl) H
/-- a place is before another one -/
def beforeB (a b : Int × Int × Int) : Bool := if a.1 ≠ b.1 then decide (a.1 < b.1) else if a.2.1 ≠ b.2.1 then decide (a.2.1 < b.2.1) else decide (a.2.2 < b.2.2)
end Go.Ev
/- Ranges over functions, in a function's own code: a loop's body as a step of a state. -/
namespace Go.Ev
def pend : AExit → Option Code
  | .normal => none
  | .ret => some .ret
  | .exit i => some (.exit i)
theorem jumpOf_pend (e : AExit) : jumpOf e = some (pend e) := by cases e <;> rfl
def isGo : AExit → Bool
  | .normal => true
  | _ => false
theorem pend_none (e : AExit) : (pend e).isNone = isGo e := by cases e <;> rfl
def foldE {S : Type} (stp : S → List AV → AExit × S) : List (List AV) → S → AExit × S
  | [], s => (.normal, s)
  | x :: r, s => match (stp s x).1 with | .normal => foldE stp r (stp s x).2 | e => (e, (stp s x).2)
theorem foldE_go {S : Type} {stp : S → List AV → AExit × S} {x : List AV} {r : List (List AV)} {s : S} (h : (stp s x).1 = .normal) : foldE stp (x :: r) s = foldE stp r (stp s x).2 := by
  simp only [foldE, h]
theorem foldE_out {S : Type} {stp : S → List AV → AExit × S} {x : List AV} {r : List (List AV)} {s : S} (h : (stp s x).1 ≠ .normal) : foldE stp (x :: r) s = stp s x := by
  simp only [foldE]
def busyL (me : FuncId) (n : Nat) (ts : List (Tmp × AV)) (ps : Array Tmp) (asg body : Code) (d : Nat) (st : LoopState) (p : Option Code) : ALoop := { fn := me, state := st, pending := p, size := n, tmps := ts, params := ps, assign := asg, body := body, dfr := d }
def stateOf (e : AExit) : LoopState := if (pend e).isNone then .ready else .done
section
variable {C : Cfg} {me : FuncId} {S : Type} {hb : S → Heap} {stp : S → List AV → AExit × S} {lv : S → Prop} {ok : List AV → Prop} {n0 : Nat}
theorem run_range (stp : S → List AV → AExit × S) : ∀ (items : List (List AV)) (s : S), runIt (fun (q : S × AExit) x => (isGo (stp q.1 x).1, ((stp q.1 x).2, (stp q.1 x).1))) items (s, .normal) = (isGo (foldE stp items s).1, ((foldE stp items s).2, (foldE stp items s).1))
  | [], s => rfl
  | x :: r, s => by
    have ih := run_range stp r (stp s x).2
    unfold runIt
    simp only
    cases h : (stp s x).1 with
    | normal =>
      rw [if_pos (show isGo .normal = true from rfl), ih, foldE_go h]
    | exit i => rw [if_neg (show ¬ isGo (.exit i) = true from fun h => nomatch h), foldE_out (by rw [h]; intro h; cases h), h]; rfl
    | ret => rw [if_neg (show ¬ isGo .ret = true from fun h => nomatch h), foldE_out (by rw [h]; intro h; cases h), h]; rfl
end
/-! ### memory with a tail that is not known -/
end Go.Ev
/- Loops by a rule: what holds of each round, with a number that goes down. -/
namespace Go.Ev
section
variable {C : Cfg} {me : FuncId} {rd : Option Nat}
abbrev Inv := Nat → AAct → Heap → Prop
def Again (P : Inv) (m : Nat) (a : AAct) (H : Heap) : Prop := ∃ m', m' < m ∧ P m' a H
@[congr] theorem Again_congr {P : Inv} {m : Nat} {a a' : AAct} {H H' : Heap} (ha : a = a') (hH : H = H') : Again P m a H = Again P m a' H' := by rw [ha, hH]
def itK (P : Inv) (m : Nat) (ks : List Tmp) (n : Nat) (K : Post) : Post := fun e a H =>
  match e with
  | .normal => Again P m (a.only ks) (H.trim n ((a.only ks).tmps.map (·.2)) (a.only ks).marks)
  | .exit i => AtK K (.exit i) (a.only ks) (H.trim n ((a.only ks).tmps.map (·.2)) (a.only ks).marks)
  | .ret => AtK K .ret a H
@[go_sem ↓] theorem itK_normal (P : Inv) (m : Nat) (ks : List Tmp) (n : Nat) (K : Post) (s : Nat) (l : List (Tmp × AV)) (ms : List Nat) (H : Heap) : AtK (itK P m ks n K) .normal ⟨s, l, ms⟩ H = bindO (nf (ks.filterMap fun k => (assoc k l).map fun v => (k, v))) fun l' => bindO (nf (H.trim n (l'.map (·.2)) ms)) fun H' => Again P m ⟨s, l', ms⟩ H' := rfl
@[go_sem ↓] theorem itK_exit (P : Inv) (m : Nat) (ks : List Tmp) (n i : Nat) (K : Post) (s : Nat) (l : List (Tmp × AV)) (ms : List Nat) (H : Heap) : AtK (itK P m ks n K) (.exit i) ⟨s, l, ms⟩ H = bindO (nf (ks.filterMap fun k => (assoc k l).map fun v => (k, v))) fun l' => bindO (nf (H.trim n (l'.map (·.2)) ms)) fun H' => AtK K (.exit i) ⟨s, l', ms⟩ H' := rfl
@[go_sem ↓] theorem itK_ret (P : Inv) (m : Nat) (ks : List Tmp) (n : Nat) (K : Post) (a : AAct) (H : Heap) : AtK (itK P m ks n K) .ret a H = AtK K .ret a H := rfl
theorem Lp_rule {ks : List Tmp} {c : Code} {K : Post} (P : Inv) (hstep : ∀ m a H, P m a H → Wp C me rd c a H (itK P m ks H.size K)) : ∀ m a H, P m a H → Lp C me rd ks c a H K := by
  intro m
  induction m using Nat.strongRecOn with
  | _ m ih =>
    intro a H hp
    rw [Lp_step]
    refine Wp_mono (hstep m a H hp) ?_
    intro e a' H' h
    cases e with
    | normal =>
      obtain ⟨m', hm, hp'⟩ := h
      exact ih m' hm _ _ hp'
    | exit i => exact h
    | ret => exact h
/-- the same, the rounds' property and what is behind the loop kept out of sight -/
theorem Lp_ruleQ {ks : List Tmp} {c : Code} {K : Post} (P : Inv) (hstep : ∀ (Q : Inv) (KK : Post), (∀ m a H, P m a H → Q m a H) → (∀ e a H, AtK K e a H → AtK KK e a H) → ∀ m a H, P m a H → Wp C me rd c a H (itK Q m ks H.size KK)) : ∀ m a H, P m a H → Lp C me rd ks c a H K :=
  Lp_rule P (hstep P K (fun _ _ _ h => h) (fun _ _ _ h => h))
end
/-! ### memory whose end is not known -/
theorem take_len {α : Type} (l : List α) : l.take l.length = l := List.take_length
attribute [go_sem] take_len
/-! ### what a function with ranges leaves -/
end Go.Ev
namespace Go.Ev
open Go.Proofs
set_option maxRecDepth 100000
set_option linter.unusedSimpArgs false
/-! ### words of a text with their places, as plain lists -/
theorem All2.cons {α β : Type} {R : α → β → Prop} {a : α} {l : List α} {m : List β} (h : All2 R (a :: l) m) : ∃ b m', m = b :: m' ∧ R a b ∧ All2 R l m' := by
  cases m with
  | nil => have := h.1; simp at this
  | cons b m' => exact ⟨b, m', rfl, h.2 0 a b rfl rfl, by simpa using h.1, fun i x y hx hy => h.2 (i + 1) x y (by simpa using hx) (by simpa using hy)⟩
/-! ### their order -/
end Go.Ev
namespace Go.Ev
open Go.Proofs
set_option maxRecDepth 100000
set_option linter.unusedSimpArgs false
/-! ### a text that is valid is small -/
theorem okFrom_mem : ∀ (t t' : Txt) (j : Nat), okFrom t j t' = true → ∀ c ∈ t', withinB 1 10 [(c.2.length : Int)] = true ∧ c.2.all lineB = true
  | t, [], j, _, c, hc => by cases hc
  | t, c' :: r, j, h, c, hc => by
    simp only [okFrom, Bool.and_eq_true, condC] at h
    rcases List.mem_cons.1 hc with rfl | hc
    · exact ⟨h.1.1.1.2, h.1.2⟩
    · exact okFrom_mem t r (j + 1) h.2 c hc
structure Small (t : Txt) : Prop where
  chs : 1 ≤ t.length ∧ t.length ≤ 6
  lines : ∀ c ∈ t, 1 ≤ c.2.length ∧ c.2.length ≤ 10
  words : ∀ c ∈ t, ∀ l ∈ c.2, 1 ≤ l.length ∧ l.length ≤ 10
  word : ∀ c ∈ t, ∀ l ∈ c.2, ∀ s ∈ l, wordB s = true
theorem small_of {t : Txt} (h : textB t = true) : Small t := by
  unfold textB at h
  simp only [Bool.and_eq_true] at h
  obtain ⟨h1, h2⟩ := h
  have hl : ∀ c ∈ t, ∀ l ∈ c.2, lineB l = true := fun c hc l hl => List.all_eq_true.1 (okFrom_mem t t 0 h2 c hc).2 l hl
  refine ⟨?_, fun c hc => ?_, fun c hc l hlm => ?_, fun c hc l hlm s hs => ?_⟩
  · rw [range1] at h1; simp at h1; omega
  · have := (okFrom_mem t t 0 h2 c hc).1
    rw [range1] at this; simp at this; omega
  · have := hl c hc l hlm
    unfold lineB at this
    rw [range1] at this; simp at this; omega
  · have := hl c hc l hlm
    unfold lineB at this
    simp only [Bool.and_eq_true] at this
    exact List.all_eq_true.1 this.2 s hs
/-! ### the first that is found, by a counter -/
end Go.Ev
namespace Go.Ev
open Go.Proofs
set_option maxRecDepth 100000
set_option linter.unusedSimpArgs false
/-! ### PlaceOf -/
end Go.Ev
/- Structs that are compared. -/
namespace Go.Ev
section
variable {P : Program}
theorem rp_bind {α β : Type} : ∀ (s : Sem α) (f : α → Sem β), runPure P (s >>= f) = (runPure P s).bind fun x => runPure P (f x) := by
  intro s f
  show runPure P (s.bind f) = _
  induction s with
  | pure a => rfl
  | program k ih => exact ih P
  | mark m k ih => exact ih
  | _ => rfl
theorem rp_pure {α : Type} (x : α) : runPure P (pure x : Sem α) = some x := rfl
theorem rp_program : runPure P program = some P := rfl
theorem rp_underlying {t : TypeId} {d : TypeDesc} (h : P.underlying t = some d) : runPure P (underlying t) = some d := by
  unfold underlying
  rw [rp_bind, rp_program, Option.bind_some, h]; rfl
theorem rp_ite {α : Type} (c : Prop) [Decidable c] (x y : Sem α) : runPure P (if c then x else y) = if c then runPure P x else runPure P y := by split <;> rfl
theorem rp_struct {t : TypeId} {fs : Array Field} (hu : P.underlying t = some (.struct fs)) (hst : P.stoodInHeld t = false) (xs ys : Array Value) (d : Nat) : runPure P (Op.equalIn (d + 1) t (.agg xs) (.agg ys)) = runPure P (Op.eqFields d xs ys fs.toList) := by
  unfold Op.equalIn
  simp only [rp_bind, rp_underlying hu, Option.bind_some, rp_program, hst]
  simp only [Bool.false_eq_true, if_false, rp_bind]
  rw [← Array.forIn_toList]
  induction fs.toList with
  | nil => simp [Op.eqFields, rp_pure]
  | cons f r ih =>
    simp only [List.forIn_cons, Op.eqFields, rp_bind, rp_ite]
    split
    · cases runPure P (part f.type xs f.offset) with
      | none => rfl
      | some a =>
        simp only [Option.bind_some]
        cases runPure P (part f.type ys f.offset) with
        | none => rfl
        | some b =>
          simp only [Option.bind_some]
          cases runPure P (Op.equalIn d f.type a b) with
          | none => rfl
          | some r =>
            cases r
            · simp only [Option.bind_some, Bool.not_false, if_true, rp_pure]
            · simp only [Option.bind_some, Bool.not_true, Bool.false_eq_true, if_false, rp_pure]
              exact ih
    · simp only [rp_pure, Option.bind_some]
      exact ih
theorem rp_int {t : TypeId} {k' : IntKind} (hu : P.underlying t = some (.int k')) (k : IntKind) (a b : Int) (d : Nat) : runPure P (Op.equalIn (d + 1) t (.int k a) (.int k b)) = some (decide (a = b)) := by
  unfold Op.equalIn
  simp only [rp_bind, rp_underlying hu, Option.bind_some, if_true]
  have : (a == b) = decide (a = b) := rfl
  rw [this]; rfl
theorem rp_bool {t : TypeId} (hu : P.underlying t = some .bool) (a b : Bool) (d : Nat) : runPure P (Op.equalIn (d + 1) t (.bool a) (.bool b)) = some (a == b) := by
  unfold Op.equalIn
  simp only [rp_bind, rp_underlying hu, Option.bind_some]
  rfl
theorem beqB (a b : ByteArray) : (a == b) = decide (a = b) := by
  obtain ⟨⟨x⟩⟩ := a
  obtain ⟨⟨y⟩⟩ := b
  show ((⟨x⟩ : Array UInt8) == ⟨y⟩) = _
  by_cases h : x = y
  · subst h; simp
  · simp [h]
theorem rp_string {t : TypeId} (hu : P.underlying t = some .string) (a b : ByteArray) (d : Nat) : runPure P (Op.equalIn (d + 1) t (.string a) (.string b)) = some (decide (a = b)) := by
  unfold Op.equalIn
  simp only [rp_bind, rp_underlying hu, Option.bind_some]
  rw [beqB]; rfl
/-! ### of cells that stand for themselves -/
def eqCell : Value → Value → Bool
  | .int _ m, .int _ n => decide (m = n)
  | .string a, .string b => decide (a = b)
  | .bool a, .bool b => a == b
  | _, _ => false
def eqCells : List Value → List Value → Bool
  | [], [] => true
  | x :: r, y :: s => eqCell x y && eqCells r s
  | _, _ => false
theorem eqCells_append : ∀ (a b c d : List Value), a.length = b.length → eqCells (a ++ c) (b ++ d) = (eqCells a b && eqCells c d)
  | [], [], c, d, _ => by simp [eqCells]
  | [], _ :: _, c, d, h => by simp at h
  | _ :: _, [], c, d, h => by simp at h
  | x :: a, y :: b, c, d, h => by simp only [List.cons_append, eqCells, eqCells_append a b c d (by simpa using h), Bool.and_assoc]
/-- the fields lie one behind the other, from k on up to the end -/
def tiledE (P : Program) : Nat → List Field → Nat → Bool
  | k, [], e => k == e
  | k, f :: r, e => f.offset == k && f.name != "_" && tiledE P (k + P.cellsOf f.type) r e
/-- cells that a comparison of this type takes -/
def eqOk (P : Program) : Nat → TypeId → List Value → List Value → Bool
  | 0, _, _, _ => false
  | n + 1, t, us, ws => (P.info? t).isSome &&
    match P.underlying t with
    | some .bool => match us, ws with | [.bool _], [.bool _] => true | _, _ => false
    | some (.int _) => match us, ws with | [.int k _], [.int k' _] => decide (k = k') | _, _ => false
    | some .string => match us, ws with | [.string _], [.string _] => true | _, _ => false
    | some (.struct fs) => !P.stoodInHeld t && tiledE P 0 fs.toList us.length && us.length == ws.length && P.cellsOf t == us.length && fs.toList.all fun f => eqOk P n f.type ((us.drop f.offset).take (P.cellsOf f.type)) ((ws.drop f.offset).take (P.cellsOf f.type))
    | _ => false
def isStr (P : Program) (t : TypeId) : Bool := match P.underlying t with | some (.struct _) => true | _ => false
def valOf (P : Program) (t : TypeId) (us : List Value) : Value := if isStr P t then .agg us.toArray else us.headD (.bool false)
theorem rp_info {t : TypeId} {i : TypeInfo} (h : P.info? t = some i) : runPure P (typeInfo t) = some i := by
  unfold typeInfo
  rw [rp_bind, rp_program, Option.bind_some, h]; rfl
theorem rp_isAgg {t : TypeId} {d : TypeDesc} (h : P.underlying t = some d) : runPure P (isAgg t) = some (match d with | .struct _ | .array _ _ => true | _ => false) := by
  unfold isAgg
  rw [rp_bind, rp_underlying h, Option.bind_some]
  cases d <;> rfl
theorem rp_part_one {t : TypeId} {d : TypeDesc} (hu : P.underlying t = some d) (hd : (match d with | .struct _ | .array _ _ => true | _ => false) = false) {xs : List Value} {k c : Nat} {u : Value} (hx : (xs.drop k).take c = [u]) : runPure P (part t xs.toArray k) = some u := by
  unfold part
  rw [rp_bind, rp_isAgg hu, Option.bind_some, hd]
  have h0 : xs.toArray[k]? = some u := Go.getElem?_of_chunk (c := c) (by simpa using hx)
  simp only [Bool.false_eq_true, if_false, h0]
  rfl
theorem rp_part_agg {t : TypeId} {fs : Array Field} (hu : P.underlying t = some (.struct fs)) {i : TypeInfo} (hi : P.info? t = some i) (xs : List Value) (k : Nat) : runPure P (part t xs.toArray k) = some (.agg ((xs.drop k).take (P.cellsOf t)).toArray) := by
  unfold part
  rw [rp_bind, rp_isAgg hu, Option.bind_some]
  simp only [if_true]
  unfold sizeOf
  simp only [rp_bind, rp_info hi, Option.bind_some, rp_pure]
  unfold Program.cellsOf
  rw [hi]
  simp [List.extract_toArray]
theorem eqOk_len {n t : Nat} {us ws : List Value} (h : eqOk P n t us ws = true) : us.length = ws.length := by
  cases n with
  | zero => cases h
  | succ n =>
    unfold eqOk at h
    simp only [Bool.and_eq_true] at h
    replace h := h.2
    split at h
    · split at h <;> first | rfl | cases h
    · split at h <;> first | rfl | cases h
    · split at h <;> first | rfl | cases h
    · simp only [Bool.and_eq_true, beq_iff_eq] at h; exact h.1.1.2
    · cases h
theorem rp_eq : ∀ (n : Nat) (t : TypeId) (us ws : List Value), eqOk P n t us ws = true → ∀ K, n ≤ K → (∀ (xs : List Value) (k : Nat), (xs.drop k).take (P.cellsOf t) = us → runPure P (part t xs.toArray k) = some (valOf P t us)) ∧ (∀ (xs : List Value) (k : Nat), (xs.drop k).take (P.cellsOf t) = ws → runPure P (part t xs.toArray k) = some (valOf P t ws)) ∧ runPure P (Op.equalIn K t (valOf P t us) (valOf P t ws)) = some (eqCells us ws)
  | 0, _, _, _, h, _, _ => by cases h
  | n + 1, t, us, ws, h, 0, hK => by omega
  | n + 1, t, us, ws, h, K + 1, hK => by
    unfold eqOk at h
    simp only [Bool.and_eq_true] at h
    obtain ⟨hi, h⟩ := h
    obtain ⟨i, hi⟩ := Option.isSome_iff_exists.1 hi
    cases hu : P.underlying t with
    | none => rw [hu] at h; cases h
    | some d =>
      rw [hu] at h
      have hv : ∀ l, valOf P t l = if (match d with | .struct _ => true | _ => false) then .agg l.toArray else l.headD (.bool false) := by
        intro l; unfold valOf isStr; rw [hu]; cases d <;> rfl
      cases d <;> try (cases h; done)
      case bool =>
        simp only at h
        split at h
        · rw [hv, hv]
          exact ⟨fun xs k hx => rp_part_one hu rfl hx, fun xs k hx => rp_part_one hu rfl hx, (rp_bool hu _ _ K).trans (congrArg some (Bool.and_true _).symm)⟩
        · cases h
      case int =>
        simp only at h
        split at h
        · rename_i k a k' b
          simp only [decide_eq_true_eq] at h
          subst h
          rw [hv, hv]
          exact ⟨fun xs k hx => rp_part_one hu rfl hx, fun xs k hx => rp_part_one hu rfl hx, (rp_int hu _ _ _ K).trans (congrArg some (Bool.and_true _).symm)⟩
        · cases h
      case string =>
        simp only at h
        split at h
        · rw [hv, hv]
          exact ⟨fun xs k hx => rp_part_one hu rfl hx, fun xs k hx => rp_part_one hu rfl hx, (rp_string hu _ _ K).trans (congrArg some (Bool.and_true _).symm)⟩
        · cases h
      case struct fs =>
        simp only [Bool.and_eq_true, Bool.not_eq_true', beq_iff_eq] at h
        obtain ⟨⟨⟨⟨hst, htl⟩, hlen⟩, hc⟩, hall⟩ := h
        rw [hv, hv]
        simp only [if_true]
        refine ⟨fun xs k hx => by rw [rp_part_agg hu hi, hx], fun xs k hx => by rw [rp_part_agg hu hi, hx], ?_⟩
        rw [rp_struct hu hst]
        have hall' : ∀ f ∈ fs.toList, eqOk P n f.type ((us.drop f.offset).take (P.cellsOf f.type)) ((ws.drop f.offset).take (P.cellsOf f.type)) = true := fun f hf => List.all_eq_true.1 hall f (by simpa using hf)
        have key : ∀ (l : List Field) (k : Nat), (∀ f ∈ l, f ∈ fs.toList) → tiledE P k l us.length = true → runPure P (Op.eqFields K us.toArray ws.toArray l) = some (eqCells (us.drop k) (ws.drop k)) := by
          intro l
          induction l with
          | nil =>
            intro k _ ht
            have : k = us.length := by unfold tiledE at ht; simpa using ht
            subst this
            rw [List.drop_of_length_le (Nat.le_refl _), List.drop_of_length_le (by omega)]
            rfl
          | cons f r ih =>
            intro k hm ht
            unfold tiledE at ht
            simp only [Bool.and_eq_true, beq_iff_eq, bne_iff_ne, ne_eq] at ht
            obtain ⟨⟨ho, hn⟩, ht⟩ := ht
            have hf := hall' f (hm f List.mem_cons_self)
            obtain ⟨h1, h2, h3⟩ := rp_eq n f.type _ _ hf K (by omega)
            have ihr := ih (k + P.cellsOf f.type) (fun g hg => hm g (List.mem_cons_of_mem _ hg)) ht
            unfold Op.eqFields
            rw [if_pos (by simpa using hn)]
            simp only [rp_bind, rp_ite]
            rw [h1 us f.offset rfl, h2 ws f.offset rfl]
            simp only [Option.bind_some, h3, rp_pure, ihr]
            rw [ho]
            have hl := eqOk_len hf
            rw [ho] at hl
            have e1 : us.drop k = (us.drop k).take (P.cellsOf f.type) ++ us.drop (k + P.cellsOf f.type) := by
              rw [← List.drop_drop, List.take_append_drop]
            have e2 : ws.drop k = (ws.drop k).take (P.cellsOf f.type) ++ ws.drop (k + P.cellsOf f.type) := by
              rw [← List.drop_drop, List.take_append_drop]
            have e3 := eqCells_append _ _ (us.drop (k + P.cellsOf f.type)) (ws.drop (k + P.cellsOf f.type)) hl
            rw [← e1, ← e2] at e3
            rw [e3]
            cases eqCells ((us.drop k).take (P.cellsOf f.type)) ((ws.drop k).take (P.cellsOf f.type)) <;> rfl
        have := key fs.toList 0 (fun _ h => h) htl
        simpa using this
/-- structs of plain cells, compared -/
theorem bin_struct {t : TypeId} {us ws : List Value} {n : Nat} (hok : eqOk P n t us ws = true) (hn : n ≤ 10000) (hs : isStr P t = true) (hg : P.eqGuardType P.depth t = false) (x y : Operand) :
    binA P .eql t x y (.agg (us.map .v)) (.agg (ws.map .v)) = some (.v (.bool (eqCells us ws))) ∧ binA P .neq t x y (.agg (us.map .v)) (.agg (ws.map .v)) = some (.v (.bool (!eqCells us ws))) := by
  have ha : ∀ l : List Value, toAtoms (l.map .v) = some l := by
    intro l; induction l with
    | nil => rfl
    | cons a r ih => simp only [List.map_cons, toAtoms, ih, Option.map_some]
  have hv : ∀ l : List Value, toValue (.agg (l.map .v)) = some (.agg l.toArray) := by
    intro l; simp only [toValue, ha, Option.map_some]
  have h := (rp_eq n t us ws hok 10000 hn).2.2
  have hvv : ∀ l, valOf P t l = .agg l.toArray := by intro l; unfold valOf; rw [hs]; rfl
  rw [hvv, hvv] at h
  have h' : runPure P (Op.equal t (.agg us.toArray) (.agg ws.toArray)) = some (eqCells us ws) := h
  constructor
  · unfold binA
    simp only [hv, isEq, hg, Bool.not_false, Bool.and_true, if_true]
    show atomA (runPure P (do pure (.bool (← Op.equal t (.agg us.toArray) (.agg ws.toArray))))) = _
    rw [rp_bind, h']; rfl
  · unfold binA
    simp only [hv, isEq, hg, Bool.not_false, Bool.and_true, if_true]
    show atomA (runPure P (do pure (.bool (!(← Op.equal t (.agg us.toArray) (.agg ws.toArray)))))) = _
    rw [rp_bind, h']; rfl
end
end Go.Ev
namespace Go.Ev
open Go.Proofs
set_option maxRecDepth 100000
set_option linter.unusedSimpArgs false
/-! ### Number -/
/-- places, compared -/
def eqP (a b c a' b' c' : Int) : Bool := decide (a = a') && (decide (b = b') && decide (c = c'))
theorem eqP_cells (a b c a' b' c' : Int) : eqCells [.int .i64 a, .int .i64 b, .int .i64 c] [.int .i64 a', .int .i64 b', .int .i64 c'] = eqP a b c a' b' c' := by
  simp [eqCells, eqCell, eqP]
theorem eq32 (x y : Operand) (a b c a' b' c' : Int) : binA Tryz.prog .eql 32 x y (.agg [.v (.int .i64 a), .v (.int .i64 b), .v (.int .i64 c)]) (.agg [.v (.int .i64 a'), .v (.int .i64 b'), .v (.int .i64 c')]) = some (.v (.bool (eqP a b c a' b' c'))) := by
  have := (bin_struct (P := Tryz.prog) (t := 32) (us := [.int .i64 a, .int .i64 b, .int .i64 c]) (ws := [.int .i64 a', .int .i64 b', .int .i64 c']) (n := 3) (by kernel_rfl) (by decide) (by kernel_rfl) (by kernel_rfl) x y).1
  rw [eqP_cells] at this
  exact this
end Go.Ev
namespace Go.Ev
open Go.Proofs
set_option maxRecDepth 100000
set_option linter.unusedSimpArgs false
def lineAt (t : Txt) (a b : Int) : Option Line := if 0 ≤ a ∧ 0 ≤ b then (t[a.toNat]?).bind fun c => c.2[b.toNat]? else none
/-- a line that is there, or none -/
def LineO (o : Option Line) (x : AV) : Prop := match o with | some l => LineA l x | none => x = .v (.slice none 0 0)
theorem within_len (a : Int) (n : Nat) : withinB 0 ((n : Int) - 1) [a] = decide (0 ≤ a ∧ a < n) := by
  rw [range1]
  by_cases h : 0 ≤ a <;> by_cases h2 : a < n <;> simp [h, h2] <;> omega
set_option maxHeartbeats 2000000 in
theorem ans42 {e : Exts} (he : Quiet e) (t : Txt) (ht : Fits t) (ch : AV) (xs : List AV) (hch : SlOf 2 xs ch) (hall : All2 ChapA t xs) (a b c : Int) : ∃ x, LineO (lineAt t a b) x ∧ Ans (Cx e) 42 [.agg [ch], .agg [intA a, intA b, intA c]] (.tup [x, .v (.bool (lineAt t a b).isSome)]) := by
  have hw1 : IntKind.i64.wrap ((t.length : Int) - 1) = (t.length : Int) - 1 := wrap_in _ (by omega) (by have := ht.chs; omega)
  have hc1 := callI43 he a 0 ((t.length : Int) - 1)
  rw [within_len] at hc1
  by_cases h1 : 0 ≤ a ∧ a < t.length
  · obtain ⟨i, rfl⟩ : ∃ i : Nat, a = i := ⟨a.toNat, by omega⟩
    obtain ⟨cp, hs⟩ := at_lt t i (by omega)
    obtain ⟨y, hy, l, rfl, lxs, hl, hls⟩ := hall.get hs
    have hm := List.mem_of_getElem? hs
    have hll := ht.lines cp hm
    have hw2 : IntKind.i64.wrap ((cp.2.length : Int) - 1) = (cp.2.length : Int) - 1 := wrap_in _ (by omega) (by omega)
    have hc2 := callI43 he b 0 ((cp.2.length : Int) - 1)
    rw [within_len] at hc2
    rw [decide_eq_true h1] at hc1
    by_cases h2 : 0 ≤ b ∧ b < cp.2.length
    · obtain ⟨j, rfl⟩ : ∃ j : Nat, b = j := ⟨b.toNat, by omega⟩
      obtain ⟨ln, hn⟩ := at_lt cp.2 j (by omega)
      obtain ⟨lx, hx, hlx⟩ := hls.get hn
      have hlx : SlOf 1 (strs ln) lx := hlx
      rw [decide_eq_true h2] at hc2
      have hL : lineAt t i j = some ln := by unfold lineAt; rw [if_pos (by omega)]; simp [hs, hn]
      rw [hL]
      refine ⟨lx, hlx, ?_⟩
      unfold Ans
      rw [fn_step (fn_42 e) (show Tryz.f42.body = some _ from rfl)]
      simp -implicitDefEqProofs only [Tryz.f42, go_sem, repeatCells, splice, chunk, bsFin, ne_eq, not_true_eq_false, not_false_eq_true, List.headD_cons, Bool.false_eq_true, Nat.le_refl, Nat.zero_mul, Nat.one_mul, Nat.mul_one, assoc_setI, assoc_keep, ↓reduceIte, Nat.reduceEqDiff, Nat.reduceLT, Nat.reduceLeDiff, Nat.reduceAdd, Nat.reduceSub, Nat.reduceMul, decide_true, decide_false, Bool.not_true, Bool.not_false, List.mem_cons, List.not_mem_nil, true_or, or_true, false_or, or_false, and_true, true_and, and_self, List.getElem?_cons_succ, List.getElem?_cons_zero, Option.bind_some, Option.map_some, Option.map_none, List.map_cons, List.map_nil, List.length_cons, List.length_nil, List.filterMap_cons, List.filterMap_nil, List.cons_append, List.nil_append, List.append_nil, Nat.zero_add, Nat.add_zero, List.take_succ_cons, List.take_zero, List.take_nil, List.drop_succ_cons, List.drop_zero, List.drop_nil, List.all_cons, List.all_nil, Bool.and_true, Bool.true_and, Bool.false_and, Bool.and_false, reduceCtorEq, beq_iff_eq, beq_self_eq_true, Int.reduceEq, Int.reduceLT, Int.reduceLE, List.zip_cons_cons, List.zip_nil_right, List.zip_nil_left, setT_nil, setT_cons, intA, hch.cells, hch.flat, hch.bound]
      refine wp_draw (by kernel_rfl) ?_
      simp -implicitDefEqProofs only [go_sem, repeatCells, splice, chunk, bsFin, ne_eq, not_true_eq_false, not_false_eq_true, List.headD_cons, Bool.false_eq_true, Nat.le_refl, Nat.zero_mul, Nat.one_mul, Nat.mul_one, assoc_setI, assoc_keep, ↓reduceIte, Nat.reduceEqDiff, Nat.reduceLT, Nat.reduceLeDiff, Nat.reduceAdd, Nat.reduceSub, Nat.reduceMul, decide_true, decide_false, Bool.not_true, Bool.not_false, List.mem_cons, List.not_mem_nil, true_or, or_true, false_or, or_false, and_true, true_and, and_self, List.getElem?_cons_succ, List.getElem?_cons_zero, Option.bind_some, Option.map_some, Option.map_none, List.map_cons, List.map_nil, List.length_cons, List.length_nil, List.filterMap_cons, List.filterMap_nil, List.cons_append, List.nil_append, List.append_nil, Nat.zero_add, Nat.add_zero, List.take_succ_cons, List.take_zero, List.take_nil, List.drop_succ_cons, List.drop_zero, List.drop_nil, List.all_cons, List.all_nil, Bool.and_true, Bool.true_and, Bool.false_and, Bool.and_false, reduceCtorEq, beq_iff_eq, beq_self_eq_true, Int.reduceEq, Int.reduceLT, Int.reduceLE, List.zip_cons_cons, List.zip_nil_right, List.zip_nil_left, setT_nil, setT_cons, intA, hch.cells, hch.flat, hch.bound, hch.len, hch.lenI, ← hall.1, hw1, hc1, hch.idx hy, hl.len, hl.cells, hl.lenI, ← hls.1, hw2, hc2]
      refine wp_draw (by kernel_rfl) ?_
      simp -implicitDefEqProofs only [go_sem, repeatCells, splice, chunk, bsFin, ne_eq, not_true_eq_false, not_false_eq_true, List.headD_cons, Bool.false_eq_true, Nat.le_refl, Nat.zero_mul, Nat.one_mul, Nat.mul_one, assoc_setI, assoc_keep, ↓reduceIte, Nat.reduceEqDiff, Nat.reduceLT, Nat.reduceLeDiff, Nat.reduceAdd, Nat.reduceSub, Nat.reduceMul, decide_true, decide_false, Bool.not_true, Bool.not_false, List.mem_cons, List.not_mem_nil, true_or, or_true, false_or, or_false, and_true, true_and, and_self, List.getElem?_cons_succ, List.getElem?_cons_zero, Option.bind_some, Option.map_some, Option.map_none, List.map_cons, List.map_nil, List.length_cons, List.length_nil, List.filterMap_cons, List.filterMap_nil, List.cons_append, List.nil_append, List.append_nil, Nat.zero_add, Nat.add_zero, List.take_succ_cons, List.take_zero, List.take_nil, List.drop_succ_cons, List.drop_zero, List.drop_nil, List.all_cons, List.all_nil, Bool.and_true, Bool.true_and, Bool.false_and, Bool.and_false, reduceCtorEq, beq_iff_eq, beq_self_eq_true, Int.reduceEq, Int.reduceLT, Int.reduceLE, List.zip_cons_cons, List.zip_nil_right, List.zip_nil_left, setT_nil, setT_cons, intA, hch.cells, hch.flat, hch.bound, hch.len, hch.lenI, ← hall.1, hw1, hc1, hch.idx hy, hl.len, hl.cells, hl.idx hx, hlx.cells]
      rcases hlx with ⟨rfl, -⟩ | ⟨cap, rfl⟩ <;> rfl
    · rw [decide_eq_false h2] at hc2
      have hL : lineAt t i b = none := by
        unfold lineAt
        split
        · simp only [Int.toNat_natCast, hs, Option.bind_some]
          rw [List.getElem?_eq_none_iff]; omega
        · rfl
      rw [hL]
      refine ⟨_, rfl, ?_⟩
      unfold Ans
      rw [fn_step (fn_42 e) (show Tryz.f42.body = some _ from rfl)]
      simp -implicitDefEqProofs only [Tryz.f42, go_sem, repeatCells, splice, chunk, bsFin, ne_eq, not_true_eq_false, not_false_eq_true, List.headD_cons, Bool.false_eq_true, Nat.le_refl, Nat.zero_mul, Nat.one_mul, Nat.mul_one, assoc_setI, assoc_keep, ↓reduceIte, Nat.reduceEqDiff, Nat.reduceLT, Nat.reduceLeDiff, Nat.reduceAdd, Nat.reduceSub, Nat.reduceMul, decide_true, decide_false, Bool.not_true, Bool.not_false, List.mem_cons, List.not_mem_nil, true_or, or_true, false_or, or_false, and_true, true_and, and_self, List.getElem?_cons_succ, List.getElem?_cons_zero, Option.bind_some, Option.map_some, Option.map_none, List.map_cons, List.map_nil, List.length_cons, List.length_nil, List.filterMap_cons, List.filterMap_nil, List.cons_append, List.nil_append, List.append_nil, Nat.zero_add, Nat.add_zero, List.take_succ_cons, List.take_zero, List.take_nil, List.drop_succ_cons, List.drop_zero, List.drop_nil, List.all_cons, List.all_nil, Bool.and_true, Bool.true_and, Bool.false_and, Bool.and_false, reduceCtorEq, beq_iff_eq, beq_self_eq_true, Int.reduceEq, Int.reduceLT, Int.reduceLE, List.zip_cons_cons, List.zip_nil_right, List.zip_nil_left, setT_nil, setT_cons, intA, hch.cells, hch.flat, hch.bound]
      refine wp_draw (by kernel_rfl) ?_
      simp -implicitDefEqProofs only [go_sem, repeatCells, splice, chunk, bsFin, ne_eq, not_true_eq_false, not_false_eq_true, List.headD_cons, Bool.false_eq_true, Nat.le_refl, Nat.zero_mul, Nat.one_mul, Nat.mul_one, assoc_setI, assoc_keep, ↓reduceIte, Nat.reduceEqDiff, Nat.reduceLT, Nat.reduceLeDiff, Nat.reduceAdd, Nat.reduceSub, Nat.reduceMul, decide_true, decide_false, Bool.not_true, Bool.not_false, List.mem_cons, List.not_mem_nil, true_or, or_true, false_or, or_false, and_true, true_and, and_self, List.getElem?_cons_succ, List.getElem?_cons_zero, Option.bind_some, Option.map_some, Option.map_none, List.map_cons, List.map_nil, List.length_cons, List.length_nil, List.filterMap_cons, List.filterMap_nil, List.cons_append, List.nil_append, List.append_nil, Nat.zero_add, Nat.add_zero, List.take_succ_cons, List.take_zero, List.take_nil, List.drop_succ_cons, List.drop_zero, List.drop_nil, List.all_cons, List.all_nil, Bool.and_true, Bool.true_and, Bool.false_and, Bool.and_false, reduceCtorEq, beq_iff_eq, beq_self_eq_true, Int.reduceEq, Int.reduceLT, Int.reduceLE, List.zip_cons_cons, List.zip_nil_right, List.zip_nil_left, setT_nil, setT_cons, intA, hch.cells, hch.flat, hch.bound, hch.len, hch.lenI, ← hall.1, hw1, hc1, hch.idx hy, hl.len, hl.cells, hl.lenI, ← hls.1, hw2, hc2]
      rfl
  · rw [decide_eq_false h1] at hc1
    have hL : lineAt t a b = none := by
      unfold lineAt
      split
      · have : t[a.toNat]? = none := by rw [List.getElem?_eq_none_iff]; omega
        rw [this]; rfl
      · rfl
    rw [hL]
    refine ⟨_, rfl, ?_⟩
    unfold Ans
    rw [fn_step (fn_42 e) (show Tryz.f42.body = some _ from rfl)]
    simp -implicitDefEqProofs only [Tryz.f42, go_sem, repeatCells, splice, chunk, bsFin, ne_eq, not_true_eq_false, not_false_eq_true, List.headD_cons, Bool.false_eq_true, Nat.le_refl, Nat.zero_mul, Nat.one_mul, Nat.mul_one, assoc_setI, assoc_keep, ↓reduceIte, Nat.reduceEqDiff, Nat.reduceLT, Nat.reduceLeDiff, Nat.reduceAdd, Nat.reduceSub, Nat.reduceMul, decide_true, decide_false, Bool.not_true, Bool.not_false, List.mem_cons, List.not_mem_nil, true_or, or_true, false_or, or_false, and_true, true_and, and_self, List.getElem?_cons_succ, List.getElem?_cons_zero, Option.bind_some, Option.map_some, Option.map_none, List.map_cons, List.map_nil, List.length_cons, List.length_nil, List.filterMap_cons, List.filterMap_nil, List.cons_append, List.nil_append, List.append_nil, Nat.zero_add, Nat.add_zero, List.take_succ_cons, List.take_zero, List.take_nil, List.drop_succ_cons, List.drop_zero, List.drop_nil, List.all_cons, List.all_nil, Bool.and_true, Bool.true_and, Bool.false_and, Bool.and_false, reduceCtorEq, beq_iff_eq, beq_self_eq_true, Int.reduceEq, Int.reduceLT, Int.reduceLE, List.zip_cons_cons, List.zip_nil_right, List.zip_nil_left, setT_nil, setT_cons, intA, hch.cells, hch.flat, hch.bound]
    refine wp_draw (by kernel_rfl) ?_
    simp -implicitDefEqProofs only [go_sem, repeatCells, splice, chunk, bsFin, ne_eq, not_true_eq_false, not_false_eq_true, List.headD_cons, Bool.false_eq_true, Nat.le_refl, Nat.zero_mul, Nat.one_mul, Nat.mul_one, assoc_setI, assoc_keep, ↓reduceIte, Nat.reduceEqDiff, Nat.reduceLT, Nat.reduceLeDiff, Nat.reduceAdd, Nat.reduceSub, Nat.reduceMul, decide_true, decide_false, Bool.not_true, Bool.not_false, List.mem_cons, List.not_mem_nil, true_or, or_true, false_or, or_false, and_true, true_and, and_self, List.getElem?_cons_succ, List.getElem?_cons_zero, Option.bind_some, Option.map_some, Option.map_none, List.map_cons, List.map_nil, List.length_cons, List.length_nil, List.filterMap_cons, List.filterMap_nil, List.cons_append, List.nil_append, List.append_nil, Nat.zero_add, Nat.add_zero, List.take_succ_cons, List.take_zero, List.take_nil, List.drop_succ_cons, List.drop_zero, List.drop_nil, List.all_cons, List.all_nil, Bool.and_true, Bool.true_and, Bool.false_and, Bool.and_false, reduceCtorEq, beq_iff_eq, beq_self_eq_true, Int.reduceEq, Int.reduceLT, Int.reduceLE, List.zip_cons_cons, List.zip_nil_right, List.zip_nil_left, setT_nil, setT_cons, intA, hch.cells, hch.flat, hch.bound, hch.len, hch.lenI, ← hall.1, hw1, hc1]
    rfl
theorem call42 {e : Exts} (he : Quiet e) (t : Txt) (ht : Fits t) (ch : AV) (xs : List AV) (hch : SlOf 2 xs ch) (hall : All2 ChapA t xs) (a b c : Int) : ∃ x, LineO (lineAt t a b) x ∧ ∀ (me : FuncId) (d : Option Tmp) (H : Heap), callA (Cx e) (lim (Cx e)) me 42 d [.agg [ch], .agg [.v (.int .i64 a), .v (.int .i64 b), .v (.int .i64 c)]] H = some (.tup [x, .v (.bool (lineAt t a b).isSome)], H) := by
  obtain ⟨x, hx, h⟩ := ans42 he t ht ch xs hch hall a b c
  exact ⟨x, hx, fun me d H => h.call (ext_42 he) (pure_42 _ _ _) (by simp only [boundL_cons, bound_agg, hch.bound, boundL_nil, intA, bound_v]; rfl) H⟩
/-! ### Place -/
def placeB' (t : Txt) (a b c : Int) : Bool := match lineAt t a b with | some l => decide (0 ≤ c ∧ c < l.length) | none => false
theorem lineAt_mem {t : Txt} {a b : Int} {l : Line} (h : lineAt t a b = some l) : ∃ c ∈ t, l ∈ c.2 := by
  unfold lineAt at h
  split at h
  · obtain ⟨c, h1, h2⟩ := Option.bind_eq_some_iff.1 h
    exact ⟨c, List.mem_of_getElem? h1, List.mem_of_getElem? h2⟩
  · cases h
/-! ### Before -/
set_option maxHeartbeats 2000000 in
theorem ans18 {e : Exts} (a b c a' b' c' : Int) : Ans (Cx e) 18 [.agg [intA a, intA b, intA c], .agg [intA a', intA b', intA c']] (.v (.bool (beforeB (a, b, c) (a', b', c')))) := by
  unfold Ans beforeB
  rw [fn_step (fn_18 e) (show Tryz.f18.body = some _ from rfl)]
  cases h1 : decide (a = a')
  · simp -implicitDefEqProofs only [Tryz.f18, go_sem, repeatCells, splice, chunk, bsFin, ne_eq, not_true_eq_false, not_false_eq_true, List.headD_cons, Bool.false_eq_true, Nat.le_refl, Nat.zero_mul, Nat.one_mul, Nat.mul_one, assoc_setI, assoc_keep, ↓reduceIte, Nat.reduceEqDiff, Nat.reduceLT, Nat.reduceLeDiff, Nat.reduceAdd, Nat.reduceSub, Nat.reduceMul, decide_true, decide_false, Bool.not_true, Bool.not_false, List.mem_cons, List.not_mem_nil, true_or, or_true, false_or, or_false, and_true, true_and, and_self, List.getElem?_cons_succ, List.getElem?_cons_zero, Option.bind_some, Option.map_some, Option.map_none, List.map_cons, List.map_nil, List.length_cons, List.length_nil, List.filterMap_cons, List.filterMap_nil, List.cons_append, List.nil_append, List.append_nil, Nat.zero_add, Nat.add_zero, List.take_succ_cons, List.take_zero, List.take_nil, List.drop_succ_cons, List.drop_zero, List.drop_nil, List.all_cons, List.all_nil, Bool.and_true, Bool.true_and, Bool.false_and, Bool.and_false, reduceCtorEq, beq_iff_eq, beq_self_eq_true, Int.reduceEq, Int.reduceLT, Int.reduceLE, List.zip_cons_cons, List.zip_nil_right, List.zip_nil_left, setT_nil, setT_cons, intA, h1]
    have : a ≠ a' := of_decide_eq_false h1
    rw [if_pos this]
  · have e1 : a = a' := of_decide_eq_true h1
    rw [if_neg (by simpa using e1)]
    cases h2 : decide (b = b')
    · simp -implicitDefEqProofs only [Tryz.f18, go_sem, repeatCells, splice, chunk, bsFin, ne_eq, not_true_eq_false, not_false_eq_true, List.headD_cons, Bool.false_eq_true, Nat.le_refl, Nat.zero_mul, Nat.one_mul, Nat.mul_one, assoc_setI, assoc_keep, ↓reduceIte, Nat.reduceEqDiff, Nat.reduceLT, Nat.reduceLeDiff, Nat.reduceAdd, Nat.reduceSub, Nat.reduceMul, decide_true, decide_false, Bool.not_true, Bool.not_false, List.mem_cons, List.not_mem_nil, true_or, or_true, false_or, or_false, and_true, true_and, and_self, List.getElem?_cons_succ, List.getElem?_cons_zero, Option.bind_some, Option.map_some, Option.map_none, List.map_cons, List.map_nil, List.length_cons, List.length_nil, List.filterMap_cons, List.filterMap_nil, List.cons_append, List.nil_append, List.append_nil, Nat.zero_add, Nat.add_zero, List.take_succ_cons, List.take_zero, List.take_nil, List.drop_succ_cons, List.drop_zero, List.drop_nil, List.all_cons, List.all_nil, Bool.and_true, Bool.true_and, Bool.false_and, Bool.and_false, reduceCtorEq, beq_iff_eq, beq_self_eq_true, Int.reduceEq, Int.reduceLT, Int.reduceLE, List.zip_cons_cons, List.zip_nil_right, List.zip_nil_left, setT_nil, setT_cons, intA, h1, h2]
      have : b ≠ b' := of_decide_eq_false h2
      rw [if_pos this]
    · have e2 : b = b' := of_decide_eq_true h2
      rw [if_neg (by simpa using e2)]
      simp -implicitDefEqProofs only [Tryz.f18, go_sem, repeatCells, splice, chunk, bsFin, ne_eq, not_true_eq_false, not_false_eq_true, List.headD_cons, Bool.false_eq_true, Nat.le_refl, Nat.zero_mul, Nat.one_mul, Nat.mul_one, assoc_setI, assoc_keep, ↓reduceIte, Nat.reduceEqDiff, Nat.reduceLT, Nat.reduceLeDiff, Nat.reduceAdd, Nat.reduceSub, Nat.reduceMul, decide_true, decide_false, Bool.not_true, Bool.not_false, List.mem_cons, List.not_mem_nil, true_or, or_true, false_or, or_false, and_true, true_and, and_self, List.getElem?_cons_succ, List.getElem?_cons_zero, Option.bind_some, Option.map_some, Option.map_none, List.map_cons, List.map_nil, List.length_cons, List.length_nil, List.filterMap_cons, List.filterMap_nil, List.cons_append, List.nil_append, List.append_nil, Nat.zero_add, Nat.add_zero, List.take_succ_cons, List.take_zero, List.take_nil, List.drop_succ_cons, List.drop_zero, List.drop_nil, List.all_cons, List.all_nil, Bool.and_true, Bool.true_and, Bool.false_and, Bool.and_false, reduceCtorEq, beq_iff_eq, beq_self_eq_true, Int.reduceEq, Int.reduceLT, Int.reduceLE, List.zip_cons_cons, List.zip_nil_right, List.zip_nil_left, setT_nil, setT_cons, intA, h1, h2]
end Go.Ev
