/- What the proof of this claim stands on, part 4: an evaluator of the model, proved right, and what it answers for functions of the program. -/
import Derived.Test.YtajjlolcodbikaaGreatPk02
namespace Go.Ev
open Go.Proofs
set_option maxRecDepth 100000
set_option linter.unusedSimpArgs false
/-- the n-th loop's body, in the order of the text -/
def loops : Code → List Code
  | .loop b => b :: loops b
  | .seq a b => loops a ++ loops b
  | .block _ a => loops a
  | .scope a => loops a
  | .cond _ a b => loops a ++ loops b
  | .rangeFunc _ _ _ b => loops b
  | _ => []
theorem range1 (lo hi n : Int) : withinB lo hi [n] = (decide (lo ≤ n) && decide (n ≤ hi)) := by simp [withinB]
set_option maxHeartbeats 1000000 in
theorem ans43 {e : Exts} (n lo hi : Int) : Ans (Cx e) 43 [intA n, intA lo, intA hi] (.v (.bool (withinB lo hi [n]))) := by
  unfold Ans
  rw [fn_step (fn_43 e) (show Tryz.f43.body = some _ from rfl), range1]
  by_cases h1 : lo ≤ n
  · simp -implicitDefEqProofs only [Tryz.f43, intA, go_sem, repeatCells, splice, chunk, bsFin, ne_eq, not_true_eq_false, not_false_eq_true, List.headD_cons, Bool.false_eq_true, Nat.le_refl, Nat.zero_mul, Nat.one_mul, Nat.mul_one, assoc_setI, assoc_keep, ↓reduceIte, Nat.reduceEqDiff, Nat.reduceLT, Nat.reduceLeDiff, Nat.reduceAdd, Nat.reduceSub, Nat.reduceMul, decide_true, decide_false, Bool.not_true, Bool.not_false, List.mem_cons, List.not_mem_nil, true_or, or_true, false_or, or_false, and_true, true_and, and_self, List.getElem?_cons_succ, List.getElem?_cons_zero, Option.bind_some, Option.map_some, Option.map_none, List.map_cons, List.map_nil, List.length_cons, List.length_nil, List.filterMap_cons, List.filterMap_nil, List.cons_append, List.nil_append, List.append_nil, Nat.zero_add, Nat.add_zero, List.take_succ_cons, List.take_zero, List.take_nil, List.drop_succ_cons, List.drop_zero, List.drop_nil, List.all_cons, List.all_nil, Bool.and_true, Bool.true_and, Bool.false_and, Bool.and_false, reduceCtorEq, beq_iff_eq, beq_self_eq_true, h1]
  · simp -implicitDefEqProofs only [Tryz.f43, intA, go_sem, repeatCells, splice, chunk, bsFin, ne_eq, not_true_eq_false, not_false_eq_true, List.headD_cons, Bool.false_eq_true, Nat.le_refl, Nat.zero_mul, Nat.one_mul, Nat.mul_one, assoc_setI, assoc_keep, ↓reduceIte, Nat.reduceEqDiff, Nat.reduceLT, Nat.reduceLeDiff, Nat.reduceAdd, Nat.reduceSub, Nat.reduceMul, decide_true, decide_false, Bool.not_true, Bool.not_false, List.mem_cons, List.not_mem_nil, true_or, or_true, false_or, or_false, and_true, true_and, and_self, List.getElem?_cons_succ, List.getElem?_cons_zero, Option.bind_some, Option.map_some, Option.map_none, List.map_cons, List.map_nil, List.length_cons, List.length_nil, List.filterMap_cons, List.filterMap_nil, List.cons_append, List.nil_append, List.append_nil, Nat.zero_add, Nat.add_zero, List.take_succ_cons, List.take_zero, List.take_nil, List.drop_succ_cons, List.drop_zero, List.drop_nil, List.all_cons, List.all_nil, Bool.and_true, Bool.true_and, Bool.false_and, Bool.and_false, reduceCtorEq, beq_iff_eq, beq_self_eq_true, h1, Bool.false_and]
theorem call43 {e : Exts} (he : Quiet e) (n lo hi : Int) (me : FuncId) (d : Option Tmp) (H : Heap) : callA (Cx e) (lim (Cx e)) me 43 d [.v (.int .i64 n), .v (.int .i64 lo), .v (.int .i64 hi)] H = some (.v (.bool (withinB lo hi [n])), H) :=
  (ans43 n lo hi).call (ext_43 he) (pure_43 _ _ _) rfl H
theorem callI43 {e : Exts} (he : Quiet e) (n lo hi : Int) (me : FuncId) (d : Option Tmp) : callI (Cx e) me 43 d [.v (.int .i64 n), .v (.int .i64 lo), .v (.int .i64 hi)] = some (.v (.bool (withinB lo hi [n]))) :=
  (ans43 n lo hi).callI (ext_43 he) (pure_43 _ _ _) rfl
noncomputable def body61 : Code := ((Tryz.f61.body.map loops).getD [])[0]?.getD .skip
set_option maxHeartbeats 1000000 in
theorem loop61 {e : Exts} (s : ByteArray) (hn : s.size < 2 ^ 63) (H : Heap) (K : Post) :
    ∀ m j : Nat, j + m = s.size → (lettersB s j = true → AtK K (.exit 0) ⟨23, [(0, .v (.string s)), (2, .v (.bool false)), (3, intA s.size)], []⟩ H) → (lettersB s j = false → ∀ l, assoc 2 l = some (.v (.bool false)) → AtK K .ret ⟨23, l, []⟩ H) →
    Lp (Cx e) 61 none [0, 2, 3] body61 ⟨23, [(0, .v (.string s)), (2, .v (.bool false)), (3, intA j)], []⟩ H K := by
  intro m
  induction m with
  | zero =>
    intro j hj h1 h2
    rw [Lp_step]
    generalize hK : loopK (Cx e) 61 none [0, 2, 3] body61 H.size K = KK
    unfold body61
    obtain rfl : j = s.size := by omega
    simp -implicitDefEqProofs only [Tryz.f61, loops, Option.map_some, Option.getD_some, intA, go_sem, repeatCells, splice, chunk, bsFin, ne_eq, not_true_eq_false, not_false_eq_true, List.headD_cons, Bool.false_eq_true, Nat.le_refl, Nat.zero_mul, Nat.one_mul, Nat.mul_one, assoc_setI, assoc_keep, ↓reduceIte, Nat.reduceEqDiff, Nat.reduceLT, Nat.reduceLeDiff, Nat.reduceAdd, Nat.reduceSub, Nat.reduceMul, decide_true, decide_false, Bool.not_true, Bool.not_false, List.mem_cons, List.not_mem_nil, true_or, or_true, false_or, or_false, and_true, true_and, and_self, List.getElem?_cons_succ, List.getElem?_cons_zero, Option.bind_some, Option.map_some, Option.map_none, List.map_cons, List.map_nil, List.length_cons, List.length_nil, List.filterMap_cons, List.filterMap_nil, List.cons_append, List.nil_append, List.append_nil, Nat.zero_add, Nat.add_zero, List.take_succ_cons, List.take_zero, List.take_nil, List.drop_succ_cons, List.drop_zero, List.drop_nil, List.all_cons, List.all_nil, Bool.and_true, Bool.true_and, Bool.false_and, Bool.and_false, reduceCtorEq, beq_iff_eq, beq_self_eq_true, Int.lt_irrefl]
    subst hK
    simp -implicitDefEqProofs only [go_sem, repeatCells, splice, chunk, bsFin, ne_eq, not_true_eq_false, not_false_eq_true, List.headD_cons, Bool.false_eq_true, Nat.le_refl, Nat.zero_mul, Nat.one_mul, Nat.mul_one, assoc_setI, assoc_keep, ↓reduceIte, Nat.reduceEqDiff, Nat.reduceLT, Nat.reduceLeDiff, Nat.reduceAdd, Nat.reduceSub, Nat.reduceMul, decide_true, decide_false, Bool.not_true, Bool.not_false, List.mem_cons, List.not_mem_nil, true_or, or_true, false_or, or_false, and_true, true_and, and_self, List.getElem?_cons_succ, List.getElem?_cons_zero, Option.bind_some, Option.map_some, Option.map_none, List.map_cons, List.map_nil, List.length_cons, List.length_nil, List.filterMap_cons, List.filterMap_nil, List.cons_append, List.nil_append, List.append_nil, Nat.zero_add, Nat.add_zero, List.take_succ_cons, List.take_zero, List.take_nil, List.drop_succ_cons, List.drop_zero, List.drop_nil, List.all_cons, List.all_nil, Bool.and_true, Bool.true_and, Bool.false_and, Bool.and_false, reduceCtorEq, beq_iff_eq, beq_self_eq_true]
    exact h1 (by unfold lettersB; rw [List.drop_of_length_le (by simp)]; rfl)
  | succ m ih =>
    intro j hj h1 h2
    rw [Lp_step]
    generalize hK : loopK (Cx e) 61 none [0, 2, 3] body61 H.size K = KK
    unfold body61
    have hlt : (j : Int) < (s.size : Int) := by omega
    have hy := strAt_lt s j (by omega)
    have hjl : j < s.data.toList.length := by simp; omega
    have hw := wrap_succ j (by omega)
    have hj0 : (0 : Int) ≤ (j : Int) := by omega
    generalize hc : s.data.toList[j] = c at hy
    have hd : lettersB s j = (letter c && lettersB s (j + 1)) := by
      unfold lettersB
      rw [List.drop_eq_getElem_cons (by simp; omega), ← hc]; rfl
    simp only [Tryz.f61, loops, Option.map_some, Option.getD_some, List.nil_append, List.append_nil, List.cons_append, List.getElem?_cons_zero]
    by_cases c1 : (c.toNat : Int) < 97
    · simp -implicitDefEqProofs only [go_sem, repeatCells, splice, chunk, bsFin, ne_eq, not_true_eq_false, not_false_eq_true, List.headD_cons, Bool.false_eq_true, Nat.le_refl, Nat.zero_mul, Nat.one_mul, Nat.mul_one, assoc_setI, assoc_keep, ↓reduceIte, Nat.reduceEqDiff, Nat.reduceLT, Nat.reduceLeDiff, Nat.reduceAdd, Nat.reduceSub, Nat.reduceMul, decide_true, decide_false, Bool.not_true, Bool.not_false, List.mem_cons, List.not_mem_nil, true_or, or_true, false_or, or_false, and_true, true_and, and_self, List.getElem?_cons_succ, List.getElem?_cons_zero, Option.bind_some, Option.map_some, Option.map_none, List.map_cons, List.map_nil, List.length_cons, List.length_nil, List.filterMap_cons, List.filterMap_nil, List.cons_append, List.nil_append, List.append_nil, Nat.zero_add, Nat.add_zero, List.take_succ_cons, List.take_zero, List.take_nil, List.drop_succ_cons, List.drop_zero, List.drop_nil, List.all_cons, List.all_nil, Bool.and_true, Bool.true_and, Bool.false_and, Bool.and_false, reduceCtorEq, beq_iff_eq, beq_self_eq_true, intA, hlt, hw, hy, c1, hj0, Int.toNat_natCast]
      subst hK
      simp -implicitDefEqProofs only [go_sem, repeatCells, splice, chunk, bsFin, ne_eq, not_true_eq_false, not_false_eq_true, List.headD_cons, Bool.false_eq_true, Nat.le_refl, Nat.zero_mul, Nat.one_mul, Nat.mul_one, assoc_setI, assoc_keep, ↓reduceIte, Nat.reduceEqDiff, Nat.reduceLT, Nat.reduceLeDiff, Nat.reduceAdd, Nat.reduceSub, Nat.reduceMul, decide_true, decide_false, Bool.not_true, Bool.not_false, List.mem_cons, List.not_mem_nil, true_or, or_true, false_or, or_false, and_true, true_and, and_self, List.getElem?_cons_succ, List.getElem?_cons_zero, Option.bind_some, Option.map_some, Option.map_none, List.map_cons, List.map_nil, List.length_cons, List.length_nil, List.filterMap_cons, List.filterMap_nil, List.cons_append, List.nil_append, List.append_nil, Nat.zero_add, Nat.add_zero, List.take_succ_cons, List.take_zero, List.take_nil, List.drop_succ_cons, List.drop_zero, List.drop_nil, List.all_cons, List.all_nil, Bool.and_true, Bool.true_and, Bool.false_and, Bool.and_false, reduceCtorEq, beq_iff_eq, beq_self_eq_true]
      exact h2 (by rw [hd]; simp [letter]; omega) _ rfl
    · by_cases c2 : 122 < (c.toNat : Int)
      · simp -implicitDefEqProofs only [go_sem, repeatCells, splice, chunk, bsFin, ne_eq, not_true_eq_false, not_false_eq_true, List.headD_cons, Bool.false_eq_true, Nat.le_refl, Nat.zero_mul, Nat.one_mul, Nat.mul_one, assoc_setI, assoc_keep, ↓reduceIte, Nat.reduceEqDiff, Nat.reduceLT, Nat.reduceLeDiff, Nat.reduceAdd, Nat.reduceSub, Nat.reduceMul, decide_true, decide_false, Bool.not_true, Bool.not_false, List.mem_cons, List.not_mem_nil, true_or, or_true, false_or, or_false, and_true, true_and, and_self, List.getElem?_cons_succ, List.getElem?_cons_zero, Option.bind_some, Option.map_some, Option.map_none, List.map_cons, List.map_nil, List.length_cons, List.length_nil, List.filterMap_cons, List.filterMap_nil, List.cons_append, List.nil_append, List.append_nil, Nat.zero_add, Nat.add_zero, List.take_succ_cons, List.take_zero, List.take_nil, List.drop_succ_cons, List.drop_zero, List.drop_nil, List.all_cons, List.all_nil, Bool.and_true, Bool.true_and, Bool.false_and, Bool.and_false, reduceCtorEq, beq_iff_eq, beq_self_eq_true, intA, hlt, hw, hy, c1, c2, hj0, Int.toNat_natCast]
        subst hK
        simp -implicitDefEqProofs only [go_sem, repeatCells, splice, chunk, bsFin, ne_eq, not_true_eq_false, not_false_eq_true, List.headD_cons, Bool.false_eq_true, Nat.le_refl, Nat.zero_mul, Nat.one_mul, Nat.mul_one, assoc_setI, assoc_keep, ↓reduceIte, Nat.reduceEqDiff, Nat.reduceLT, Nat.reduceLeDiff, Nat.reduceAdd, Nat.reduceSub, Nat.reduceMul, decide_true, decide_false, Bool.not_true, Bool.not_false, List.mem_cons, List.not_mem_nil, true_or, or_true, false_or, or_false, and_true, true_and, and_self, List.getElem?_cons_succ, List.getElem?_cons_zero, Option.bind_some, Option.map_some, Option.map_none, List.map_cons, List.map_nil, List.length_cons, List.length_nil, List.filterMap_cons, List.filterMap_nil, List.cons_append, List.nil_append, List.append_nil, Nat.zero_add, Nat.add_zero, List.take_succ_cons, List.take_zero, List.take_nil, List.drop_succ_cons, List.drop_zero, List.drop_nil, List.all_cons, List.all_nil, Bool.and_true, Bool.true_and, Bool.false_and, Bool.and_false, reduceCtorEq, beq_iff_eq, beq_self_eq_true]
        exact h2 (by rw [hd]; simp [letter]; omega) _ rfl
      · simp -implicitDefEqProofs only [go_sem, repeatCells, splice, chunk, bsFin, ne_eq, not_true_eq_false, not_false_eq_true, List.headD_cons, Bool.false_eq_true, Nat.le_refl, Nat.zero_mul, Nat.one_mul, Nat.mul_one, assoc_setI, assoc_keep, ↓reduceIte, Nat.reduceEqDiff, Nat.reduceLT, Nat.reduceLeDiff, Nat.reduceAdd, Nat.reduceSub, Nat.reduceMul, decide_true, decide_false, Bool.not_true, Bool.not_false, List.mem_cons, List.not_mem_nil, true_or, or_true, false_or, or_false, and_true, true_and, and_self, List.getElem?_cons_succ, List.getElem?_cons_zero, Option.bind_some, Option.map_some, Option.map_none, List.map_cons, List.map_nil, List.length_cons, List.length_nil, List.filterMap_cons, List.filterMap_nil, List.cons_append, List.nil_append, List.append_nil, Nat.zero_add, Nat.add_zero, List.take_succ_cons, List.take_zero, List.take_nil, List.drop_succ_cons, List.drop_zero, List.drop_nil, List.all_cons, List.all_nil, Bool.and_true, Bool.true_and, Bool.false_and, Bool.and_false, reduceCtorEq, beq_iff_eq, beq_self_eq_true, intA, hlt, hw, hy, c1, c2, hj0, Int.toNat_natCast]
        subst hK
        simp -implicitDefEqProofs only [go_sem, repeatCells, splice, chunk, bsFin, ne_eq, not_true_eq_false, not_false_eq_true, List.headD_cons, Bool.false_eq_true, Nat.le_refl, Nat.zero_mul, Nat.one_mul, Nat.mul_one, assoc_setI, assoc_keep, ↓reduceIte, Nat.reduceEqDiff, Nat.reduceLT, Nat.reduceLeDiff, Nat.reduceAdd, Nat.reduceSub, Nat.reduceMul, decide_true, decide_false, Bool.not_true, Bool.not_false, List.mem_cons, List.not_mem_nil, true_or, or_true, false_or, or_false, and_true, true_and, and_self, List.getElem?_cons_succ, List.getElem?_cons_zero, Option.bind_some, Option.map_some, Option.map_none, List.map_cons, List.map_nil, List.length_cons, List.length_nil, List.filterMap_cons, List.filterMap_nil, List.cons_append, List.nil_append, List.append_nil, Nat.zero_add, Nat.add_zero, List.take_succ_cons, List.take_zero, List.take_nil, List.drop_succ_cons, List.drop_zero, List.drop_nil, List.all_cons, List.all_nil, Bool.and_true, Bool.true_and, Bool.false_and, Bool.and_false, reduceCtorEq, beq_iff_eq, beq_self_eq_true]
        have hd' : lettersB s j = lettersB s (j + 1) := by rw [hd]; simp [letter]; omega
        rw [hd'] at h1 h2
        exact ih (j + 1) (by omega) h1 h2
theorem ans61 {e : Exts} (he : Quiet e) (s : ByteArray) (hn : s.size < 2 ^ 63) : Ans (Cx e) 61 [.v (.string s)] (.v (.bool (wordB s))) := by
  unfold Ans
  rw [fn_step (fn_61 e) (show Tryz.f61.body = some _ from rfl)]
  simp -implicitDefEqProofs only [Tryz.f61, intA, go_sem, repeatCells, splice, chunk, bsFin, ne_eq, not_true_eq_false, not_false_eq_true, List.headD_cons, Bool.false_eq_true, Nat.le_refl, Nat.zero_mul, Nat.one_mul, Nat.mul_one, assoc_setI, assoc_keep, ↓reduceIte, Nat.reduceEqDiff, Nat.reduceLT, Nat.reduceLeDiff, Nat.reduceAdd, Nat.reduceSub, Nat.reduceMul, decide_true, decide_false, Bool.not_true, Bool.not_false, List.mem_cons, List.not_mem_nil, true_or, or_true, false_or, or_false, and_true, true_and, and_self, List.getElem?_cons_succ, List.getElem?_cons_zero, Option.bind_some, Option.map_some, Option.map_none, List.map_cons, List.map_nil, List.length_cons, List.length_nil, List.filterMap_cons, List.filterMap_nil, List.cons_append, List.nil_append, List.append_nil, Nat.zero_add, Nat.add_zero, List.take_succ_cons, List.take_zero, List.take_nil, List.drop_succ_cons, List.drop_zero, List.drop_nil, List.all_cons, List.all_nil, Bool.and_true, Bool.true_and, Bool.false_and, Bool.and_false, reduceCtorEq, beq_iff_eq, beq_self_eq_true]
  refine loop61 s hn _ _ s.size 0 (by omega) ?_ ?_
  · intro h
    simp -implicitDefEqProofs only [intA, go_sem, repeatCells, splice, chunk, bsFin, ne_eq, not_true_eq_false, not_false_eq_true, List.headD_cons, Bool.false_eq_true, Nat.le_refl, Nat.zero_mul, Nat.one_mul, Nat.mul_one, assoc_setI, assoc_keep, ↓reduceIte, Nat.reduceEqDiff, Nat.reduceLT, Nat.reduceLeDiff, Nat.reduceAdd, Nat.reduceSub, Nat.reduceMul, decide_true, decide_false, Bool.not_true, Bool.not_false, List.mem_cons, List.not_mem_nil, true_or, or_true, false_or, or_false, and_true, true_and, and_self, List.getElem?_cons_succ, List.getElem?_cons_zero, Option.bind_some, Option.map_some, Option.map_none, List.map_cons, List.map_nil, List.length_cons, List.length_nil, List.filterMap_cons, List.filterMap_nil, List.cons_append, List.nil_append, List.append_nil, Nat.zero_add, Nat.add_zero, List.take_succ_cons, List.take_zero, List.take_nil, List.drop_succ_cons, List.drop_zero, List.drop_nil, List.all_cons, List.all_nil, Bool.and_true, Bool.true_and, Bool.false_and, Bool.and_false, reduceCtorEq, beq_iff_eq, beq_self_eq_true, call43 he]
    unfold wordB; rw [h, Bool.and_true]
  · intro h l hl
    simp -implicitDefEqProofs only [go_sem, repeatCells, splice, chunk, bsFin, ne_eq, not_true_eq_false, not_false_eq_true, List.headD_cons, Bool.false_eq_true, Nat.le_refl, Nat.zero_mul, Nat.one_mul, Nat.mul_one, assoc_setI, assoc_keep, ↓reduceIte, Nat.reduceEqDiff, Nat.reduceLT, Nat.reduceLeDiff, Nat.reduceAdd, Nat.reduceSub, Nat.reduceMul, decide_true, decide_false, Bool.not_true, Bool.not_false, List.mem_cons, List.not_mem_nil, true_or, or_true, false_or, or_false, and_true, true_and, and_self, List.getElem?_cons_succ, List.getElem?_cons_zero, Option.bind_some, Option.map_some, Option.map_none, List.map_cons, List.map_nil, List.length_cons, List.length_nil, List.filterMap_cons, List.filterMap_nil, List.cons_append, List.nil_append, List.append_nil, Nat.zero_add, Nat.add_zero, List.take_succ_cons, List.take_zero, List.take_nil, List.drop_succ_cons, List.drop_zero, List.drop_nil, List.all_cons, List.all_nil, Bool.and_true, Bool.true_and, Bool.false_and, Bool.and_false, reduceCtorEq, beq_iff_eq, beq_self_eq_true, hl]
    unfold wordB; rw [h, Bool.and_false]
theorem call61 {e : Exts} (he : Quiet e) (s : ByteArray) (hn : s.size < 2 ^ 63) (me : FuncId) (d : Option Tmp) (H : Heap) : callA (Cx e) (lim (Cx e)) me 61 d [.v (.string s)] H = some (.v (.bool (wordB s)), H) :=
  (ans61 he s hn).call (ext_61 he) (pure_61 _ _ _) rfl H
end Go.Ev
namespace Go.Ev
open Go.Proofs
set_option maxRecDepth 100000
set_option linter.unusedSimpArgs false
/-! ### texts -/
def All2 {α β : Type} (R : α → β → Prop) (l : List α) (m : List β) : Prop := l.length = m.length ∧ ∀ (i : Nat) a b, l[i]? = some a → m[i]? = some b → R a b
theorem All2.get {α β : Type} {R : α → β → Prop} {l : List α} {m : List β} (h : All2 R l m) {i : Nat} {a : α} (ha : l[i]? = some a) : ∃ b, m[i]? = some b ∧ R a b := by
  have hi := (List.getElem?_eq_some_iff.1 ha).1
  exact ⟨m[i]'(h.1 ▸ hi), List.getElem?_eq_getElem _, h.2 i a _ ha (List.getElem?_eq_getElem _)⟩
def strs (ws : List ByteArray) : List AV := ws.map fun s => .v (.string s)
abbrev Line := List ByteArray
abbrev Chap := Int × List Line
abbrev Txt := List Chap
def LineA (ws : Line) (x : AV) : Prop := SlOf 1 (strs ws) x
def LinesA (ls : List Line) (x : AV) : Prop := ∃ xs, SlOf 1 xs x ∧ All2 LineA ls xs
def ChapA (c : Chap) (y : AV) : Prop := ∃ l, y = .agg [intA c.1, l] ∧ LinesA c.2 l
def ChsA (t : Txt) (x : AV) : Prop := ∃ xs, SlOf 2 xs x ∧ All2 ChapA t xs
def TextA (t : Txt) (x : AV) : Prop := ∃ ch, x = .agg [ch] ∧ ChsA t ch
/-- no greater than memory -/
structure Fits (t : Txt) : Prop where
  chs : t.length < 2 ^ 63
  lines : ∀ c ∈ t, c.2.length < 2 ^ 63
  words : ∀ c ∈ t, ∀ l ∈ c.2, l.length < 2 ^ 63
  size : ∀ c ∈ t, ∀ l ∈ c.2, ∀ s ∈ l, s.size < 2 ^ 63
theorem strs_get {ws : Line} {i : Nat} {s : ByteArray} (h : ws[i]? = some s) : (strs ws)[i]? = some (.v (.string s)) := by
  unfold strs; rw [List.getElem?_map, h]; rfl
theorem strs_len (ws : Line) : (strs ws).length = ws.length := by simp [strs]

def greatL (l : Line) : Bool := decide (l.length > 15) || l.any fun s => decide (s.size > 40)
def greatC (c : Chap) : Bool := decide (c.2.length > 15) || c.2.any greatL
def greatT (t : Txt) : Bool := decide (t.length > 10) || t.any greatC
noncomputable def body38 (n : Nat) : Code := ((Tryz.f38.body.map loops).getD [])[n]?.getD .skip
end Go.Ev
namespace Go.Ev
open Go.Proofs
set_option maxRecDepth 100000
set_option linter.unusedSimpArgs false
def wsG (ws : Line) (j : Nat) : Bool := (ws.drop j).any fun s => decide (s.size > 40)
theorem drop_any {α : Type} (p : α → Bool) (l : List α) (j : Nat) (x : α) (h : l[j]? = some x) : (l.drop j).any p = (p x || (l.drop (j + 1)).any p) := by
  obtain ⟨hj, rfl⟩ := List.getElem?_eq_some_iff.1 h
  rw [List.drop_eq_getElem_cons hj, List.any_cons]
theorem drop_all {α : Type} (p : α → Bool) (l : List α) (j : Nat) (x : α) (h : l[j]? = some x) : (l.drop j).all p = (p x && (l.drop (j + 1)).all p) := by
  obtain ⟨hj, rfl⟩ := List.getElem?_eq_some_iff.1 h
  rw [List.drop_eq_getElem_cons hj, List.all_cons]
theorem at_lt {α : Type} (l : List α) (j : Nat) (h : j < l.length) : ∃ x, l[j]? = some x := ⟨l[j], List.getElem?_eq_getElem h⟩
set_option maxHeartbeats 4000000 in
theorem loop38c {e : Exts} (xs lxs : List AV) (ch : AV) (hch : SlOf 2 xs ch) (i k : Nat) (id : Int) (l lx : AV) (hy : xs[i]? = some (.agg [intA id, l])) (hl : SlOf 1 lxs l) (hk : lxs[k]? = some lx) (ws : Line) (hlx : SlOf 1 (strs ws) lx) (hn : ws.length < 2 ^ 63) (K : Post) :
    ∀ m j : Nat, j + m = ws.length → (wsG ws j = false → AtK K (.exit 4) ⟨75, [(0, .agg [ch]), (1, .ptr 0 0 0), (2, .v (.bool false)), (9, .v (.bool false)), (3, intA i), (14, .v (.bool true)), (24, .v (.bool false)), (4, intA k), (33, .v (.bool true)), (46, .v (.bool false)), (5, intA (ws.length : Nat))], []⟩ ⟨[some (.cells 0 0 24 1 false [ch])], 0⟩) → (wsG ws j = true → ∀ tl HH, assoc 2 tl = some (.v (.bool true)) → AtK K .ret ⟨75, tl, []⟩ HH) →
    Lp (Cx e) 38 none [0, 1, 2, 9, 3, 14, 24, 4, 33, 46, 5] (body38 2) ⟨75, [(0, .agg [ch]), (1, .ptr 0 0 0), (2, .v (.bool false)), (9, .v (.bool false)), (3, intA i), (14, .v (.bool true)), (24, .v (.bool false)), (4, intA k), (33, .v (.bool true)), (46, .v (.bool false)), (5, intA j)], []⟩ ⟨[some (.cells 0 0 24 1 false [ch])], 0⟩ K := by
  intro m
  induction m with
  | zero =>
    intro j hj h1 h2
    rw [Lp_step]
    generalize hK : loopK (Cx e) 38 none [0, 1, 2, 9, 3, 14, 24, 4, 33, 46, 5] (body38 2) _ K = KK
    unfold body38
    obtain rfl : j = ws.length := by omega
    simp only [Tryz.f38, loops, Option.map_some, Option.getD_some, List.nil_append, List.append_nil, List.cons_append, List.getElem?_cons_zero, List.getElem?_cons_succ]
    simp -implicitDefEqProofs only [go_sem, repeatCells, splice, chunk, bsFin, ne_eq, not_true_eq_false, not_false_eq_true, List.headD_cons, Bool.false_eq_true, Nat.le_refl, Nat.zero_mul, Nat.one_mul, Nat.mul_one, assoc_setI, assoc_keep, ↓reduceIte, Nat.reduceEqDiff, Nat.reduceLT, Nat.reduceLeDiff, Nat.reduceAdd, Nat.reduceSub, Nat.reduceMul, decide_true, decide_false, Bool.not_true, Bool.not_false, List.mem_cons, List.not_mem_nil, true_or, or_true, false_or, or_false, and_true, true_and, and_self, List.getElem?_cons_succ, List.getElem?_cons_zero, Option.bind_some, Option.map_some, Option.map_none, List.map_cons, List.map_nil, List.length_cons, List.length_nil, List.filterMap_cons, List.filterMap_nil, List.cons_append, List.nil_append, List.append_nil, Nat.zero_add, Nat.add_zero, List.take_succ_cons, List.take_zero, List.take_nil, List.drop_succ_cons, List.drop_zero, List.drop_nil, List.all_cons, List.all_nil, Bool.and_true, Bool.true_and, Bool.false_and, Bool.and_false, reduceCtorEq, beq_iff_eq, beq_self_eq_true, intA, Int.lt_irrefl, hch.len, hch.idx hy, hl.len, hl.idx hk, hlx.len, hlx.cells, strs_len]
    subst hK
    simp -implicitDefEqProofs only [go_sem, repeatCells, splice, chunk, bsFin, ne_eq, not_true_eq_false, not_false_eq_true, List.headD_cons, Bool.false_eq_true, Nat.le_refl, Nat.zero_mul, Nat.one_mul, Nat.mul_one, assoc_setI, assoc_keep, ↓reduceIte, Nat.reduceEqDiff, Nat.reduceLT, Nat.reduceLeDiff, Nat.reduceAdd, Nat.reduceSub, Nat.reduceMul, decide_true, decide_false, Bool.not_true, Bool.not_false, List.mem_cons, List.not_mem_nil, true_or, or_true, false_or, or_false, and_true, true_and, and_self, List.getElem?_cons_succ, List.getElem?_cons_zero, Option.bind_some, Option.map_some, Option.map_none, List.map_cons, List.map_nil, List.length_cons, List.length_nil, List.filterMap_cons, List.filterMap_nil, List.cons_append, List.nil_append, List.append_nil, Nat.zero_add, Nat.add_zero, List.take_succ_cons, List.take_zero, List.take_nil, List.drop_succ_cons, List.drop_zero, List.drop_nil, List.all_cons, List.all_nil, Bool.and_true, Bool.true_and, Bool.false_and, Bool.and_false, reduceCtorEq, beq_iff_eq, beq_self_eq_true]
    exact h1 (by simp [wsG])
  | succ m ih =>
    intro j hj h1 h2
    rw [Lp_step]
    generalize hK : loopK (Cx e) 38 none [0, 1, 2, 9, 3, 14, 24, 4, 33, 46, 5] (body38 2) _ K = KK
    unfold body38
    have hlt : (j : Int) < ((ws.length : Nat) : Int) := by omega
    have hw := wrap_succ j (by omega)
    have hj0 : (0 : Int) ≤ (j : Int) := by omega
    simp only [Tryz.f38, loops, Option.map_some, Option.getD_some, List.nil_append, List.append_nil, List.cons_append, List.getElem?_cons_zero, List.getElem?_cons_succ]
    obtain ⟨s, hs⟩ := at_lt ws j (by omega)
    have hd : wsG ws j = (decide (s.size > 40) || wsG ws (j + 1)) := drop_any _ ws j s hs
    by_cases c1 : 40 < (s.size : Int)
    · simp -implicitDefEqProofs only [go_sem, repeatCells, splice, chunk, bsFin, ne_eq, not_true_eq_false, not_false_eq_true, List.headD_cons, Bool.false_eq_true, Nat.le_refl, Nat.zero_mul, Nat.one_mul, Nat.mul_one, assoc_setI, assoc_keep, ↓reduceIte, Nat.reduceEqDiff, Nat.reduceLT, Nat.reduceLeDiff, Nat.reduceAdd, Nat.reduceSub, Nat.reduceMul, decide_true, decide_false, Bool.not_true, Bool.not_false, List.mem_cons, List.not_mem_nil, true_or, or_true, false_or, or_false, and_true, true_and, and_self, List.getElem?_cons_succ, List.getElem?_cons_zero, Option.bind_some, Option.map_some, Option.map_none, List.map_cons, List.map_nil, List.length_cons, List.length_nil, List.filterMap_cons, List.filterMap_nil, List.cons_append, List.nil_append, List.append_nil, Nat.zero_add, Nat.add_zero, List.take_succ_cons, List.take_zero, List.take_nil, List.drop_succ_cons, List.drop_zero, List.drop_nil, List.all_cons, List.all_nil, Bool.and_true, Bool.true_and, Bool.false_and, Bool.and_false, reduceCtorEq, beq_iff_eq, beq_self_eq_true, intA, hlt, hw, hch.len, hch.idx hy, hl.len, hl.idx hk, hlx.len, hlx.cells, strs_len, hlx.idx (strs_get hs), c1]
      subst hK
      simp -implicitDefEqProofs only [go_sem, repeatCells, splice, chunk, bsFin, ne_eq, not_true_eq_false, not_false_eq_true, List.headD_cons, Bool.false_eq_true, Nat.le_refl, Nat.zero_mul, Nat.one_mul, Nat.mul_one, assoc_setI, assoc_keep, ↓reduceIte, Nat.reduceEqDiff, Nat.reduceLT, Nat.reduceLeDiff, Nat.reduceAdd, Nat.reduceSub, Nat.reduceMul, decide_true, decide_false, Bool.not_true, Bool.not_false, List.mem_cons, List.not_mem_nil, true_or, or_true, false_or, or_false, and_true, true_and, and_self, List.getElem?_cons_succ, List.getElem?_cons_zero, Option.bind_some, Option.map_some, Option.map_none, List.map_cons, List.map_nil, List.length_cons, List.length_nil, List.filterMap_cons, List.filterMap_nil, List.cons_append, List.nil_append, List.append_nil, Nat.zero_add, Nat.add_zero, List.take_succ_cons, List.take_zero, List.take_nil, List.drop_succ_cons, List.drop_zero, List.drop_nil, List.all_cons, List.all_nil, Bool.and_true, Bool.true_and, Bool.false_and, Bool.and_false, reduceCtorEq, beq_iff_eq, beq_self_eq_true]
      exact h2 (by rw [hd]; simp; left; omega) _ _ rfl
    · simp -implicitDefEqProofs only [go_sem, repeatCells, splice, chunk, bsFin, ne_eq, not_true_eq_false, not_false_eq_true, List.headD_cons, Bool.false_eq_true, Nat.le_refl, Nat.zero_mul, Nat.one_mul, Nat.mul_one, assoc_setI, assoc_keep, ↓reduceIte, Nat.reduceEqDiff, Nat.reduceLT, Nat.reduceLeDiff, Nat.reduceAdd, Nat.reduceSub, Nat.reduceMul, decide_true, decide_false, Bool.not_true, Bool.not_false, List.mem_cons, List.not_mem_nil, true_or, or_true, false_or, or_false, and_true, true_and, and_self, List.getElem?_cons_succ, List.getElem?_cons_zero, Option.bind_some, Option.map_some, Option.map_none, List.map_cons, List.map_nil, List.length_cons, List.length_nil, List.filterMap_cons, List.filterMap_nil, List.cons_append, List.nil_append, List.append_nil, Nat.zero_add, Nat.add_zero, List.take_succ_cons, List.take_zero, List.take_nil, List.drop_succ_cons, List.drop_zero, List.drop_nil, List.all_cons, List.all_nil, Bool.and_true, Bool.true_and, Bool.false_and, Bool.and_false, reduceCtorEq, beq_iff_eq, beq_self_eq_true, intA, hlt, hw, hch.len, hch.idx hy, hl.len, hl.idx hk, hlx.len, hlx.cells, strs_len, hlx.idx (strs_get hs), c1]
      subst hK
      simp -implicitDefEqProofs only [go_sem, repeatCells, splice, chunk, bsFin, ne_eq, not_true_eq_false, not_false_eq_true, List.headD_cons, Bool.false_eq_true, Nat.le_refl, Nat.zero_mul, Nat.one_mul, Nat.mul_one, assoc_setI, assoc_keep, ↓reduceIte, Nat.reduceEqDiff, Nat.reduceLT, Nat.reduceLeDiff, Nat.reduceAdd, Nat.reduceSub, Nat.reduceMul, decide_true, decide_false, Bool.not_true, Bool.not_false, List.mem_cons, List.not_mem_nil, true_or, or_true, false_or, or_false, and_true, true_and, and_self, List.getElem?_cons_succ, List.getElem?_cons_zero, Option.bind_some, Option.map_some, Option.map_none, List.map_cons, List.map_nil, List.length_cons, List.length_nil, List.filterMap_cons, List.filterMap_nil, List.cons_append, List.nil_append, List.append_nil, Nat.zero_add, Nat.add_zero, List.take_succ_cons, List.take_zero, List.take_nil, List.drop_succ_cons, List.drop_zero, List.drop_nil, List.all_cons, List.all_nil, Bool.and_true, Bool.true_and, Bool.false_and, Bool.and_false, reduceCtorEq, beq_iff_eq, beq_self_eq_true]
      have hd' : wsG ws j = wsG ws (j + 1) := by rw [hd]; simp; omega
      rw [hd'] at h1 h2
      exact ih (j + 1) (by omega) h1 h2

def lnG (ls : List Line) (j : Nat) : Bool := (ls.drop j).any greatL
def chG (t : Txt) (j : Nat) : Bool := (t.drop j).any greatC
theorem greatL_eq (ws : Line) : greatL ws = (decide (ws.length > 15) || wsG ws 0) := rfl
set_option maxHeartbeats 4000000 in
theorem loop38b {e : Exts} (xs lxs : List AV) (ch : AV) (hch : SlOf 2 xs ch) (i : Nat) (id : Int) (l : AV) (hy : xs[i]? = some (.agg [intA id, l])) (hl : SlOf 1 lxs l) (ls : List Line) (hls : All2 LineA ls lxs) (hn : ls.length < 2 ^ 63) (hz : ∀ s ∈ ls, s.length < 2 ^ 63) (K : Post) :
    ∀ m j : Nat, j + m = ls.length → (lnG ls j = false → AtK K (.exit 2) ⟨75, [(0, .agg [ch]), (1, .ptr 0 0 0), (2, .v (.bool false)), (9, .v (.bool false)), (3, intA i), (14, .v (.bool true)), (24, .v (.bool false)), (4, intA (ls.length : Nat))], []⟩ ⟨[some (.cells 0 0 24 1 false [ch])], 0⟩) → (lnG ls j = true → ∀ tl HH, assoc 2 tl = some (.v (.bool true)) → AtK K .ret ⟨75, tl, []⟩ HH) →
    Lp (Cx e) 38 none [0, 1, 2, 9, 3, 14, 24, 4] (body38 1) ⟨75, [(0, .agg [ch]), (1, .ptr 0 0 0), (2, .v (.bool false)), (9, .v (.bool false)), (3, intA i), (14, .v (.bool true)), (24, .v (.bool false)), (4, intA j)], []⟩ ⟨[some (.cells 0 0 24 1 false [ch])], 0⟩ K := by
  intro m
  induction m with
  | zero =>
    intro j hj h1 h2
    rw [Lp_step]
    generalize hK : loopK (Cx e) 38 none [0, 1, 2, 9, 3, 14, 24, 4] (body38 1) _ K = KK
    unfold body38
    obtain rfl : j = ls.length := by omega
    simp only [Tryz.f38, loops, Option.map_some, Option.getD_some, List.nil_append, List.append_nil, List.cons_append, List.getElem?_cons_zero, List.getElem?_cons_succ]
    simp -implicitDefEqProofs only [go_sem, repeatCells, splice, chunk, bsFin, ne_eq, not_true_eq_false, not_false_eq_true, List.headD_cons, Bool.false_eq_true, Nat.le_refl, Nat.zero_mul, Nat.one_mul, Nat.mul_one, assoc_setI, assoc_keep, ↓reduceIte, Nat.reduceEqDiff, Nat.reduceLT, Nat.reduceLeDiff, Nat.reduceAdd, Nat.reduceSub, Nat.reduceMul, decide_true, decide_false, Bool.not_true, Bool.not_false, List.mem_cons, List.not_mem_nil, true_or, or_true, false_or, or_false, and_true, true_and, and_self, List.getElem?_cons_succ, List.getElem?_cons_zero, Option.bind_some, Option.map_some, Option.map_none, List.map_cons, List.map_nil, List.length_cons, List.length_nil, List.filterMap_cons, List.filterMap_nil, List.cons_append, List.nil_append, List.append_nil, Nat.zero_add, Nat.add_zero, List.take_succ_cons, List.take_zero, List.take_nil, List.drop_succ_cons, List.drop_zero, List.drop_nil, List.all_cons, List.all_nil, Bool.and_true, Bool.true_and, Bool.false_and, Bool.and_false, reduceCtorEq, beq_iff_eq, beq_self_eq_true, intA, Int.lt_irrefl, hch.len, hch.idx hy, hl.len, ← hls.1]
    subst hK
    simp -implicitDefEqProofs only [go_sem, repeatCells, splice, chunk, bsFin, ne_eq, not_true_eq_false, not_false_eq_true, List.headD_cons, Bool.false_eq_true, Nat.le_refl, Nat.zero_mul, Nat.one_mul, Nat.mul_one, assoc_setI, assoc_keep, ↓reduceIte, Nat.reduceEqDiff, Nat.reduceLT, Nat.reduceLeDiff, Nat.reduceAdd, Nat.reduceSub, Nat.reduceMul, decide_true, decide_false, Bool.not_true, Bool.not_false, List.mem_cons, List.not_mem_nil, true_or, or_true, false_or, or_false, and_true, true_and, and_self, List.getElem?_cons_succ, List.getElem?_cons_zero, Option.bind_some, Option.map_some, Option.map_none, List.map_cons, List.map_nil, List.length_cons, List.length_nil, List.filterMap_cons, List.filterMap_nil, List.cons_append, List.nil_append, List.append_nil, Nat.zero_add, Nat.add_zero, List.take_succ_cons, List.take_zero, List.take_nil, List.drop_succ_cons, List.drop_zero, List.drop_nil, List.all_cons, List.all_nil, Bool.and_true, Bool.true_and, Bool.false_and, Bool.and_false, reduceCtorEq, beq_iff_eq, beq_self_eq_true]
    exact h1 (by simp [lnG])
  | succ m ih =>
    intro j hj h1 h2
    rw [Lp_step]
    generalize hK : loopK (Cx e) 38 none [0, 1, 2, 9, 3, 14, 24, 4] (body38 1) _ K = KK
    unfold body38
    have hlt : (j : Int) < ((ls.length : Nat) : Int) := by omega
    have hw := wrap_succ j (by omega)
    have hj0 : (0 : Int) ≤ (j : Int) := by omega
    simp only [Tryz.f38, loops, Option.map_some, Option.getD_some, List.nil_append, List.append_nil, List.cons_append, List.getElem?_cons_zero, List.getElem?_cons_succ]
    obtain ⟨ws, hs⟩ := at_lt ls j (by omega)
    obtain ⟨lx, hk, hlx⟩ := hls.get hs
    have hlx : SlOf 1 (strs ws) lx := hlx
    have hd : lnG ls j = (greatL ws || lnG ls (j + 1)) := drop_any _ ls j ws hs
    by_cases c1 : 15 < (ws.length : Int)
    · simp -implicitDefEqProofs only [go_sem, repeatCells, splice, chunk, bsFin, ne_eq, not_true_eq_false, not_false_eq_true, List.headD_cons, Bool.false_eq_true, Nat.le_refl, Nat.zero_mul, Nat.one_mul, Nat.mul_one, assoc_setI, assoc_keep, ↓reduceIte, Nat.reduceEqDiff, Nat.reduceLT, Nat.reduceLeDiff, Nat.reduceAdd, Nat.reduceSub, Nat.reduceMul, decide_true, decide_false, Bool.not_true, Bool.not_false, List.mem_cons, List.not_mem_nil, true_or, or_true, false_or, or_false, and_true, true_and, and_self, List.getElem?_cons_succ, List.getElem?_cons_zero, Option.bind_some, Option.map_some, Option.map_none, List.map_cons, List.map_nil, List.length_cons, List.length_nil, List.filterMap_cons, List.filterMap_nil, List.cons_append, List.nil_append, List.append_nil, Nat.zero_add, Nat.add_zero, List.take_succ_cons, List.take_zero, List.take_nil, List.drop_succ_cons, List.drop_zero, List.drop_nil, List.all_cons, List.all_nil, Bool.and_true, Bool.true_and, Bool.false_and, Bool.and_false, reduceCtorEq, beq_iff_eq, beq_self_eq_true, intA, hlt, hw, hch.len, hch.idx hy, hl.len, hl.idx hk, hlx.len, hlx.cells, strs_len, ← hls.1, c1]
      subst hK
      simp -implicitDefEqProofs only [go_sem, repeatCells, splice, chunk, bsFin, ne_eq, not_true_eq_false, not_false_eq_true, List.headD_cons, Bool.false_eq_true, Nat.le_refl, Nat.zero_mul, Nat.one_mul, Nat.mul_one, assoc_setI, assoc_keep, ↓reduceIte, Nat.reduceEqDiff, Nat.reduceLT, Nat.reduceLeDiff, Nat.reduceAdd, Nat.reduceSub, Nat.reduceMul, decide_true, decide_false, Bool.not_true, Bool.not_false, List.mem_cons, List.not_mem_nil, true_or, or_true, false_or, or_false, and_true, true_and, and_self, List.getElem?_cons_succ, List.getElem?_cons_zero, Option.bind_some, Option.map_some, Option.map_none, List.map_cons, List.map_nil, List.length_cons, List.length_nil, List.filterMap_cons, List.filterMap_nil, List.cons_append, List.nil_append, List.append_nil, Nat.zero_add, Nat.add_zero, List.take_succ_cons, List.take_zero, List.take_nil, List.drop_succ_cons, List.drop_zero, List.drop_nil, List.all_cons, List.all_nil, Bool.and_true, Bool.true_and, Bool.false_and, Bool.and_false, reduceCtorEq, beq_iff_eq, beq_self_eq_true]
      exact h2 (by rw [hd, greatL_eq]; simp; left; left; omega) _ _ rfl
    · simp -implicitDefEqProofs only [go_sem, repeatCells, splice, chunk, bsFin, ne_eq, not_true_eq_false, not_false_eq_true, List.headD_cons, Bool.false_eq_true, Nat.le_refl, Nat.zero_mul, Nat.one_mul, Nat.mul_one, assoc_setI, assoc_keep, ↓reduceIte, Nat.reduceEqDiff, Nat.reduceLT, Nat.reduceLeDiff, Nat.reduceAdd, Nat.reduceSub, Nat.reduceMul, decide_true, decide_false, Bool.not_true, Bool.not_false, List.mem_cons, List.not_mem_nil, true_or, or_true, false_or, or_false, and_true, true_and, and_self, List.getElem?_cons_succ, List.getElem?_cons_zero, Option.bind_some, Option.map_some, Option.map_none, List.map_cons, List.map_nil, List.length_cons, List.length_nil, List.filterMap_cons, List.filterMap_nil, List.cons_append, List.nil_append, List.append_nil, Nat.zero_add, Nat.add_zero, List.take_succ_cons, List.take_zero, List.take_nil, List.drop_succ_cons, List.drop_zero, List.drop_nil, List.all_cons, List.all_nil, Bool.and_true, Bool.true_and, Bool.false_and, Bool.and_false, reduceCtorEq, beq_iff_eq, beq_self_eq_true, intA, hlt, hw, hch.len, hch.idx hy, hl.len, hl.idx hk, hlx.len, hlx.cells, strs_len, ← hls.1, c1]
      refine loop38c xs lxs ch hch i j id l lx hy hl hk ws hlx (hz ws (List.mem_of_getElem? hs)) _ ws.length 0 (by omega) ?_ ?_
      · intro hf
        simp -implicitDefEqProofs only [go_sem, repeatCells, splice, chunk, bsFin, ne_eq, not_true_eq_false, not_false_eq_true, List.headD_cons, Bool.false_eq_true, Nat.le_refl, Nat.zero_mul, Nat.one_mul, Nat.mul_one, assoc_setI, assoc_keep, ↓reduceIte, Nat.reduceEqDiff, Nat.reduceLT, Nat.reduceLeDiff, Nat.reduceAdd, Nat.reduceSub, Nat.reduceMul, decide_true, decide_false, Bool.not_true, Bool.not_false, List.mem_cons, List.not_mem_nil, true_or, or_true, false_or, or_false, and_true, true_and, and_self, List.getElem?_cons_succ, List.getElem?_cons_zero, Option.bind_some, Option.map_some, Option.map_none, List.map_cons, List.map_nil, List.length_cons, List.length_nil, List.filterMap_cons, List.filterMap_nil, List.cons_append, List.nil_append, List.append_nil, Nat.zero_add, Nat.add_zero, List.take_succ_cons, List.take_zero, List.take_nil, List.drop_succ_cons, List.drop_zero, List.drop_nil, List.all_cons, List.all_nil, Bool.and_true, Bool.true_and, Bool.false_and, Bool.and_false, reduceCtorEq, beq_iff_eq, beq_self_eq_true, intA, hw]
        subst hK
        simp -implicitDefEqProofs only [go_sem, repeatCells, splice, chunk, bsFin, ne_eq, not_true_eq_false, not_false_eq_true, List.headD_cons, Bool.false_eq_true, Nat.le_refl, Nat.zero_mul, Nat.one_mul, Nat.mul_one, assoc_setI, assoc_keep, ↓reduceIte, Nat.reduceEqDiff, Nat.reduceLT, Nat.reduceLeDiff, Nat.reduceAdd, Nat.reduceSub, Nat.reduceMul, decide_true, decide_false, Bool.not_true, Bool.not_false, List.mem_cons, List.not_mem_nil, true_or, or_true, false_or, or_false, and_true, true_and, and_self, List.getElem?_cons_succ, List.getElem?_cons_zero, Option.bind_some, Option.map_some, Option.map_none, List.map_cons, List.map_nil, List.length_cons, List.length_nil, List.filterMap_cons, List.filterMap_nil, List.cons_append, List.nil_append, List.append_nil, Nat.zero_add, Nat.add_zero, List.take_succ_cons, List.take_zero, List.take_nil, List.drop_succ_cons, List.drop_zero, List.drop_nil, List.all_cons, List.all_nil, Bool.and_true, Bool.true_and, Bool.false_and, Bool.and_false, reduceCtorEq, beq_iff_eq, beq_self_eq_true]
        have hd' : lnG ls j = lnG ls (j + 1) := by rw [hd, greatL_eq, hf]; simp; omega
        rw [hd'] at h1 h2
        exact ih (j + 1) (by omega) h1 h2
      · intro hf l HH hl
        subst hK
        simp -implicitDefEqProofs only [go_sem, repeatCells, splice, chunk, bsFin, ne_eq, not_true_eq_false, not_false_eq_true, List.headD_cons, Bool.false_eq_true, Nat.le_refl, Nat.zero_mul, Nat.one_mul, Nat.mul_one, assoc_setI, assoc_keep, ↓reduceIte, Nat.reduceEqDiff, Nat.reduceLT, Nat.reduceLeDiff, Nat.reduceAdd, Nat.reduceSub, Nat.reduceMul, decide_true, decide_false, Bool.not_true, Bool.not_false, List.mem_cons, List.not_mem_nil, true_or, or_true, false_or, or_false, and_true, true_and, and_self, List.getElem?_cons_succ, List.getElem?_cons_zero, Option.bind_some, Option.map_some, Option.map_none, List.map_cons, List.map_nil, List.length_cons, List.length_nil, List.filterMap_cons, List.filterMap_nil, List.cons_append, List.nil_append, List.append_nil, Nat.zero_add, Nat.add_zero, List.take_succ_cons, List.take_zero, List.take_nil, List.drop_succ_cons, List.drop_zero, List.drop_nil, List.all_cons, List.all_nil, Bool.and_true, Bool.true_and, Bool.false_and, Bool.and_false, reduceCtorEq, beq_iff_eq, beq_self_eq_true]
        exact h2 (by rw [hd, greatL_eq, hf]; simp) l HH hl

set_option maxHeartbeats 4000000 in
theorem loop38a {e : Exts} (xs : List AV) (ch : AV) (hch : SlOf 2 xs ch) (t : Txt) (ht : Fits t) (hn : t.length < 2 ^ 63) (hall : All2 ChapA t xs) (K : Post) :
    ∀ m j : Nat, j + m = t.length → (chG t j = false → AtK K (.exit 0) ⟨75, [(0, .agg [ch]), (1, .ptr 0 0 0), (2, .v (.bool false)), (9, .v (.bool false)), (3, intA (t.length : Nat))], []⟩ ⟨[some (.cells 0 0 24 1 false [ch])], 0⟩) → (chG t j = true → ∀ tl HH, assoc 2 tl = some (.v (.bool true)) → AtK K .ret ⟨75, tl, []⟩ HH) →
    Lp (Cx e) 38 none [0, 1, 2, 9, 3] (body38 0) ⟨75, [(0, .agg [ch]), (1, .ptr 0 0 0), (2, .v (.bool false)), (9, .v (.bool false)), (3, intA j)], []⟩ ⟨[some (.cells 0 0 24 1 false [ch])], 0⟩ K := by
  intro m
  induction m with
  | zero =>
    intro j hj h1 h2
    rw [Lp_step]
    generalize hK : loopK (Cx e) 38 none [0, 1, 2, 9, 3] (body38 0) _ K = KK
    unfold body38
    obtain rfl : j = t.length := by omega
    simp only [Tryz.f38, loops, Option.map_some, Option.getD_some, List.nil_append, List.append_nil, List.cons_append, List.getElem?_cons_zero, List.getElem?_cons_succ]
    simp -implicitDefEqProofs only [go_sem, repeatCells, splice, chunk, bsFin, ne_eq, not_true_eq_false, not_false_eq_true, List.headD_cons, Bool.false_eq_true, Nat.le_refl, Nat.zero_mul, Nat.one_mul, Nat.mul_one, assoc_setI, assoc_keep, ↓reduceIte, Nat.reduceEqDiff, Nat.reduceLT, Nat.reduceLeDiff, Nat.reduceAdd, Nat.reduceSub, Nat.reduceMul, decide_true, decide_false, Bool.not_true, Bool.not_false, List.mem_cons, List.not_mem_nil, true_or, or_true, false_or, or_false, and_true, true_and, and_self, List.getElem?_cons_succ, List.getElem?_cons_zero, Option.bind_some, Option.map_some, Option.map_none, List.map_cons, List.map_nil, List.length_cons, List.length_nil, List.filterMap_cons, List.filterMap_nil, List.cons_append, List.nil_append, List.append_nil, Nat.zero_add, Nat.add_zero, List.take_succ_cons, List.take_zero, List.take_nil, List.drop_succ_cons, List.drop_zero, List.drop_nil, List.all_cons, List.all_nil, Bool.and_true, Bool.true_and, Bool.false_and, Bool.and_false, reduceCtorEq, beq_iff_eq, beq_self_eq_true, intA, Int.lt_irrefl, hch.len, ← hall.1]
    subst hK
    simp -implicitDefEqProofs only [go_sem, repeatCells, splice, chunk, bsFin, ne_eq, not_true_eq_false, not_false_eq_true, List.headD_cons, Bool.false_eq_true, Nat.le_refl, Nat.zero_mul, Nat.one_mul, Nat.mul_one, assoc_setI, assoc_keep, ↓reduceIte, Nat.reduceEqDiff, Nat.reduceLT, Nat.reduceLeDiff, Nat.reduceAdd, Nat.reduceSub, Nat.reduceMul, decide_true, decide_false, Bool.not_true, Bool.not_false, List.mem_cons, List.not_mem_nil, true_or, or_true, false_or, or_false, and_true, true_and, and_self, List.getElem?_cons_succ, List.getElem?_cons_zero, Option.bind_some, Option.map_some, Option.map_none, List.map_cons, List.map_nil, List.length_cons, List.length_nil, List.filterMap_cons, List.filterMap_nil, List.cons_append, List.nil_append, List.append_nil, Nat.zero_add, Nat.add_zero, List.take_succ_cons, List.take_zero, List.take_nil, List.drop_succ_cons, List.drop_zero, List.drop_nil, List.all_cons, List.all_nil, Bool.and_true, Bool.true_and, Bool.false_and, Bool.and_false, reduceCtorEq, beq_iff_eq, beq_self_eq_true]
    exact h1 (by simp [chG])
  | succ m ih =>
    intro j hj h1 h2
    rw [Lp_step]
    generalize hK : loopK (Cx e) 38 none [0, 1, 2, 9, 3] (body38 0) _ K = KK
    unfold body38
    have hlt : (j : Int) < ((t.length : Nat) : Int) := by omega
    have hw := wrap_succ j (by omega)
    have hj0 : (0 : Int) ≤ (j : Int) := by omega
    simp only [Tryz.f38, loops, Option.map_some, Option.getD_some, List.nil_append, List.append_nil, List.cons_append, List.getElem?_cons_zero, List.getElem?_cons_succ]
    have hfit := ht.chs
    have hw := wrap_succ j (by omega)
    obtain ⟨c, hs⟩ := at_lt t j (by omega)
    obtain ⟨y, hy, l, rfl, lxs, hl, hls⟩ := hall.get hs
    have hd : chG t j = (greatC c || chG t (j + 1)) := drop_any _ t j c hs
    have hm := List.mem_of_getElem? hs
    by_cases c1 : 15 < (c.2.length : Int)
    · simp -implicitDefEqProofs only [go_sem, repeatCells, splice, chunk, bsFin, ne_eq, not_true_eq_false, not_false_eq_true, List.headD_cons, Bool.false_eq_true, Nat.le_refl, Nat.zero_mul, Nat.one_mul, Nat.mul_one, assoc_setI, assoc_keep, ↓reduceIte, Nat.reduceEqDiff, Nat.reduceLT, Nat.reduceLeDiff, Nat.reduceAdd, Nat.reduceSub, Nat.reduceMul, decide_true, decide_false, Bool.not_true, Bool.not_false, List.mem_cons, List.not_mem_nil, true_or, or_true, false_or, or_false, and_true, true_and, and_self, List.getElem?_cons_succ, List.getElem?_cons_zero, Option.bind_some, Option.map_some, Option.map_none, List.map_cons, List.map_nil, List.length_cons, List.length_nil, List.filterMap_cons, List.filterMap_nil, List.cons_append, List.nil_append, List.append_nil, Nat.zero_add, Nat.add_zero, List.take_succ_cons, List.take_zero, List.take_nil, List.drop_succ_cons, List.drop_zero, List.drop_nil, List.all_cons, List.all_nil, Bool.and_true, Bool.true_and, Bool.false_and, Bool.and_false, reduceCtorEq, beq_iff_eq, beq_self_eq_true, intA, hlt, hw, hch.len, hch.idx hy, hl.len, hl.cells, ← hls.1, ← hall.1, c1]
      subst hK
      simp -implicitDefEqProofs only [go_sem, repeatCells, splice, chunk, bsFin, ne_eq, not_true_eq_false, not_false_eq_true, List.headD_cons, Bool.false_eq_true, Nat.le_refl, Nat.zero_mul, Nat.one_mul, Nat.mul_one, assoc_setI, assoc_keep, ↓reduceIte, Nat.reduceEqDiff, Nat.reduceLT, Nat.reduceLeDiff, Nat.reduceAdd, Nat.reduceSub, Nat.reduceMul, decide_true, decide_false, Bool.not_true, Bool.not_false, List.mem_cons, List.not_mem_nil, true_or, or_true, false_or, or_false, and_true, true_and, and_self, List.getElem?_cons_succ, List.getElem?_cons_zero, Option.bind_some, Option.map_some, Option.map_none, List.map_cons, List.map_nil, List.length_cons, List.length_nil, List.filterMap_cons, List.filterMap_nil, List.cons_append, List.nil_append, List.append_nil, Nat.zero_add, Nat.add_zero, List.take_succ_cons, List.take_zero, List.take_nil, List.drop_succ_cons, List.drop_zero, List.drop_nil, List.all_cons, List.all_nil, Bool.and_true, Bool.true_and, Bool.false_and, Bool.and_false, reduceCtorEq, beq_iff_eq, beq_self_eq_true]
      exact h2 (by rw [hd]; unfold greatC; simp; left; left; omega) _ _ rfl
    · simp -implicitDefEqProofs only [go_sem, repeatCells, splice, chunk, bsFin, ne_eq, not_true_eq_false, not_false_eq_true, List.headD_cons, Bool.false_eq_true, Nat.le_refl, Nat.zero_mul, Nat.one_mul, Nat.mul_one, assoc_setI, assoc_keep, ↓reduceIte, Nat.reduceEqDiff, Nat.reduceLT, Nat.reduceLeDiff, Nat.reduceAdd, Nat.reduceSub, Nat.reduceMul, decide_true, decide_false, Bool.not_true, Bool.not_false, List.mem_cons, List.not_mem_nil, true_or, or_true, false_or, or_false, and_true, true_and, and_self, List.getElem?_cons_succ, List.getElem?_cons_zero, Option.bind_some, Option.map_some, Option.map_none, List.map_cons, List.map_nil, List.length_cons, List.length_nil, List.filterMap_cons, List.filterMap_nil, List.cons_append, List.nil_append, List.append_nil, Nat.zero_add, Nat.add_zero, List.take_succ_cons, List.take_zero, List.take_nil, List.drop_succ_cons, List.drop_zero, List.drop_nil, List.all_cons, List.all_nil, Bool.and_true, Bool.true_and, Bool.false_and, Bool.and_false, reduceCtorEq, beq_iff_eq, beq_self_eq_true, intA, hlt, hw, hch.len, hch.idx hy, hl.len, hl.cells, ← hls.1, ← hall.1, c1]
      refine loop38b xs lxs ch hch j c.1 l hy hl c.2 hls (ht.lines c hm) (ht.words c hm) _ c.2.length 0 (by omega) ?_ ?_
      · intro hf
        simp -implicitDefEqProofs only [go_sem, repeatCells, splice, chunk, bsFin, ne_eq, not_true_eq_false, not_false_eq_true, List.headD_cons, Bool.false_eq_true, Nat.le_refl, Nat.zero_mul, Nat.one_mul, Nat.mul_one, assoc_setI, assoc_keep, ↓reduceIte, Nat.reduceEqDiff, Nat.reduceLT, Nat.reduceLeDiff, Nat.reduceAdd, Nat.reduceSub, Nat.reduceMul, decide_true, decide_false, Bool.not_true, Bool.not_false, List.mem_cons, List.not_mem_nil, true_or, or_true, false_or, or_false, and_true, true_and, and_self, List.getElem?_cons_succ, List.getElem?_cons_zero, Option.bind_some, Option.map_some, Option.map_none, List.map_cons, List.map_nil, List.length_cons, List.length_nil, List.filterMap_cons, List.filterMap_nil, List.cons_append, List.nil_append, List.append_nil, Nat.zero_add, Nat.add_zero, List.take_succ_cons, List.take_zero, List.take_nil, List.drop_succ_cons, List.drop_zero, List.drop_nil, List.all_cons, List.all_nil, Bool.and_true, Bool.true_and, Bool.false_and, Bool.and_false, reduceCtorEq, beq_iff_eq, beq_self_eq_true, intA, hw]
        subst hK
        simp -implicitDefEqProofs only [go_sem, repeatCells, splice, chunk, bsFin, ne_eq, not_true_eq_false, not_false_eq_true, List.headD_cons, Bool.false_eq_true, Nat.le_refl, Nat.zero_mul, Nat.one_mul, Nat.mul_one, assoc_setI, assoc_keep, ↓reduceIte, Nat.reduceEqDiff, Nat.reduceLT, Nat.reduceLeDiff, Nat.reduceAdd, Nat.reduceSub, Nat.reduceMul, decide_true, decide_false, Bool.not_true, Bool.not_false, List.mem_cons, List.not_mem_nil, true_or, or_true, false_or, or_false, and_true, true_and, and_self, List.getElem?_cons_succ, List.getElem?_cons_zero, Option.bind_some, Option.map_some, Option.map_none, List.map_cons, List.map_nil, List.length_cons, List.length_nil, List.filterMap_cons, List.filterMap_nil, List.cons_append, List.nil_append, List.append_nil, Nat.zero_add, Nat.add_zero, List.take_succ_cons, List.take_zero, List.take_nil, List.drop_succ_cons, List.drop_zero, List.drop_nil, List.all_cons, List.all_nil, Bool.and_true, Bool.true_and, Bool.false_and, Bool.and_false, reduceCtorEq, beq_iff_eq, beq_self_eq_true]
        have hd' : chG t j = chG t (j + 1) := by
          rw [hd]; unfold greatC; rw [show c.2.any greatL = lnG c.2 0 from rfl, hf]; simp; omega
        rw [hd'] at h1 h2
        exact ih (j + 1) (by omega) h1 h2
      · intro hf l HH hl
        subst hK
        simp -implicitDefEqProofs only [go_sem, repeatCells, splice, chunk, bsFin, ne_eq, not_true_eq_false, not_false_eq_true, List.headD_cons, Bool.false_eq_true, Nat.le_refl, Nat.zero_mul, Nat.one_mul, Nat.mul_one, assoc_setI, assoc_keep, ↓reduceIte, Nat.reduceEqDiff, Nat.reduceLT, Nat.reduceLeDiff, Nat.reduceAdd, Nat.reduceSub, Nat.reduceMul, decide_true, decide_false, Bool.not_true, Bool.not_false, List.mem_cons, List.not_mem_nil, true_or, or_true, false_or, or_false, and_true, true_and, and_self, List.getElem?_cons_succ, List.getElem?_cons_zero, Option.bind_some, Option.map_some, Option.map_none, List.map_cons, List.map_nil, List.length_cons, List.length_nil, List.filterMap_cons, List.filterMap_nil, List.cons_append, List.nil_append, List.append_nil, Nat.zero_add, Nat.add_zero, List.take_succ_cons, List.take_zero, List.take_nil, List.drop_succ_cons, List.drop_zero, List.drop_nil, List.all_cons, List.all_nil, Bool.and_true, Bool.true_and, Bool.false_and, Bool.and_false, reduceCtorEq, beq_iff_eq, beq_self_eq_true]
        exact h2 (by rw [hd]; unfold greatC; rw [show c.2.any greatL = lnG c.2 0 from rfl, hf]; simp) l HH hl

set_option maxHeartbeats 1000000 in
theorem ans38 {e : Exts} (t : Txt) (ht : Fits t) (x : AV) (hx : TextA t x) : Ans (Cx e) 38 [x] (.v (.bool (greatT t))) := by
  obtain ⟨ch, rfl, xs, hch, hall⟩ := hx
  unfold Ans
  rw [fn_step (fn_38 e) (show Tryz.f38.body = some _ from rfl)]
  by_cases h1 : 10 < (t.length : Int)
  · simp -implicitDefEqProofs only [Tryz.f38, intA, go_sem, repeatCells, splice, chunk, bsFin, ne_eq, not_true_eq_false, not_false_eq_true, List.headD_cons, Bool.false_eq_true, Nat.le_refl, Nat.zero_mul, Nat.one_mul, Nat.mul_one, assoc_setI, assoc_keep, ↓reduceIte, Nat.reduceEqDiff, Nat.reduceLT, Nat.reduceLeDiff, Nat.reduceAdd, Nat.reduceSub, Nat.reduceMul, decide_true, decide_false, Bool.not_true, Bool.not_false, List.mem_cons, List.not_mem_nil, true_or, or_true, false_or, or_false, and_true, true_and, and_self, List.getElem?_cons_succ, List.getElem?_cons_zero, Option.bind_some, Option.map_some, Option.map_none, List.map_cons, List.map_nil, List.length_cons, List.length_nil, List.filterMap_cons, List.filterMap_nil, List.cons_append, List.nil_append, List.append_nil, Nat.zero_add, Nat.add_zero, List.take_succ_cons, List.take_zero, List.take_nil, List.drop_succ_cons, List.drop_zero, List.drop_nil, List.all_cons, List.all_nil, Bool.and_true, Bool.true_and, Bool.false_and, Bool.and_false, reduceCtorEq, beq_iff_eq, beq_self_eq_true, hch.len, hch.cells, hch.flat, hch.bound, ← hall.1, h1]
    have : greatT t = true := by unfold greatT; simp; left; omega
    rw [this]
  · simp -implicitDefEqProofs only [Tryz.f38, intA, go_sem, repeatCells, splice, chunk, bsFin, ne_eq, not_true_eq_false, not_false_eq_true, List.headD_cons, Bool.false_eq_true, Nat.le_refl, Nat.zero_mul, Nat.one_mul, Nat.mul_one, assoc_setI, assoc_keep, ↓reduceIte, Nat.reduceEqDiff, Nat.reduceLT, Nat.reduceLeDiff, Nat.reduceAdd, Nat.reduceSub, Nat.reduceMul, decide_true, decide_false, Bool.not_true, Bool.not_false, List.mem_cons, List.not_mem_nil, true_or, or_true, false_or, or_false, and_true, true_and, and_self, List.getElem?_cons_succ, List.getElem?_cons_zero, Option.bind_some, Option.map_some, Option.map_none, List.map_cons, List.map_nil, List.length_cons, List.length_nil, List.filterMap_cons, List.filterMap_nil, List.cons_append, List.nil_append, List.append_nil, Nat.zero_add, Nat.add_zero, List.take_succ_cons, List.take_zero, List.take_nil, List.drop_succ_cons, List.drop_zero, List.drop_nil, List.all_cons, List.all_nil, Bool.and_true, Bool.true_and, Bool.false_and, Bool.and_false, reduceCtorEq, beq_iff_eq, beq_self_eq_true, hch.len, hch.cells, hch.flat, hch.bound, ← hall.1, h1]
    refine loop38a xs ch hch t ht ht.chs hall _ t.length 0 (by omega) ?_ ?_
    · intro hf
      simp -implicitDefEqProofs only [go_sem, repeatCells, splice, chunk, bsFin, ne_eq, not_true_eq_false, not_false_eq_true, List.headD_cons, Bool.false_eq_true, Nat.le_refl, Nat.zero_mul, Nat.one_mul, Nat.mul_one, assoc_setI, assoc_keep, ↓reduceIte, Nat.reduceEqDiff, Nat.reduceLT, Nat.reduceLeDiff, Nat.reduceAdd, Nat.reduceSub, Nat.reduceMul, decide_true, decide_false, Bool.not_true, Bool.not_false, List.mem_cons, List.not_mem_nil, true_or, or_true, false_or, or_false, and_true, true_and, and_self, List.getElem?_cons_succ, List.getElem?_cons_zero, Option.bind_some, Option.map_some, Option.map_none, List.map_cons, List.map_nil, List.length_cons, List.length_nil, List.filterMap_cons, List.filterMap_nil, List.cons_append, List.nil_append, List.append_nil, Nat.zero_add, Nat.add_zero, List.take_succ_cons, List.take_zero, List.take_nil, List.drop_succ_cons, List.drop_zero, List.drop_nil, List.all_cons, List.all_nil, Bool.and_true, Bool.true_and, Bool.false_and, Bool.and_false, reduceCtorEq, beq_iff_eq, beq_self_eq_true]
      have : greatT t = false := by unfold greatT; rw [show t.any greatC = chG t 0 from rfl, hf]; simp; omega
      rw [this]
    · intro hf l HH hl
      simp -implicitDefEqProofs only [go_sem, repeatCells, splice, chunk, bsFin, ne_eq, not_true_eq_false, not_false_eq_true, List.headD_cons, Bool.false_eq_true, Nat.le_refl, Nat.zero_mul, Nat.one_mul, Nat.mul_one, assoc_setI, assoc_keep, ↓reduceIte, Nat.reduceEqDiff, Nat.reduceLT, Nat.reduceLeDiff, Nat.reduceAdd, Nat.reduceSub, Nat.reduceMul, decide_true, decide_false, Bool.not_true, Bool.not_false, List.mem_cons, List.not_mem_nil, true_or, or_true, false_or, or_false, and_true, true_and, and_self, List.getElem?_cons_succ, List.getElem?_cons_zero, Option.bind_some, Option.map_some, Option.map_none, List.map_cons, List.map_nil, List.length_cons, List.length_nil, List.filterMap_cons, List.filterMap_nil, List.cons_append, List.nil_append, List.append_nil, Nat.zero_add, Nat.add_zero, List.take_succ_cons, List.take_zero, List.take_nil, List.drop_succ_cons, List.drop_zero, List.drop_nil, List.all_cons, List.all_nil, Bool.and_true, Bool.true_and, Bool.false_and, Bool.and_false, reduceCtorEq, beq_iff_eq, beq_self_eq_true, hl]
      have : greatT t = true := by unfold greatT; rw [show t.any greatC = chG t 0 from rfl, hf]; simp
      rw [this]
end Go.Ev
namespace Go.Ev
open Go.Proofs
set_option maxRecDepth 100000
set_option linter.unusedSimpArgs false
def wsB (ws : Line) (j : Nat) : Bool := !(ws.drop j).all wordB
def lineB (l : Line) : Bool := withinB 1 10 [(l.length : Int)] && l.all wordB
def lnB (ls : List Line) (j : Nat) : Bool := !(ls.drop j).all lineB
def idB (t : Txt) (id : Int) (j n : Nat) : Bool := ((t.take n).drop j).any fun c => decide (c.1 = id)
def condC (t : Txt) (i : Nat) (c : Chap) : Bool := withinB 0 9999 [c.1] && withinB 1 10 [(c.2.length : Int)] && !idB t c.1 0 i && c.2.all lineB
def okFrom (t : Txt) : Nat → Txt → Bool
  | _, [] => true
  | j, c :: r => condC t j c && okFrom t (j + 1) r
def textB (t : Txt) : Bool := withinB 1 6 [(t.length : Int)] && okFrom t 0 t
noncomputable def body39 (n : Nat) : Code := ((Tryz.f39.body.map loops).getD [])[n]?.getD .skip
theorem idB_step (t : Txt) (id : Int) (n j : Nat) (c : Chap) (hn : n ≤ t.length) (hj : j < n) (h : t[j]? = some c) : idB t id j n = (decide (c.1 = id) || idB t id (j + 1) n) := by
  unfold idB
  exact drop_any _ _ j c (by rw [List.getElem?_take, if_pos hj]; exact h)
set_option maxHeartbeats 4000000 in
theorem loop39i {e : Exts} (t : Txt) (xs : List AV) (ch : AV) (hch : SlOf 2 xs ch) (hall : All2 ChapA t xs) (i : Nat) (hi : i ≤ t.length) (hn : i < 2 ^ 63) (id : Int) (l : AV) (K : Post) :
    ∀ m j : Nat, j + m = i → (idB t id j i = false → AtK K (.exit 2) ⟨85, [(0, .agg [ch]), (1, .ptr 0 0 0), (2, .v (.bool false)), (12, .v (.bool false)), (3, intA i), (17, .v (.bool true)), (4, .ptr 1 0 0), (35, .v (.bool false)), (5, intA (i : Nat))], []⟩ ⟨[some (.cells 0 0 24 1 false [ch]), some (.cells 0 0 46 1 false [intA id, l])], 0⟩) → (idB t id j i = true → ∀ tl HH, assoc 2 tl = some (.v (.bool false)) → AtK K .ret ⟨85, tl, []⟩ HH) →
    Lp (Cx e) 39 none [0, 1, 2, 12, 3, 17, 4, 35, 5] (body39 1) ⟨85, [(0, .agg [ch]), (1, .ptr 0 0 0), (2, .v (.bool false)), (12, .v (.bool false)), (3, intA i), (17, .v (.bool true)), (4, .ptr 1 0 0), (35, .v (.bool false)), (5, intA j)], []⟩ ⟨[some (.cells 0 0 24 1 false [ch]), some (.cells 0 0 46 1 false [intA id, l])], 0⟩ K := by
  intro m
  induction m with
  | zero =>
    intro j hj h1 h2
    rw [Lp_step]
    generalize hK : loopK (Cx e) 39 none [0, 1, 2, 12, 3, 17, 4, 35, 5] (body39 1) _ K = KK
    unfold body39
    obtain rfl : j = i := by omega
    simp only [Tryz.f39, loops, Option.map_some, Option.getD_some, List.nil_append, List.append_nil, List.cons_append, List.getElem?_cons_zero, List.getElem?_cons_succ]
    simp -implicitDefEqProofs only [go_sem, repeatCells, splice, chunk, bsFin, ne_eq, not_true_eq_false, not_false_eq_true, List.headD_cons, Bool.false_eq_true, Nat.le_refl, Nat.zero_mul, Nat.one_mul, Nat.mul_one, assoc_setI, assoc_keep, ↓reduceIte, Nat.reduceEqDiff, Nat.reduceLT, Nat.reduceLeDiff, Nat.reduceAdd, Nat.reduceSub, Nat.reduceMul, decide_true, decide_false, Bool.not_true, Bool.not_false, List.mem_cons, List.not_mem_nil, true_or, or_true, false_or, or_false, and_true, true_and, and_self, List.getElem?_cons_succ, List.getElem?_cons_zero, Option.bind_some, Option.map_some, Option.map_none, List.map_cons, List.map_nil, List.length_cons, List.length_nil, List.filterMap_cons, List.filterMap_nil, List.cons_append, List.nil_append, List.append_nil, Nat.zero_add, Nat.add_zero, List.take_succ_cons, List.take_zero, List.take_nil, List.drop_succ_cons, List.drop_zero, List.drop_nil, List.all_cons, List.all_nil, Bool.and_true, Bool.true_and, Bool.false_and, Bool.and_false, reduceCtorEq, beq_iff_eq, beq_self_eq_true, intA, Int.lt_irrefl, hch.len]
    subst hK
    simp -implicitDefEqProofs only [go_sem, repeatCells, splice, chunk, bsFin, ne_eq, not_true_eq_false, not_false_eq_true, List.headD_cons, Bool.false_eq_true, Nat.le_refl, Nat.zero_mul, Nat.one_mul, Nat.mul_one, assoc_setI, assoc_keep, ↓reduceIte, Nat.reduceEqDiff, Nat.reduceLT, Nat.reduceLeDiff, Nat.reduceAdd, Nat.reduceSub, Nat.reduceMul, decide_true, decide_false, Bool.not_true, Bool.not_false, List.mem_cons, List.not_mem_nil, true_or, or_true, false_or, or_false, and_true, true_and, and_self, List.getElem?_cons_succ, List.getElem?_cons_zero, Option.bind_some, Option.map_some, Option.map_none, List.map_cons, List.map_nil, List.length_cons, List.length_nil, List.filterMap_cons, List.filterMap_nil, List.cons_append, List.nil_append, List.append_nil, Nat.zero_add, Nat.add_zero, List.take_succ_cons, List.take_zero, List.take_nil, List.drop_succ_cons, List.drop_zero, List.drop_nil, List.all_cons, List.all_nil, Bool.and_true, Bool.true_and, Bool.false_and, Bool.and_false, reduceCtorEq, beq_iff_eq, beq_self_eq_true]
    exact h1 (by unfold idB; rw [List.drop_of_length_le (by simp; omega)]; rfl)
  | succ m ih =>
    intro j hj h1 h2
    rw [Lp_step]
    generalize hK : loopK (Cx e) 39 none [0, 1, 2, 12, 3, 17, 4, 35, 5] (body39 1) _ K = KK
    unfold body39
    have hlt : (j : Int) < ((i : Nat) : Int) := by omega
    have hw := wrap_succ j (by omega)
    have hj0 : (0 : Int) ≤ (j : Int) := by omega
    simp only [Tryz.f39, loops, Option.map_some, Option.getD_some, List.nil_append, List.append_nil, List.cons_append, List.getElem?_cons_zero, List.getElem?_cons_succ]
    obtain ⟨c, hs⟩ := at_lt t j (by omega)
    obtain ⟨y, hy, lj, rfl, -⟩ := hall.get hs
    have hd := idB_step t id i j c hi (by omega) hs
    simp -implicitDefEqProofs only [go_sem, repeatCells, splice, chunk, bsFin, ne_eq, not_true_eq_false, not_false_eq_true, List.headD_cons, Bool.false_eq_true, Nat.le_refl, Nat.zero_mul, Nat.one_mul, Nat.mul_one, assoc_setI, assoc_keep, ↓reduceIte, Nat.reduceEqDiff, Nat.reduceLT, Nat.reduceLeDiff, Nat.reduceAdd, Nat.reduceSub, Nat.reduceMul, decide_true, decide_false, Bool.not_true, Bool.not_false, List.mem_cons, List.not_mem_nil, true_or, or_true, false_or, or_false, and_true, true_and, and_self, List.getElem?_cons_succ, List.getElem?_cons_zero, Option.bind_some, Option.map_some, Option.map_none, List.map_cons, List.map_nil, List.length_cons, List.length_nil, List.filterMap_cons, List.filterMap_nil, List.cons_append, List.nil_append, List.append_nil, Nat.zero_add, Nat.add_zero, List.take_succ_cons, List.take_zero, List.take_nil, List.drop_succ_cons, List.drop_zero, List.drop_nil, List.all_cons, List.all_nil, Bool.and_true, Bool.true_and, Bool.false_and, Bool.and_false, reduceCtorEq, beq_iff_eq, beq_self_eq_true, intA, hlt, hw]
    refine wp_draw (by kernel_rfl) ?_
    by_cases c1 : c.1 = id
    · simp -implicitDefEqProofs only [go_sem, repeatCells, splice, chunk, bsFin, ne_eq, not_true_eq_false, not_false_eq_true, List.headD_cons, Bool.false_eq_true, Nat.le_refl, Nat.zero_mul, Nat.one_mul, Nat.mul_one, assoc_setI, assoc_keep, ↓reduceIte, Nat.reduceEqDiff, Nat.reduceLT, Nat.reduceLeDiff, Nat.reduceAdd, Nat.reduceSub, Nat.reduceMul, decide_true, decide_false, Bool.not_true, Bool.not_false, List.mem_cons, List.not_mem_nil, true_or, or_true, false_or, or_false, and_true, true_and, and_self, List.getElem?_cons_succ, List.getElem?_cons_zero, Option.bind_some, Option.map_some, Option.map_none, List.map_cons, List.map_nil, List.length_cons, List.length_nil, List.filterMap_cons, List.filterMap_nil, List.cons_append, List.nil_append, List.append_nil, Nat.zero_add, Nat.add_zero, List.take_succ_cons, List.take_zero, List.take_nil, List.drop_succ_cons, List.drop_zero, List.drop_nil, List.all_cons, List.all_nil, Bool.and_true, Bool.true_and, Bool.false_and, Bool.and_false, reduceCtorEq, beq_iff_eq, beq_self_eq_true, intA, hlt, hw, hch.idx hy, c1]
      subst hK
      simp -implicitDefEqProofs only [go_sem, repeatCells, splice, chunk, bsFin, ne_eq, not_true_eq_false, not_false_eq_true, List.headD_cons, Bool.false_eq_true, Nat.le_refl, Nat.zero_mul, Nat.one_mul, Nat.mul_one, assoc_setI, assoc_keep, ↓reduceIte, Nat.reduceEqDiff, Nat.reduceLT, Nat.reduceLeDiff, Nat.reduceAdd, Nat.reduceSub, Nat.reduceMul, decide_true, decide_false, Bool.not_true, Bool.not_false, List.mem_cons, List.not_mem_nil, true_or, or_true, false_or, or_false, and_true, true_and, and_self, List.getElem?_cons_succ, List.getElem?_cons_zero, Option.bind_some, Option.map_some, Option.map_none, List.map_cons, List.map_nil, List.length_cons, List.length_nil, List.filterMap_cons, List.filterMap_nil, List.cons_append, List.nil_append, List.append_nil, Nat.zero_add, Nat.add_zero, List.take_succ_cons, List.take_zero, List.take_nil, List.drop_succ_cons, List.drop_zero, List.drop_nil, List.all_cons, List.all_nil, Bool.and_true, Bool.true_and, Bool.false_and, Bool.and_false, reduceCtorEq, beq_iff_eq, beq_self_eq_true]
      exact h2 (by rw [hd]; simp [c1]) _ _ rfl
    · simp -implicitDefEqProofs only [go_sem, repeatCells, splice, chunk, bsFin, ne_eq, not_true_eq_false, not_false_eq_true, List.headD_cons, Bool.false_eq_true, Nat.le_refl, Nat.zero_mul, Nat.one_mul, Nat.mul_one, assoc_setI, assoc_keep, ↓reduceIte, Nat.reduceEqDiff, Nat.reduceLT, Nat.reduceLeDiff, Nat.reduceAdd, Nat.reduceSub, Nat.reduceMul, decide_true, decide_false, Bool.not_true, Bool.not_false, List.mem_cons, List.not_mem_nil, true_or, or_true, false_or, or_false, and_true, true_and, and_self, List.getElem?_cons_succ, List.getElem?_cons_zero, Option.bind_some, Option.map_some, Option.map_none, List.map_cons, List.map_nil, List.length_cons, List.length_nil, List.filterMap_cons, List.filterMap_nil, List.cons_append, List.nil_append, List.append_nil, Nat.zero_add, Nat.add_zero, List.take_succ_cons, List.take_zero, List.take_nil, List.drop_succ_cons, List.drop_zero, List.drop_nil, List.all_cons, List.all_nil, Bool.and_true, Bool.true_and, Bool.false_and, Bool.and_false, reduceCtorEq, beq_iff_eq, beq_self_eq_true, intA, hlt, hw, hch.idx hy, c1]
      subst hK
      simp -implicitDefEqProofs only [go_sem, repeatCells, splice, chunk, bsFin, ne_eq, not_true_eq_false, not_false_eq_true, List.headD_cons, Bool.false_eq_true, Nat.le_refl, Nat.zero_mul, Nat.one_mul, Nat.mul_one, assoc_setI, assoc_keep, ↓reduceIte, Nat.reduceEqDiff, Nat.reduceLT, Nat.reduceLeDiff, Nat.reduceAdd, Nat.reduceSub, Nat.reduceMul, decide_true, decide_false, Bool.not_true, Bool.not_false, List.mem_cons, List.not_mem_nil, true_or, or_true, false_or, or_false, and_true, true_and, and_self, List.getElem?_cons_succ, List.getElem?_cons_zero, Option.bind_some, Option.map_some, Option.map_none, List.map_cons, List.map_nil, List.length_cons, List.length_nil, List.filterMap_cons, List.filterMap_nil, List.cons_append, List.nil_append, List.append_nil, Nat.zero_add, Nat.add_zero, List.take_succ_cons, List.take_zero, List.take_nil, List.drop_succ_cons, List.drop_zero, List.drop_nil, List.all_cons, List.all_nil, Bool.and_true, Bool.true_and, Bool.false_and, Bool.and_false, reduceCtorEq, beq_iff_eq, beq_self_eq_true]
      have hd' : idB t id j i = idB t id (j + 1) i := by rw [hd]; simp [c1]
      rw [hd'] at h1 h2
      exact ih (j + 1) (by omega) h1 h2

set_option maxHeartbeats 4000000 in
theorem loop39w {e : Exts} (he : Quiet e) (ch : AV) (i k : Nat) (id : Int) (lxs : List AV) (l lx : AV) (hl : SlOf 1 lxs l) (hk : lxs[k]? = some lx) (ws : Line) (hlx : SlOf 1 (strs ws) lx) (hn : ws.length < 2 ^ 63) (hz : ∀ s ∈ ws, s.size < 2 ^ 63) (K : Post) :
    ∀ m j : Nat, j + m = ws.length → (wsB ws j = false → AtK K (.exit 6) ⟨85, [(0, .agg [ch]), (1, .ptr 0 0 0), (2, .v (.bool false)), (12, .v (.bool false)), (3, intA i), (17, .v (.bool true)), (4, .ptr 1 0 0), (35, .v (.bool false)), (5, intA i), (6, intA k), (54, .v (.bool true)), (64, .v (.bool false)), (7, intA (ws.length : Nat))], []⟩ ⟨[some (.cells 0 0 24 1 false [ch]), some (.cells 0 0 46 1 false [intA id, l])], 0⟩) → (wsB ws j = true → ∀ tl HH, assoc 2 tl = some (.v (.bool false)) → AtK K .ret ⟨85, tl, []⟩ HH) →
    Lp (Cx e) 39 none [0, 1, 2, 12, 3, 17, 4, 35, 5, 6, 54, 64, 7] (body39 3) ⟨85, [(0, .agg [ch]), (1, .ptr 0 0 0), (2, .v (.bool false)), (12, .v (.bool false)), (3, intA i), (17, .v (.bool true)), (4, .ptr 1 0 0), (35, .v (.bool false)), (5, intA i), (6, intA k), (54, .v (.bool true)), (64, .v (.bool false)), (7, intA j)], []⟩ ⟨[some (.cells 0 0 24 1 false [ch]), some (.cells 0 0 46 1 false [intA id, l])], 0⟩ K := by
  intro m
  induction m with
  | zero =>
    intro j hj h1 h2
    rw [Lp_step]
    generalize hK : loopK (Cx e) 39 none [0, 1, 2, 12, 3, 17, 4, 35, 5, 6, 54, 64, 7] (body39 3) _ K = KK
    unfold body39
    obtain rfl : j = ws.length := by omega
    simp only [Tryz.f39, loops, Option.map_some, Option.getD_some, List.nil_append, List.append_nil, List.cons_append, List.getElem?_cons_zero, List.getElem?_cons_succ]
    simp -implicitDefEqProofs only [go_sem, repeatCells, splice, chunk, bsFin, ne_eq, not_true_eq_false, not_false_eq_true, List.headD_cons, Bool.false_eq_true, Nat.le_refl, Nat.zero_mul, Nat.one_mul, Nat.mul_one, assoc_setI, assoc_keep, ↓reduceIte, Nat.reduceEqDiff, Nat.reduceLT, Nat.reduceLeDiff, Nat.reduceAdd, Nat.reduceSub, Nat.reduceMul, decide_true, decide_false, Bool.not_true, Bool.not_false, List.mem_cons, List.not_mem_nil, true_or, or_true, false_or, or_false, and_true, true_and, and_self, List.getElem?_cons_succ, List.getElem?_cons_zero, Option.bind_some, Option.map_some, Option.map_none, List.map_cons, List.map_nil, List.length_cons, List.length_nil, List.filterMap_cons, List.filterMap_nil, List.cons_append, List.nil_append, List.append_nil, Nat.zero_add, Nat.add_zero, List.take_succ_cons, List.take_zero, List.take_nil, List.drop_succ_cons, List.drop_zero, List.drop_nil, List.all_cons, List.all_nil, Bool.and_true, Bool.true_and, Bool.false_and, Bool.and_false, reduceCtorEq, beq_iff_eq, beq_self_eq_true, intA, Int.lt_irrefl, hl.len, hl.cells, hl.idx hk, hlx.len, hlx.cells, strs_len]
    subst hK
    simp -implicitDefEqProofs only [go_sem, repeatCells, splice, chunk, bsFin, ne_eq, not_true_eq_false, not_false_eq_true, List.headD_cons, Bool.false_eq_true, Nat.le_refl, Nat.zero_mul, Nat.one_mul, Nat.mul_one, assoc_setI, assoc_keep, ↓reduceIte, Nat.reduceEqDiff, Nat.reduceLT, Nat.reduceLeDiff, Nat.reduceAdd, Nat.reduceSub, Nat.reduceMul, decide_true, decide_false, Bool.not_true, Bool.not_false, List.mem_cons, List.not_mem_nil, true_or, or_true, false_or, or_false, and_true, true_and, and_self, List.getElem?_cons_succ, List.getElem?_cons_zero, Option.bind_some, Option.map_some, Option.map_none, List.map_cons, List.map_nil, List.length_cons, List.length_nil, List.filterMap_cons, List.filterMap_nil, List.cons_append, List.nil_append, List.append_nil, Nat.zero_add, Nat.add_zero, List.take_succ_cons, List.take_zero, List.take_nil, List.drop_succ_cons, List.drop_zero, List.drop_nil, List.all_cons, List.all_nil, Bool.and_true, Bool.true_and, Bool.false_and, Bool.and_false, reduceCtorEq, beq_iff_eq, beq_self_eq_true]
    exact h1 (by unfold wsB; rw [List.drop_of_length_le (by simp)]; rfl)
  | succ m ih =>
    intro j hj h1 h2
    rw [Lp_step]
    generalize hK : loopK (Cx e) 39 none [0, 1, 2, 12, 3, 17, 4, 35, 5, 6, 54, 64, 7] (body39 3) _ K = KK
    unfold body39
    have hlt : (j : Int) < ((ws.length : Nat) : Int) := by omega
    have hw := wrap_succ j (by omega)
    have hj0 : (0 : Int) ≤ (j : Int) := by omega
    simp only [Tryz.f39, loops, Option.map_some, Option.getD_some, List.nil_append, List.append_nil, List.cons_append, List.getElem?_cons_zero, List.getElem?_cons_succ]
    obtain ⟨s, hs⟩ := at_lt ws j (by omega)
    have hd : wsB ws j = (!wordB s || wsB ws (j + 1)) := by unfold wsB; rw [drop_all _ ws j s hs, Bool.not_and]
    have hc := call61 he s (hz s (List.mem_of_getElem? hs))
    cases c1 : wordB s
    · rw [c1] at hc
      simp -implicitDefEqProofs only [go_sem, repeatCells, splice, chunk, bsFin, ne_eq, not_true_eq_false, not_false_eq_true, List.headD_cons, Bool.false_eq_true, Nat.le_refl, Nat.zero_mul, Nat.one_mul, Nat.mul_one, assoc_setI, assoc_keep, ↓reduceIte, Nat.reduceEqDiff, Nat.reduceLT, Nat.reduceLeDiff, Nat.reduceAdd, Nat.reduceSub, Nat.reduceMul, decide_true, decide_false, Bool.not_true, Bool.not_false, List.mem_cons, List.not_mem_nil, true_or, or_true, false_or, or_false, and_true, true_and, and_self, List.getElem?_cons_succ, List.getElem?_cons_zero, Option.bind_some, Option.map_some, Option.map_none, List.map_cons, List.map_nil, List.length_cons, List.length_nil, List.filterMap_cons, List.filterMap_nil, List.cons_append, List.nil_append, List.append_nil, Nat.zero_add, Nat.add_zero, List.take_succ_cons, List.take_zero, List.take_nil, List.drop_succ_cons, List.drop_zero, List.drop_nil, List.all_cons, List.all_nil, Bool.and_true, Bool.true_and, Bool.false_and, Bool.and_false, reduceCtorEq, beq_iff_eq, beq_self_eq_true, intA, hlt, hw, hl.len, hl.cells, hl.idx hk, hlx.len, hlx.cells, strs_len, hlx.idx (strs_get hs), hc]
      subst hK
      simp -implicitDefEqProofs only [go_sem, repeatCells, splice, chunk, bsFin, ne_eq, not_true_eq_false, not_false_eq_true, List.headD_cons, Bool.false_eq_true, Nat.le_refl, Nat.zero_mul, Nat.one_mul, Nat.mul_one, assoc_setI, assoc_keep, ↓reduceIte, Nat.reduceEqDiff, Nat.reduceLT, Nat.reduceLeDiff, Nat.reduceAdd, Nat.reduceSub, Nat.reduceMul, decide_true, decide_false, Bool.not_true, Bool.not_false, List.mem_cons, List.not_mem_nil, true_or, or_true, false_or, or_false, and_true, true_and, and_self, List.getElem?_cons_succ, List.getElem?_cons_zero, Option.bind_some, Option.map_some, Option.map_none, List.map_cons, List.map_nil, List.length_cons, List.length_nil, List.filterMap_cons, List.filterMap_nil, List.cons_append, List.nil_append, List.append_nil, Nat.zero_add, Nat.add_zero, List.take_succ_cons, List.take_zero, List.take_nil, List.drop_succ_cons, List.drop_zero, List.drop_nil, List.all_cons, List.all_nil, Bool.and_true, Bool.true_and, Bool.false_and, Bool.and_false, reduceCtorEq, beq_iff_eq, beq_self_eq_true]
      exact h2 (by rw [hd, c1]; rfl) _ _ rfl
    · rw [c1] at hc
      simp -implicitDefEqProofs only [go_sem, repeatCells, splice, chunk, bsFin, ne_eq, not_true_eq_false, not_false_eq_true, List.headD_cons, Bool.false_eq_true, Nat.le_refl, Nat.zero_mul, Nat.one_mul, Nat.mul_one, assoc_setI, assoc_keep, ↓reduceIte, Nat.reduceEqDiff, Nat.reduceLT, Nat.reduceLeDiff, Nat.reduceAdd, Nat.reduceSub, Nat.reduceMul, decide_true, decide_false, Bool.not_true, Bool.not_false, List.mem_cons, List.not_mem_nil, true_or, or_true, false_or, or_false, and_true, true_and, and_self, List.getElem?_cons_succ, List.getElem?_cons_zero, Option.bind_some, Option.map_some, Option.map_none, List.map_cons, List.map_nil, List.length_cons, List.length_nil, List.filterMap_cons, List.filterMap_nil, List.cons_append, List.nil_append, List.append_nil, Nat.zero_add, Nat.add_zero, List.take_succ_cons, List.take_zero, List.take_nil, List.drop_succ_cons, List.drop_zero, List.drop_nil, List.all_cons, List.all_nil, Bool.and_true, Bool.true_and, Bool.false_and, Bool.and_false, reduceCtorEq, beq_iff_eq, beq_self_eq_true, intA, hlt, hw, hl.len, hl.cells, hl.idx hk, hlx.len, hlx.cells, strs_len, hlx.idx (strs_get hs), hc]
      subst hK
      simp -implicitDefEqProofs only [go_sem, repeatCells, splice, chunk, bsFin, ne_eq, not_true_eq_false, not_false_eq_true, List.headD_cons, Bool.false_eq_true, Nat.le_refl, Nat.zero_mul, Nat.one_mul, Nat.mul_one, assoc_setI, assoc_keep, ↓reduceIte, Nat.reduceEqDiff, Nat.reduceLT, Nat.reduceLeDiff, Nat.reduceAdd, Nat.reduceSub, Nat.reduceMul, decide_true, decide_false, Bool.not_true, Bool.not_false, List.mem_cons, List.not_mem_nil, true_or, or_true, false_or, or_false, and_true, true_and, and_self, List.getElem?_cons_succ, List.getElem?_cons_zero, Option.bind_some, Option.map_some, Option.map_none, List.map_cons, List.map_nil, List.length_cons, List.length_nil, List.filterMap_cons, List.filterMap_nil, List.cons_append, List.nil_append, List.append_nil, Nat.zero_add, Nat.add_zero, List.take_succ_cons, List.take_zero, List.take_nil, List.drop_succ_cons, List.drop_zero, List.drop_nil, List.all_cons, List.all_nil, Bool.and_true, Bool.true_and, Bool.false_and, Bool.and_false, reduceCtorEq, beq_iff_eq, beq_self_eq_true]
      have hd' : wsB ws j = wsB ws (j + 1) := by rw [hd, c1]; rfl
      rw [hd'] at h1 h2
      exact ih (j + 1) (by omega) h1 h2

set_option maxHeartbeats 4000000 in
theorem loop39l {e : Exts} (he : Quiet e) (ch : AV) (i : Nat) (id : Int) (lxs : List AV) (l : AV) (hl : SlOf 1 lxs l) (ls : List Line) (hls : All2 LineA ls lxs) (hn : ls.length < 2 ^ 63) (hz : ∀ s ∈ ls, s.length < 2 ^ 63) (hzz : ∀ l ∈ ls, ∀ s ∈ l, s.size < 2 ^ 63) (K : Post) :
    ∀ m j : Nat, j + m = ls.length → (lnB ls j = false → AtK K (.exit 4) ⟨85, [(0, .agg [ch]), (1, .ptr 0 0 0), (2, .v (.bool false)), (12, .v (.bool false)), (3, intA i), (17, .v (.bool true)), (4, .ptr 1 0 0), (35, .v (.bool false)), (5, intA i), (6, intA (ls.length : Nat))], []⟩ ⟨[some (.cells 0 0 24 1 false [ch]), some (.cells 0 0 46 1 false [intA id, l])], 0⟩) → (lnB ls j = true → ∀ tl HH, assoc 2 tl = some (.v (.bool false)) → AtK K .ret ⟨85, tl, []⟩ HH) →
    Lp (Cx e) 39 none [0, 1, 2, 12, 3, 17, 4, 35, 5, 6] (body39 2) ⟨85, [(0, .agg [ch]), (1, .ptr 0 0 0), (2, .v (.bool false)), (12, .v (.bool false)), (3, intA i), (17, .v (.bool true)), (4, .ptr 1 0 0), (35, .v (.bool false)), (5, intA i), (6, intA j)], []⟩ ⟨[some (.cells 0 0 24 1 false [ch]), some (.cells 0 0 46 1 false [intA id, l])], 0⟩ K := by
  intro m
  induction m with
  | zero =>
    intro j hj h1 h2
    rw [Lp_step]
    generalize hK : loopK (Cx e) 39 none [0, 1, 2, 12, 3, 17, 4, 35, 5, 6] (body39 2) _ K = KK
    unfold body39
    obtain rfl : j = ls.length := by omega
    simp only [Tryz.f39, loops, Option.map_some, Option.getD_some, List.nil_append, List.append_nil, List.cons_append, List.getElem?_cons_zero, List.getElem?_cons_succ]
    simp -implicitDefEqProofs only [go_sem, repeatCells, splice, chunk, bsFin, ne_eq, not_true_eq_false, not_false_eq_true, List.headD_cons, Bool.false_eq_true, Nat.le_refl, Nat.zero_mul, Nat.one_mul, Nat.mul_one, assoc_setI, assoc_keep, ↓reduceIte, Nat.reduceEqDiff, Nat.reduceLT, Nat.reduceLeDiff, Nat.reduceAdd, Nat.reduceSub, Nat.reduceMul, decide_true, decide_false, Bool.not_true, Bool.not_false, List.mem_cons, List.not_mem_nil, true_or, or_true, false_or, or_false, and_true, true_and, and_self, List.getElem?_cons_succ, List.getElem?_cons_zero, Option.bind_some, Option.map_some, Option.map_none, List.map_cons, List.map_nil, List.length_cons, List.length_nil, List.filterMap_cons, List.filterMap_nil, List.cons_append, List.nil_append, List.append_nil, Nat.zero_add, Nat.add_zero, List.take_succ_cons, List.take_zero, List.take_nil, List.drop_succ_cons, List.drop_zero, List.drop_nil, List.all_cons, List.all_nil, Bool.and_true, Bool.true_and, Bool.false_and, Bool.and_false, reduceCtorEq, beq_iff_eq, beq_self_eq_true, intA, Int.lt_irrefl, hl.len, hl.cells, ← hls.1]
    subst hK
    simp -implicitDefEqProofs only [go_sem, repeatCells, splice, chunk, bsFin, ne_eq, not_true_eq_false, not_false_eq_true, List.headD_cons, Bool.false_eq_true, Nat.le_refl, Nat.zero_mul, Nat.one_mul, Nat.mul_one, assoc_setI, assoc_keep, ↓reduceIte, Nat.reduceEqDiff, Nat.reduceLT, Nat.reduceLeDiff, Nat.reduceAdd, Nat.reduceSub, Nat.reduceMul, decide_true, decide_false, Bool.not_true, Bool.not_false, List.mem_cons, List.not_mem_nil, true_or, or_true, false_or, or_false, and_true, true_and, and_self, List.getElem?_cons_succ, List.getElem?_cons_zero, Option.bind_some, Option.map_some, Option.map_none, List.map_cons, List.map_nil, List.length_cons, List.length_nil, List.filterMap_cons, List.filterMap_nil, List.cons_append, List.nil_append, List.append_nil, Nat.zero_add, Nat.add_zero, List.take_succ_cons, List.take_zero, List.take_nil, List.drop_succ_cons, List.drop_zero, List.drop_nil, List.all_cons, List.all_nil, Bool.and_true, Bool.true_and, Bool.false_and, Bool.and_false, reduceCtorEq, beq_iff_eq, beq_self_eq_true]
    exact h1 (by unfold lnB; rw [List.drop_of_length_le (by simp)]; rfl)
  | succ m ih =>
    intro j hj h1 h2
    rw [Lp_step]
    generalize hK : loopK (Cx e) 39 none [0, 1, 2, 12, 3, 17, 4, 35, 5, 6] (body39 2) _ K = KK
    unfold body39
    have hlt : (j : Int) < ((ls.length : Nat) : Int) := by omega
    have hw := wrap_succ j (by omega)
    have hj0 : (0 : Int) ≤ (j : Int) := by omega
    simp only [Tryz.f39, loops, Option.map_some, Option.getD_some, List.nil_append, List.append_nil, List.cons_append, List.getElem?_cons_zero, List.getElem?_cons_succ]
    obtain ⟨ws, hs⟩ := at_lt ls j (by omega)
    obtain ⟨lx, hk, hlx⟩ := hls.get hs
    have hlx : SlOf 1 (strs ws) lx := hlx
    have hd : lnB ls j = (!lineB ws || lnB ls (j + 1)) := by unfold lnB; rw [drop_all _ ls j ws hs, Bool.not_and]
    have hm := List.mem_of_getElem? hs
    have hc := call43 he (ws.length : Int) 1 10
    cases c1 : withinB 1 10 [(ws.length : Int)]
    · rw [c1] at hc
      simp -implicitDefEqProofs only [go_sem, repeatCells, splice, chunk, bsFin, ne_eq, not_true_eq_false, not_false_eq_true, List.headD_cons, Bool.false_eq_true, Nat.le_refl, Nat.zero_mul, Nat.one_mul, Nat.mul_one, assoc_setI, assoc_keep, ↓reduceIte, Nat.reduceEqDiff, Nat.reduceLT, Nat.reduceLeDiff, Nat.reduceAdd, Nat.reduceSub, Nat.reduceMul, decide_true, decide_false, Bool.not_true, Bool.not_false, List.mem_cons, List.not_mem_nil, true_or, or_true, false_or, or_false, and_true, true_and, and_self, List.getElem?_cons_succ, List.getElem?_cons_zero, Option.bind_some, Option.map_some, Option.map_none, List.map_cons, List.map_nil, List.length_cons, List.length_nil, List.filterMap_cons, List.filterMap_nil, List.cons_append, List.nil_append, List.append_nil, Nat.zero_add, Nat.add_zero, List.take_succ_cons, List.take_zero, List.take_nil, List.drop_succ_cons, List.drop_zero, List.drop_nil, List.all_cons, List.all_nil, Bool.and_true, Bool.true_and, Bool.false_and, Bool.and_false, reduceCtorEq, beq_iff_eq, beq_self_eq_true, intA, hlt, hw, hl.len, hl.cells, hl.idx hk, hlx.len, hlx.cells, strs_len, ← hls.1, hc]
      subst hK
      simp -implicitDefEqProofs only [go_sem, repeatCells, splice, chunk, bsFin, ne_eq, not_true_eq_false, not_false_eq_true, List.headD_cons, Bool.false_eq_true, Nat.le_refl, Nat.zero_mul, Nat.one_mul, Nat.mul_one, assoc_setI, assoc_keep, ↓reduceIte, Nat.reduceEqDiff, Nat.reduceLT, Nat.reduceLeDiff, Nat.reduceAdd, Nat.reduceSub, Nat.reduceMul, decide_true, decide_false, Bool.not_true, Bool.not_false, List.mem_cons, List.not_mem_nil, true_or, or_true, false_or, or_false, and_true, true_and, and_self, List.getElem?_cons_succ, List.getElem?_cons_zero, Option.bind_some, Option.map_some, Option.map_none, List.map_cons, List.map_nil, List.length_cons, List.length_nil, List.filterMap_cons, List.filterMap_nil, List.cons_append, List.nil_append, List.append_nil, Nat.zero_add, Nat.add_zero, List.take_succ_cons, List.take_zero, List.take_nil, List.drop_succ_cons, List.drop_zero, List.drop_nil, List.all_cons, List.all_nil, Bool.and_true, Bool.true_and, Bool.false_and, Bool.and_false, reduceCtorEq, beq_iff_eq, beq_self_eq_true]
      exact h2 (by rw [hd]; unfold lineB; rw [c1]; rfl) _ _ rfl
    · rw [c1] at hc
      simp -implicitDefEqProofs only [go_sem, repeatCells, splice, chunk, bsFin, ne_eq, not_true_eq_false, not_false_eq_true, List.headD_cons, Bool.false_eq_true, Nat.le_refl, Nat.zero_mul, Nat.one_mul, Nat.mul_one, assoc_setI, assoc_keep, ↓reduceIte, Nat.reduceEqDiff, Nat.reduceLT, Nat.reduceLeDiff, Nat.reduceAdd, Nat.reduceSub, Nat.reduceMul, decide_true, decide_false, Bool.not_true, Bool.not_false, List.mem_cons, List.not_mem_nil, true_or, or_true, false_or, or_false, and_true, true_and, and_self, List.getElem?_cons_succ, List.getElem?_cons_zero, Option.bind_some, Option.map_some, Option.map_none, List.map_cons, List.map_nil, List.length_cons, List.length_nil, List.filterMap_cons, List.filterMap_nil, List.cons_append, List.nil_append, List.append_nil, Nat.zero_add, Nat.add_zero, List.take_succ_cons, List.take_zero, List.take_nil, List.drop_succ_cons, List.drop_zero, List.drop_nil, List.all_cons, List.all_nil, Bool.and_true, Bool.true_and, Bool.false_and, Bool.and_false, reduceCtorEq, beq_iff_eq, beq_self_eq_true, intA, hlt, hw, hl.len, hl.cells, hl.idx hk, hlx.len, hlx.cells, strs_len, ← hls.1, hc]
      refine loop39w he ch i j id lxs l lx hl hk ws hlx (hz ws hm) (hzz ws hm) _ ws.length 0 (by omega) ?_ ?_
      · intro hf
        simp -implicitDefEqProofs only [go_sem, repeatCells, splice, chunk, bsFin, ne_eq, not_true_eq_false, not_false_eq_true, List.headD_cons, Bool.false_eq_true, Nat.le_refl, Nat.zero_mul, Nat.one_mul, Nat.mul_one, assoc_setI, assoc_keep, ↓reduceIte, Nat.reduceEqDiff, Nat.reduceLT, Nat.reduceLeDiff, Nat.reduceAdd, Nat.reduceSub, Nat.reduceMul, decide_true, decide_false, Bool.not_true, Bool.not_false, List.mem_cons, List.not_mem_nil, true_or, or_true, false_or, or_false, and_true, true_and, and_self, List.getElem?_cons_succ, List.getElem?_cons_zero, Option.bind_some, Option.map_some, Option.map_none, List.map_cons, List.map_nil, List.length_cons, List.length_nil, List.filterMap_cons, List.filterMap_nil, List.cons_append, List.nil_append, List.append_nil, Nat.zero_add, Nat.add_zero, List.take_succ_cons, List.take_zero, List.take_nil, List.drop_succ_cons, List.drop_zero, List.drop_nil, List.all_cons, List.all_nil, Bool.and_true, Bool.true_and, Bool.false_and, Bool.and_false, reduceCtorEq, beq_iff_eq, beq_self_eq_true, intA, hw]
        subst hK
        simp -implicitDefEqProofs only [go_sem, repeatCells, splice, chunk, bsFin, ne_eq, not_true_eq_false, not_false_eq_true, List.headD_cons, Bool.false_eq_true, Nat.le_refl, Nat.zero_mul, Nat.one_mul, Nat.mul_one, assoc_setI, assoc_keep, ↓reduceIte, Nat.reduceEqDiff, Nat.reduceLT, Nat.reduceLeDiff, Nat.reduceAdd, Nat.reduceSub, Nat.reduceMul, decide_true, decide_false, Bool.not_true, Bool.not_false, List.mem_cons, List.not_mem_nil, true_or, or_true, false_or, or_false, and_true, true_and, and_self, List.getElem?_cons_succ, List.getElem?_cons_zero, Option.bind_some, Option.map_some, Option.map_none, List.map_cons, List.map_nil, List.length_cons, List.length_nil, List.filterMap_cons, List.filterMap_nil, List.cons_append, List.nil_append, List.append_nil, Nat.zero_add, Nat.add_zero, List.take_succ_cons, List.take_zero, List.take_nil, List.drop_succ_cons, List.drop_zero, List.drop_nil, List.all_cons, List.all_nil, Bool.and_true, Bool.true_and, Bool.false_and, Bool.and_false, reduceCtorEq, beq_iff_eq, beq_self_eq_true]
        have hf' : ws.all wordB = true := by unfold wsB at hf; simpa using hf
        have hd' : lnB ls j = lnB ls (j + 1) := by rw [hd]; unfold lineB; rw [c1, hf']; rfl
        rw [hd'] at h1 h2
        exact ih (j + 1) (by omega) h1 h2
      · intro hf l HH hl
        subst hK
        simp -implicitDefEqProofs only [go_sem, repeatCells, splice, chunk, bsFin, ne_eq, not_true_eq_false, not_false_eq_true, List.headD_cons, Bool.false_eq_true, Nat.le_refl, Nat.zero_mul, Nat.one_mul, Nat.mul_one, assoc_setI, assoc_keep, ↓reduceIte, Nat.reduceEqDiff, Nat.reduceLT, Nat.reduceLeDiff, Nat.reduceAdd, Nat.reduceSub, Nat.reduceMul, decide_true, decide_false, Bool.not_true, Bool.not_false, List.mem_cons, List.not_mem_nil, true_or, or_true, false_or, or_false, and_true, true_and, and_self, List.getElem?_cons_succ, List.getElem?_cons_zero, Option.bind_some, Option.map_some, Option.map_none, List.map_cons, List.map_nil, List.length_cons, List.length_nil, List.filterMap_cons, List.filterMap_nil, List.cons_append, List.nil_append, List.append_nil, Nat.zero_add, Nat.add_zero, List.take_succ_cons, List.take_zero, List.take_nil, List.drop_succ_cons, List.drop_zero, List.drop_nil, List.all_cons, List.all_nil, Bool.and_true, Bool.true_and, Bool.false_and, Bool.and_false, reduceCtorEq, beq_iff_eq, beq_self_eq_true]
        have hf' : ws.all wordB = false := by unfold wsB at hf; simpa using hf
        exact h2 (by rw [hd]; unfold lineB; rw [hf', Bool.and_false]; rfl) l HH hl

def chB (t : Txt) (j : Nat) : Bool := !okFrom t j (t.drop j)
theorem chB_step (t : Txt) (j : Nat) (c : Chap) (h : t[j]? = some c) : chB t j = (!condC t j c || chB t (j + 1)) := by
  obtain ⟨hj, rfl⟩ := List.getElem?_eq_some_iff.1 h
  unfold chB
  rw [List.drop_eq_getElem_cons hj]
  simp only [okFrom, Bool.not_and]
set_option maxHeartbeats 4000000 in
theorem loop39c {e : Exts} (he : Quiet e) (t : Txt) (ht : Fits t) (xs : List AV) (ch : AV) (hch : SlOf 2 xs ch) (hn : t.length < 2 ^ 63) (hall : All2 ChapA t xs) (K : Post) :
    ∀ m j : Nat, j + m = t.length → (chB t j = false → AtK K (.exit 0) ⟨85, [(0, .agg [ch]), (1, .ptr 0 0 0), (2, .v (.bool false)), (12, .v (.bool false)), (3, intA (t.length : Nat))], []⟩ ⟨[some (.cells 0 0 24 1 false [ch])], 0⟩) → (chB t j = true → ∀ tl HH, assoc 2 tl = some (.v (.bool false)) → AtK K .ret ⟨85, tl, []⟩ HH) →
    Lp (Cx e) 39 none [0, 1, 2, 12, 3] (body39 0) ⟨85, [(0, .agg [ch]), (1, .ptr 0 0 0), (2, .v (.bool false)), (12, .v (.bool false)), (3, intA j)], []⟩ ⟨[some (.cells 0 0 24 1 false [ch])], 0⟩ K := by
  intro m
  induction m with
  | zero =>
    intro j hj h1 h2
    rw [Lp_step]
    generalize hK : loopK (Cx e) 39 none [0, 1, 2, 12, 3] (body39 0) _ K = KK
    unfold body39
    obtain rfl : j = t.length := by omega
    simp only [Tryz.f39, loops, Option.map_some, Option.getD_some, List.nil_append, List.append_nil, List.cons_append, List.getElem?_cons_zero, List.getElem?_cons_succ]
    simp -implicitDefEqProofs only [go_sem, repeatCells, splice, chunk, bsFin, ne_eq, not_true_eq_false, not_false_eq_true, List.headD_cons, Bool.false_eq_true, Nat.le_refl, Nat.zero_mul, Nat.one_mul, Nat.mul_one, assoc_setI, assoc_keep, ↓reduceIte, Nat.reduceEqDiff, Nat.reduceLT, Nat.reduceLeDiff, Nat.reduceAdd, Nat.reduceSub, Nat.reduceMul, decide_true, decide_false, Bool.not_true, Bool.not_false, List.mem_cons, List.not_mem_nil, true_or, or_true, false_or, or_false, and_true, true_and, and_self, List.getElem?_cons_succ, List.getElem?_cons_zero, Option.bind_some, Option.map_some, Option.map_none, List.map_cons, List.map_nil, List.length_cons, List.length_nil, List.filterMap_cons, List.filterMap_nil, List.cons_append, List.nil_append, List.append_nil, Nat.zero_add, Nat.add_zero, List.take_succ_cons, List.take_zero, List.take_nil, List.drop_succ_cons, List.drop_zero, List.drop_nil, List.all_cons, List.all_nil, Bool.and_true, Bool.true_and, Bool.false_and, Bool.and_false, reduceCtorEq, beq_iff_eq, beq_self_eq_true, intA, Int.lt_irrefl, hch.len, ← hall.1]
    subst hK
    simp -implicitDefEqProofs only [go_sem, repeatCells, splice, chunk, bsFin, ne_eq, not_true_eq_false, not_false_eq_true, List.headD_cons, Bool.false_eq_true, Nat.le_refl, Nat.zero_mul, Nat.one_mul, Nat.mul_one, assoc_setI, assoc_keep, ↓reduceIte, Nat.reduceEqDiff, Nat.reduceLT, Nat.reduceLeDiff, Nat.reduceAdd, Nat.reduceSub, Nat.reduceMul, decide_true, decide_false, Bool.not_true, Bool.not_false, List.mem_cons, List.not_mem_nil, true_or, or_true, false_or, or_false, and_true, true_and, and_self, List.getElem?_cons_succ, List.getElem?_cons_zero, Option.bind_some, Option.map_some, Option.map_none, List.map_cons, List.map_nil, List.length_cons, List.length_nil, List.filterMap_cons, List.filterMap_nil, List.cons_append, List.nil_append, List.append_nil, Nat.zero_add, Nat.add_zero, List.take_succ_cons, List.take_zero, List.take_nil, List.drop_succ_cons, List.drop_zero, List.drop_nil, List.all_cons, List.all_nil, Bool.and_true, Bool.true_and, Bool.false_and, Bool.and_false, reduceCtorEq, beq_iff_eq, beq_self_eq_true]
    exact h1 (by unfold chB; rw [List.drop_of_length_le (by simp)]; rfl)
  | succ m ih =>
    intro j hj h1 h2
    rw [Lp_step]
    generalize hK : loopK (Cx e) 39 none [0, 1, 2, 12, 3] (body39 0) _ K = KK
    unfold body39
    have hlt : (j : Int) < ((t.length : Nat) : Int) := by omega
    have hw := wrap_succ j (by omega)
    have hj0 : (0 : Int) ≤ (j : Int) := by omega
    simp only [Tryz.f39, loops, Option.map_some, Option.getD_some, List.nil_append, List.append_nil, List.cons_append, List.getElem?_cons_zero, List.getElem?_cons_succ]
    obtain ⟨c, hs⟩ := at_lt t j (by omega)
    obtain ⟨y, hy, l, rfl, lxs, hl, hls⟩ := hall.get hs
    have hd := chB_step t j c hs
    have hm := List.mem_of_getElem? hs
    have hca := call43 he c.1 0 9999
    have hcb := call43 he (c.2.length : Int) 1 10
    cases c1 : withinB 0 9999 [c.1]
    · rw [c1] at hca
      simp -implicitDefEqProofs only [go_sem, repeatCells, splice, chunk, bsFin, ne_eq, not_true_eq_false, not_false_eq_true, List.headD_cons, Bool.false_eq_true, Nat.le_refl, Nat.zero_mul, Nat.one_mul, Nat.mul_one, assoc_setI, assoc_keep, ↓reduceIte, Nat.reduceEqDiff, Nat.reduceLT, Nat.reduceLeDiff, Nat.reduceAdd, Nat.reduceSub, Nat.reduceMul, decide_true, decide_false, Bool.not_true, Bool.not_false, List.mem_cons, List.not_mem_nil, true_or, or_true, false_or, or_false, and_true, true_and, and_self, List.getElem?_cons_succ, List.getElem?_cons_zero, Option.bind_some, Option.map_some, Option.map_none, List.map_cons, List.map_nil, List.length_cons, List.length_nil, List.filterMap_cons, List.filterMap_nil, List.cons_append, List.nil_append, List.append_nil, Nat.zero_add, Nat.add_zero, List.take_succ_cons, List.take_zero, List.take_nil, List.drop_succ_cons, List.drop_zero, List.drop_nil, List.all_cons, List.all_nil, Bool.and_true, Bool.true_and, Bool.false_and, Bool.and_false, reduceCtorEq, beq_iff_eq, beq_self_eq_true, intA, hlt, hw, hch.len, hch.idx hy, hl.len, hl.cells, hl.flat, hl.bound, ← hls.1, ← hall.1, hca]
      subst hK
      simp -implicitDefEqProofs only [go_sem, repeatCells, splice, chunk, bsFin, ne_eq, not_true_eq_false, not_false_eq_true, List.headD_cons, Bool.false_eq_true, Nat.le_refl, Nat.zero_mul, Nat.one_mul, Nat.mul_one, assoc_setI, assoc_keep, ↓reduceIte, Nat.reduceEqDiff, Nat.reduceLT, Nat.reduceLeDiff, Nat.reduceAdd, Nat.reduceSub, Nat.reduceMul, decide_true, decide_false, Bool.not_true, Bool.not_false, List.mem_cons, List.not_mem_nil, true_or, or_true, false_or, or_false, and_true, true_and, and_self, List.getElem?_cons_succ, List.getElem?_cons_zero, Option.bind_some, Option.map_some, Option.map_none, List.map_cons, List.map_nil, List.length_cons, List.length_nil, List.filterMap_cons, List.filterMap_nil, List.cons_append, List.nil_append, List.append_nil, Nat.zero_add, Nat.add_zero, List.take_succ_cons, List.take_zero, List.take_nil, List.drop_succ_cons, List.drop_zero, List.drop_nil, List.all_cons, List.all_nil, Bool.and_true, Bool.true_and, Bool.false_and, Bool.and_false, reduceCtorEq, beq_iff_eq, beq_self_eq_true]
      exact h2 (by rw [hd]; unfold condC; rw [c1]; rfl) _ _ rfl
    · rw [c1] at hca
      cases c2 : withinB 1 10 [(c.2.length : Int)]
      · rw [c2] at hcb
        simp -implicitDefEqProofs only [go_sem, repeatCells, splice, chunk, bsFin, ne_eq, not_true_eq_false, not_false_eq_true, List.headD_cons, Bool.false_eq_true, Nat.le_refl, Nat.zero_mul, Nat.one_mul, Nat.mul_one, assoc_setI, assoc_keep, ↓reduceIte, Nat.reduceEqDiff, Nat.reduceLT, Nat.reduceLeDiff, Nat.reduceAdd, Nat.reduceSub, Nat.reduceMul, decide_true, decide_false, Bool.not_true, Bool.not_false, List.mem_cons, List.not_mem_nil, true_or, or_true, false_or, or_false, and_true, true_and, and_self, List.getElem?_cons_succ, List.getElem?_cons_zero, Option.bind_some, Option.map_some, Option.map_none, List.map_cons, List.map_nil, List.length_cons, List.length_nil, List.filterMap_cons, List.filterMap_nil, List.cons_append, List.nil_append, List.append_nil, Nat.zero_add, Nat.add_zero, List.take_succ_cons, List.take_zero, List.take_nil, List.drop_succ_cons, List.drop_zero, List.drop_nil, List.all_cons, List.all_nil, Bool.and_true, Bool.true_and, Bool.false_and, Bool.and_false, reduceCtorEq, beq_iff_eq, beq_self_eq_true, intA, hlt, hw, hch.len, hch.idx hy, hl.len, hl.cells, hl.flat, hl.bound, ← hls.1, ← hall.1, hca, hcb]
        subst hK
        simp -implicitDefEqProofs only [go_sem, repeatCells, splice, chunk, bsFin, ne_eq, not_true_eq_false, not_false_eq_true, List.headD_cons, Bool.false_eq_true, Nat.le_refl, Nat.zero_mul, Nat.one_mul, Nat.mul_one, assoc_setI, assoc_keep, ↓reduceIte, Nat.reduceEqDiff, Nat.reduceLT, Nat.reduceLeDiff, Nat.reduceAdd, Nat.reduceSub, Nat.reduceMul, decide_true, decide_false, Bool.not_true, Bool.not_false, List.mem_cons, List.not_mem_nil, true_or, or_true, false_or, or_false, and_true, true_and, and_self, List.getElem?_cons_succ, List.getElem?_cons_zero, Option.bind_some, Option.map_some, Option.map_none, List.map_cons, List.map_nil, List.length_cons, List.length_nil, List.filterMap_cons, List.filterMap_nil, List.cons_append, List.nil_append, List.append_nil, Nat.zero_add, Nat.add_zero, List.take_succ_cons, List.take_zero, List.take_nil, List.drop_succ_cons, List.drop_zero, List.drop_nil, List.all_cons, List.all_nil, Bool.and_true, Bool.true_and, Bool.false_and, Bool.and_false, reduceCtorEq, beq_iff_eq, beq_self_eq_true]
        exact h2 (by rw [hd]; unfold condC; rw [c1, c2]; rfl) _ _ rfl
      · rw [c2] at hcb
        simp -implicitDefEqProofs only [go_sem, repeatCells, splice, chunk, bsFin, ne_eq, not_true_eq_false, not_false_eq_true, List.headD_cons, Bool.false_eq_true, Nat.le_refl, Nat.zero_mul, Nat.one_mul, Nat.mul_one, assoc_setI, assoc_keep, ↓reduceIte, Nat.reduceEqDiff, Nat.reduceLT, Nat.reduceLeDiff, Nat.reduceAdd, Nat.reduceSub, Nat.reduceMul, decide_true, decide_false, Bool.not_true, Bool.not_false, List.mem_cons, List.not_mem_nil, true_or, or_true, false_or, or_false, and_true, true_and, and_self, List.getElem?_cons_succ, List.getElem?_cons_zero, Option.bind_some, Option.map_some, Option.map_none, List.map_cons, List.map_nil, List.length_cons, List.length_nil, List.filterMap_cons, List.filterMap_nil, List.cons_append, List.nil_append, List.append_nil, Nat.zero_add, Nat.add_zero, List.take_succ_cons, List.take_zero, List.take_nil, List.drop_succ_cons, List.drop_zero, List.drop_nil, List.all_cons, List.all_nil, Bool.and_true, Bool.true_and, Bool.false_and, Bool.and_false, reduceCtorEq, beq_iff_eq, beq_self_eq_true, intA, hlt, hw, hch.len, hch.idx hy, hl.len, hl.cells, hl.flat, hl.bound, ← hls.1, ← hall.1, hca, hcb]
        refine loop39i t xs ch hch hall j (by omega) (by omega) c.1 l _ j 0 (by omega) ?_ ?_
        · intro hf
          simp -implicitDefEqProofs only [go_sem, repeatCells, splice, chunk, bsFin, ne_eq, not_true_eq_false, not_false_eq_true, List.headD_cons, Bool.false_eq_true, Nat.le_refl, Nat.zero_mul, Nat.one_mul, Nat.mul_one, assoc_setI, assoc_keep, ↓reduceIte, Nat.reduceEqDiff, Nat.reduceLT, Nat.reduceLeDiff, Nat.reduceAdd, Nat.reduceSub, Nat.reduceMul, decide_true, decide_false, Bool.not_true, Bool.not_false, List.mem_cons, List.not_mem_nil, true_or, or_true, false_or, or_false, and_true, true_and, and_self, List.getElem?_cons_succ, List.getElem?_cons_zero, Option.bind_some, Option.map_some, Option.map_none, List.map_cons, List.map_nil, List.length_cons, List.length_nil, List.filterMap_cons, List.filterMap_nil, List.cons_append, List.nil_append, List.append_nil, Nat.zero_add, Nat.add_zero, List.take_succ_cons, List.take_zero, List.take_nil, List.drop_succ_cons, List.drop_zero, List.drop_nil, List.all_cons, List.all_nil, Bool.and_true, Bool.true_and, Bool.false_and, Bool.and_false, reduceCtorEq, beq_iff_eq, beq_self_eq_true, intA]
          refine loop39l he ch j c.1 lxs l hl c.2 hls (ht.lines c hm) (ht.words c hm) (ht.size c hm) _ c.2.length 0 (by omega) ?_ ?_
          · intro hg
            have hg' : c.2.all lineB = true := by unfold lnB at hg; simpa using hg
            simp -implicitDefEqProofs only [go_sem, repeatCells, splice, chunk, bsFin, ne_eq, not_true_eq_false, not_false_eq_true, List.headD_cons, Bool.false_eq_true, Nat.le_refl, Nat.zero_mul, Nat.one_mul, Nat.mul_one, assoc_setI, assoc_keep, ↓reduceIte, Nat.reduceEqDiff, Nat.reduceLT, Nat.reduceLeDiff, Nat.reduceAdd, Nat.reduceSub, Nat.reduceMul, decide_true, decide_false, Bool.not_true, Bool.not_false, List.mem_cons, List.not_mem_nil, true_or, or_true, false_or, or_false, and_true, true_and, and_self, List.getElem?_cons_succ, List.getElem?_cons_zero, Option.bind_some, Option.map_some, Option.map_none, List.map_cons, List.map_nil, List.length_cons, List.length_nil, List.filterMap_cons, List.filterMap_nil, List.cons_append, List.nil_append, List.append_nil, Nat.zero_add, Nat.add_zero, List.take_succ_cons, List.take_zero, List.take_nil, List.drop_succ_cons, List.drop_zero, List.drop_nil, List.all_cons, List.all_nil, Bool.and_true, Bool.true_and, Bool.false_and, Bool.and_false, reduceCtorEq, beq_iff_eq, beq_self_eq_true, intA, hw]
            subst hK
            simp -implicitDefEqProofs only [go_sem, repeatCells, splice, chunk, bsFin, ne_eq, not_true_eq_false, not_false_eq_true, List.headD_cons, Bool.false_eq_true, Nat.le_refl, Nat.zero_mul, Nat.one_mul, Nat.mul_one, assoc_setI, assoc_keep, ↓reduceIte, Nat.reduceEqDiff, Nat.reduceLT, Nat.reduceLeDiff, Nat.reduceAdd, Nat.reduceSub, Nat.reduceMul, decide_true, decide_false, Bool.not_true, Bool.not_false, List.mem_cons, List.not_mem_nil, true_or, or_true, false_or, or_false, and_true, true_and, and_self, List.getElem?_cons_succ, List.getElem?_cons_zero, Option.bind_some, Option.map_some, Option.map_none, List.map_cons, List.map_nil, List.length_cons, List.length_nil, List.filterMap_cons, List.filterMap_nil, List.cons_append, List.nil_append, List.append_nil, Nat.zero_add, Nat.add_zero, List.take_succ_cons, List.take_zero, List.take_nil, List.drop_succ_cons, List.drop_zero, List.drop_nil, List.all_cons, List.all_nil, Bool.and_true, Bool.true_and, Bool.false_and, Bool.and_false, reduceCtorEq, beq_iff_eq, beq_self_eq_true, trim_at, hch.flat, hch.bound, hch.cells]
            have hd' : chB t j = chB t (j + 1) := by rw [hd]; unfold condC; rw [c1, c2, hf, hg']; rfl
            rw [hd'] at h1 h2
            exact ih (j + 1) (by omega) h1 h2
          · intro hg tl HH htl
            have hg' : c.2.all lineB = false := by unfold lnB at hg; simpa using hg
            subst hK
            simp -implicitDefEqProofs only [go_sem, repeatCells, splice, chunk, bsFin, ne_eq, not_true_eq_false, not_false_eq_true, List.headD_cons, Bool.false_eq_true, Nat.le_refl, Nat.zero_mul, Nat.one_mul, Nat.mul_one, assoc_setI, assoc_keep, ↓reduceIte, Nat.reduceEqDiff, Nat.reduceLT, Nat.reduceLeDiff, Nat.reduceAdd, Nat.reduceSub, Nat.reduceMul, decide_true, decide_false, Bool.not_true, Bool.not_false, List.mem_cons, List.not_mem_nil, true_or, or_true, false_or, or_false, and_true, true_and, and_self, List.getElem?_cons_succ, List.getElem?_cons_zero, Option.bind_some, Option.map_some, Option.map_none, List.map_cons, List.map_nil, List.length_cons, List.length_nil, List.filterMap_cons, List.filterMap_nil, List.cons_append, List.nil_append, List.append_nil, Nat.zero_add, Nat.add_zero, List.take_succ_cons, List.take_zero, List.take_nil, List.drop_succ_cons, List.drop_zero, List.drop_nil, List.all_cons, List.all_nil, Bool.and_true, Bool.true_and, Bool.false_and, Bool.and_false, reduceCtorEq, beq_iff_eq, beq_self_eq_true]
            exact h2 (by rw [hd]; unfold condC; rw [hg', Bool.and_false]; rfl) tl HH htl
        · intro hf tl HH htl
          subst hK
          simp -implicitDefEqProofs only [go_sem, repeatCells, splice, chunk, bsFin, ne_eq, not_true_eq_false, not_false_eq_true, List.headD_cons, Bool.false_eq_true, Nat.le_refl, Nat.zero_mul, Nat.one_mul, Nat.mul_one, assoc_setI, assoc_keep, ↓reduceIte, Nat.reduceEqDiff, Nat.reduceLT, Nat.reduceLeDiff, Nat.reduceAdd, Nat.reduceSub, Nat.reduceMul, decide_true, decide_false, Bool.not_true, Bool.not_false, List.mem_cons, List.not_mem_nil, true_or, or_true, false_or, or_false, and_true, true_and, and_self, List.getElem?_cons_succ, List.getElem?_cons_zero, Option.bind_some, Option.map_some, Option.map_none, List.map_cons, List.map_nil, List.length_cons, List.length_nil, List.filterMap_cons, List.filterMap_nil, List.cons_append, List.nil_append, List.append_nil, Nat.zero_add, Nat.add_zero, List.take_succ_cons, List.take_zero, List.take_nil, List.drop_succ_cons, List.drop_zero, List.drop_nil, List.all_cons, List.all_nil, Bool.and_true, Bool.true_and, Bool.false_and, Bool.and_false, reduceCtorEq, beq_iff_eq, beq_self_eq_true]
          exact h2 (by rw [hd]; unfold condC; rw [c1, c2, hf]; rfl) tl HH htl

set_option maxHeartbeats 1000000 in
theorem ans39 {e : Exts} (he : Quiet e) (t : Txt) (ht : Fits t) (x : AV) (hx : TextA t x) : Ans (Cx e) 39 [x] (.v (.bool (textB t))) := by
  obtain ⟨ch, rfl, xs, hch, hall⟩ := hx
  unfold Ans
  rw [fn_step (fn_39 e) (show Tryz.f39.body = some _ from rfl)]
  have hc := call43 he (t.length : Int) 1 6
  cases h1 : withinB 1 6 [(t.length : Int)]
  · rw [h1] at hc
    simp -implicitDefEqProofs only [Tryz.f39, intA, go_sem, repeatCells, splice, chunk, bsFin, ne_eq, not_true_eq_false, not_false_eq_true, List.headD_cons, Bool.false_eq_true, Nat.le_refl, Nat.zero_mul, Nat.one_mul, Nat.mul_one, assoc_setI, assoc_keep, ↓reduceIte, Nat.reduceEqDiff, Nat.reduceLT, Nat.reduceLeDiff, Nat.reduceAdd, Nat.reduceSub, Nat.reduceMul, decide_true, decide_false, Bool.not_true, Bool.not_false, List.mem_cons, List.not_mem_nil, true_or, or_true, false_or, or_false, and_true, true_and, and_self, List.getElem?_cons_succ, List.getElem?_cons_zero, Option.bind_some, Option.map_some, Option.map_none, List.map_cons, List.map_nil, List.length_cons, List.length_nil, List.filterMap_cons, List.filterMap_nil, List.cons_append, List.nil_append, List.append_nil, Nat.zero_add, Nat.add_zero, List.take_succ_cons, List.take_zero, List.take_nil, List.drop_succ_cons, List.drop_zero, List.drop_nil, List.all_cons, List.all_nil, Bool.and_true, Bool.true_and, Bool.false_and, Bool.and_false, reduceCtorEq, beq_iff_eq, beq_self_eq_true, hch.len, hch.cells, hch.flat, hch.bound, ← hall.1, hc]
    unfold textB; rw [h1]; rfl
  · rw [h1] at hc
    simp -implicitDefEqProofs only [Tryz.f39, intA, go_sem, repeatCells, splice, chunk, bsFin, ne_eq, not_true_eq_false, not_false_eq_true, List.headD_cons, Bool.false_eq_true, Nat.le_refl, Nat.zero_mul, Nat.one_mul, Nat.mul_one, assoc_setI, assoc_keep, ↓reduceIte, Nat.reduceEqDiff, Nat.reduceLT, Nat.reduceLeDiff, Nat.reduceAdd, Nat.reduceSub, Nat.reduceMul, decide_true, decide_false, Bool.not_true, Bool.not_false, List.mem_cons, List.not_mem_nil, true_or, or_true, false_or, or_false, and_true, true_and, and_self, List.getElem?_cons_succ, List.getElem?_cons_zero, Option.bind_some, Option.map_some, Option.map_none, List.map_cons, List.map_nil, List.length_cons, List.length_nil, List.filterMap_cons, List.filterMap_nil, List.cons_append, List.nil_append, List.append_nil, Nat.zero_add, Nat.add_zero, List.take_succ_cons, List.take_zero, List.take_nil, List.drop_succ_cons, List.drop_zero, List.drop_nil, List.all_cons, List.all_nil, Bool.and_true, Bool.true_and, Bool.false_and, Bool.and_false, reduceCtorEq, beq_iff_eq, beq_self_eq_true, hch.len, hch.cells, hch.flat, hch.bound, ← hall.1, hc]
    refine loop39c he t ht xs ch hch ht.chs hall _ t.length 0 (by omega) ?_ ?_
    · intro hf
      have hf' : okFrom t 0 t = true := by unfold chB at hf; simpa using hf
      simp -implicitDefEqProofs only [go_sem, repeatCells, splice, chunk, bsFin, ne_eq, not_true_eq_false, not_false_eq_true, List.headD_cons, Bool.false_eq_true, Nat.le_refl, Nat.zero_mul, Nat.one_mul, Nat.mul_one, assoc_setI, assoc_keep, ↓reduceIte, Nat.reduceEqDiff, Nat.reduceLT, Nat.reduceLeDiff, Nat.reduceAdd, Nat.reduceSub, Nat.reduceMul, decide_true, decide_false, Bool.not_true, Bool.not_false, List.mem_cons, List.not_mem_nil, true_or, or_true, false_or, or_false, and_true, true_and, and_self, List.getElem?_cons_succ, List.getElem?_cons_zero, Option.bind_some, Option.map_some, Option.map_none, List.map_cons, List.map_nil, List.length_cons, List.length_nil, List.filterMap_cons, List.filterMap_nil, List.cons_append, List.nil_append, List.append_nil, Nat.zero_add, Nat.add_zero, List.take_succ_cons, List.take_zero, List.take_nil, List.drop_succ_cons, List.drop_zero, List.drop_nil, List.all_cons, List.all_nil, Bool.and_true, Bool.true_and, Bool.false_and, Bool.and_false, reduceCtorEq, beq_iff_eq, beq_self_eq_true]
      unfold textB; rw [h1, hf']; rfl
    · intro hf tl HH htl
      have hf' : okFrom t 0 t = false := by unfold chB at hf; simpa using hf
      simp -implicitDefEqProofs only [go_sem, repeatCells, splice, chunk, bsFin, ne_eq, not_true_eq_false, not_false_eq_true, List.headD_cons, Bool.false_eq_true, Nat.le_refl, Nat.zero_mul, Nat.one_mul, Nat.mul_one, assoc_setI, assoc_keep, ↓reduceIte, Nat.reduceEqDiff, Nat.reduceLT, Nat.reduceLeDiff, Nat.reduceAdd, Nat.reduceSub, Nat.reduceMul, decide_true, decide_false, Bool.not_true, Bool.not_false, List.mem_cons, List.not_mem_nil, true_or, or_true, false_or, or_false, and_true, true_and, and_self, List.getElem?_cons_succ, List.getElem?_cons_zero, Option.bind_some, Option.map_some, Option.map_none, List.map_cons, List.map_nil, List.length_cons, List.length_nil, List.filterMap_cons, List.filterMap_nil, List.cons_append, List.nil_append, List.append_nil, Nat.zero_add, Nat.add_zero, List.take_succ_cons, List.take_zero, List.take_nil, List.drop_succ_cons, List.drop_zero, List.drop_nil, List.all_cons, List.all_nil, Bool.and_true, Bool.true_and, Bool.false_and, Bool.and_false, reduceCtorEq, beq_iff_eq, beq_self_eq_true, htl]
      unfold textB; rw [h1, hf']; rfl
end Go.Ev
/- Iterators: what a function does that hands things to a loop's body. -/
namespace Go.Ev

/-- more objects behind those that are there -/
def Heap.plus (H : Heap) (E : List (Option AObj)) : Heap := { H with objs := H.objs ++ E }
theorem plus_size (H : Heap) (E : List (Option AObj)) : (H.plus E).size = H.size + E.length := by simp [Heap.plus, Heap.size]
theorem plus_lock (H : Heap) (E : List (Option AObj)) : (H.plus E).lock = H.lock := rfl
theorem plus_nil (H : Heap) : H.plus [] = H := by simp [Heap.plus]
theorem plus_plus (H : Heap) (E F : List (Option AObj)) : (H.plus E).plus F = H.plus (E ++ F) := by simp [Heap.plus]
theorem plus_get {H : Heap} {b : Nat} (E : List (Option AObj)) (h : b < H.size) : (H.plus E).get b = H.get b := by
  unfold Heap.get Heap.plus; simp only; rw [List.getElem?_append_left h]
theorem plus_get_hi {H : Heap} {b : Nat} (E : List (Option AObj)) (h : H.size ≤ b) : (H.plus E).get b = (E[b - H.size]?).join := by
  unfold Heap.get Heap.plus; simp only; rw [List.getElem?_append_right h]; rfl
theorem plus_row {H : Heap} {b v : Nat} (E : List (Option AObj)) (h : b < H.size) : (H.plus E).row b v = H.row b v := by
  unfold Heap.row; rw [plus_get E h]
theorem sop_left {α : Type} (x : α) : ∀ (b : Nat) (l E : List α), b < l.length → setOrPush x b (l ++ E) = setOrPush x b l ++ E
  | _, [], _, h => by simp at h
  | 0, y :: r, E, _ => rfl
  | n + 1, y :: r, E, h => by simp only [List.cons_append, setOrPush]; rw [sop_left x n r E (by simpa using h)]
theorem sop_right {α : Type} (x : α) : ∀ (b : Nat) (l E : List α), l.length ≤ b → setOrPush x b (l ++ E) = l ++ setOrPush x (b - l.length) E
  | b, [], E, _ => rfl
  | 0, y :: r, E, h => by simp at h
  | n + 1, y :: r, E, h => by
    simp only [List.cons_append, setOrPush]; rw [sop_right x n r E (by simpa using h)]; simp
theorem plus_put {H : Heap} {b : Nat} (E : List (Option AObj)) (o : AObj) (h : b < H.size) : (H.plus E).put b o = (H.put b o).plus E := by
  unfold Heap.put Heap.plus; simp only; rw [sop_left _ _ _ _ h]
theorem plus_put_hi {H : Heap} {b : Nat} (E : List (Option AObj)) (o : AObj) (h : H.size ≤ b) : (H.plus E).put b o = H.plus (setOrPush (some o) (b - H.size) E) := by
  unfold Heap.put Heap.plus; simp only; rw [sop_right _ _ _ _ h]; rfl
theorem put_push {H : Heap} (o : AObj) : H.put H.size o = H.plus [some o] := by
  have h := plus_put_hi (H := H) (b := H.size) [] o (Nat.le_refl _)
  rw [plus_nil] at h
  rw [h, Nat.sub_self]; rfl
theorem plus_push {H : Heap} (E : List (Option AObj)) (o : AObj) : (H.plus E).put (H.plus E).size o = H.plus (E ++ [some o]) := by rw [put_push, plus_plus]
theorem put_sizeI {H : Heap} {b : Nat} (o : AObj) (h : b < H.size) : (H.put b o).size = H.size := by
  unfold Heap.put Heap.size at *
  simp only
  have : ∀ (b : Nat) (l : List (Option AObj)), b < l.length → (setOrPush (some o) b l).length = l.length := by
    intro b l
    induction l generalizing b with
    | nil => intro h; simp at h
    | cons x r ih => intro h; cases b with
      | zero => rfl
      | succ n => simp only [setOrPush, List.length_cons]; rw [ih n (by simpa using h)]
  exact this b _ h
theorem trim_plus {H : Heap} (E F : List (Option AObj)) (vs : List AV) (ms : List Nat) {n : Nat} (hn : n = H.size + E.length) : ∃ G, (H.plus (E ++ F)).trim n vs ms = H.plus (E ++ G) := by
  subst hn
  unfold Heap.trim
  split
  · refine ⟨[], ?_⟩
    unfold Heap.plus Heap.size
    simp only [List.append_nil]
    congr 1
    rw [← List.append_assoc, List.take_append_of_le_length (by simp), List.take_of_length_le (by simp)]
  · exact ⟨F, rfl⟩
theorem settle_plus {H : Heap} (E F : List (Option AObj)) {n : Nat} (hn : n = H.size + E.length) : ∃ G, settleH n (H.plus (E ++ F)) = H.plus (E ++ G) := by
  subst hn
  unfold settleH
  split
  · refine ⟨[], ?_⟩
    unfold Heap.plus Heap.size
    simp only [List.append_nil]
    congr 1
    rw [← List.append_assoc, List.take_append_of_le_length (by simp), List.take_of_length_le (by simp)]
  · exact ⟨F, rfl⟩

/-! ### rounds -/
section
variable {C : Cfg} {me : FuncId}

def bodyK (l n : Nat) (K : Bool → Heap → Prop) : Post := fun e _ H3 =>
  ∃ r3 j, loopObj H3 l = some r3 ∧ jumpOf e = some j ∧ K j.isNone ((H3.put l (.loop { r3 with state := if j.isNone then .ready else .done, pending := j })).trim n [] [])
def asgK (C : Cfg) (l n : Nat) (r : ALoop) (K : Bool → Heap → Prop) : Post := fun e a1 H1 =>
  e = .normal ∧ ∃ r1, loopObj H1 l = some r1 ∧ r1.state = .ready ∧ Wp C r.fn (some l) r.body a1 (H1.put l (.loop { r1 with state := .busy })) (bodyK l n K)
theorem round_step {l : Nat} {args : List AV} {H : Heap} {r : ALoop} {K : Bool → Heap → Prop} (hr : loopObj H l = some r) (ha : args.length = r.params.size) (hl : H.lock ≤ l)
    (h : Wp C r.fn (some l) r.assign ⟨r.size, setTmps r.size r.tmps (r.params.toList.zip args), []⟩ H (asgK C l H.size r K)) :
    ∃ b H', lim C (.round l args H) = some (.ret (.v (.bool b)) H') ∧ K b H' := by
  unfold Wp at h
  rw [bindO_iff] at h
  obtain ⟨⟨e1, a1, H1⟩, h1, he, r1, hr1, hs1, h2⟩ := h
  simp only at he h2 hr1
  subst he
  unfold Wp at h2
  rw [bindO_iff] at h2
  obtain ⟨⟨e2, a2, H3⟩, h3, r3, j, hr3, hj, hK⟩ := h2
  simp only at hr3 hj hK
  refine ⟨j.isNone, _, ?_, hK⟩
  rw [lim_eq]
  simp only [taskA, hr]
  rw [if_pos ⟨ha, hl⟩, h1]
  simp only [hr1, hs1, if_true, h3, hr3, hj]

/-- what hands its things over: a loop in memory, what it does with each, as a step of a state -/
structure Src (C : Cfg) (l : Nat) (S : Type) (hp : S → Heap) (stp : S → List AV → Bool × S) (ok : List AV → Prop) (live : S → Prop) (n : Nat) : Prop where
  size : ∀ s, (hp s).size = n
  lt : l < n
  lock : ∀ s, (hp s).lock ≤ l
  step : ∀ s x, live s → ok x → (stp s x).1 = true → live (stp s x).2
  round : ∀ s x E, live s → ok x → ∃ G, lim C (.round l x ((hp s).plus E)) = some (.ret (.v (.bool (stp s x).1)) ((hp (stp s x).2).plus (E ++ G)))

def runIt {S : Type} (stp : S → List AV → Bool × S) : List (List AV) → S → Bool × S
  | [], s => (true, s)
  | x :: r, s => if (stp s x).1 then runIt stp r (stp s x).2 else (false, (stp s x).2)

/-- a function, with what it has captured, that hands over these things -/
def Yields (C : Cfg) (f : FuncId) (cap : List AV) (items : List (List AV)) : Prop :=
  ∀ (l : Nat) (S : Type) (hp : S → Heap) (stp : S → List AV → Bool × S) (ok : List AV → Prop) (live : S → Prop) (n : Nat), Src C l S hp stp ok live n → (∀ x ∈ items, ok x) →
    ∀ s E, live s → ∃ G, lim C (.call f ([.yld l] ++ cap) ((hp s).plus E)) = some (.ret (.tup []) ((hp (runIt stp items s).2).plus (E ++ G)))

theorem runIt_live {C : Cfg} {l : Nat} {S : Type} {hp : S → Heap} {stp : S → List AV → Bool × S} {ok : List AV → Prop} {live : S → Prop} {n : Nat} (h : Src C l S hp stp ok live n) : ∀ (items : List (List AV)) (s : S), (∀ x ∈ items, ok x) → live s → (runIt stp items s).1 = true → live (runIt stp items s).2
  | [], s, _, hl, _ => hl
  | x :: r, s, ho, hl, hr => by
    unfold runIt at hr ⊢
    by_cases hs : (stp s x).1 = true
    · simp only [hs, if_true] at hr ⊢
      exact runIt_live h r _ (fun y hy => ho y (List.mem_cons_of_mem _ hy)) (h.step s x hl (ho x List.mem_cons_self) hs) hr
    · simp only [hs] at hr
      cases hr

theorem callB_yld {f : FuncId} {d : Option Tmp} {args : List AV} {l : Nat} (hy : AV.yld l ∈ args) {H H' : Heap} {v : AV} (h : lim C (.call f args H) = some (.ret v H')) : callB C (lim C) me f d args H = some (v, H'.trim H.size [v] []) := by
  have hb : Nat.beq (boundL args) 0 = false := by
    have h1 : ¬ boundL args ≤ 0 := fun hle => by
      have := boundL_le.1 hle _ hy
      simp [bound] at this
    cases hq : Nat.beq (boundL args) 0
    · rfl
    · exact absurd (Nat.le_of_eq (Nat.eq_of_beq_eq_true hq)) h1
  have hany : args.any isYld = true := List.any_eq_true.2 ⟨_, hy, rfl⟩
  have hk : callKind C me f d args = 0 := by
    unfold callKind; rw [hb, hany]; split <;> rfl
  unfold callB; rw [hk]; simp only [h]

/-- the heap of a loop that begins -/
def atLoop (r : Option Nat) (H : Heap) (d l : Nat) (L : ALoop) : Heap := match r with | none => (H.put d .dfr).put l (.loop L) | some _ => H.put l (.loop L)

theorem wp_range0 {g : Operand} {ps : Array Tmp} {asg body : Code} {a : AAct} {H : Heap} {K : Post} {f : FuncId} {first cap : List AV} (hg : a.eval g = some (.fn (.func f) first cap))
    {v : AV} {H2 : Heap} (hc : callB C (lim C) me f none (first ++ [.yld (H.size + 1)] ++ cap) ((H.put H.size .dfr).put (H.size + 1) (.loop { fn := me, state := .ready, pending := none, size := a.size, tmps := a.tmps, params := ps, assign := asg, body := body, dfr := H.size })) = some (v, H2))
    {r : ALoop} (hr : loopObj H2 (H.size + 1) = some r) (hs : r.state ≠ .busy) (hd : r.dfr = H.size)
    (hK : match r.pending with
      | none => AtK K .normal { a with marks := H.size :: a.marks } (H2.put (H.size + 1) .dead)
      | some .ret => AtK K .ret { a with marks := H.size :: a.marks } (H2.put (H.size + 1) .dead)
      | some (.exit id) => AtK K (.exit id) { a with marks := H.size :: a.marks } (H2.put (H.size + 1) .dead)
      | _ => False) : Wp C me none (.rangeFunc g ps asg body) a H K := by
  unfold Wp
  simp only [codeA, hg, hc, hr]
  rw [if_neg (by rintro (h | h); exact hs h; exact h hd)]
  split at hK
  · rename_i hp; simp only [hp]; exact hK
  · rename_i hp; simp only [hp]; exact hK
  · rename_i hp; simp only [hp]; exact hK
  · exact hK.elim
end
end Go.Ev
namespace Go.Ev
/-! ### the end of memory -/
theorem plus_mid_put {X : Heap} {n : Nat} (hn : X.size = n) (A B : List (Option AObj)) (o : Option AObj) (o' : AObj) : (X.plus (A ++ o :: B)).put (n + A.length) o' = X.plus (A ++ some o' :: B) := by
  subst hn
  rw [plus_put_hi _ _ (by omega)]
  congr 1
  rw [sop_right _ _ _ _ (by omega)]
  congr 1
  rw [show X.size + A.length - X.size - A.length = 0 by omega]; rfl
theorem plus_mid_get {X : Heap} {n : Nat} (hn : X.size = n) (A B : List (Option AObj)) (o : Option AObj) : (X.plus (A ++ o :: B)).get (n + A.length) = o := by
  subst hn
  rw [plus_get_hi _ (by omega)]
  rw [show X.size + A.length - X.size = A.length by omega, List.getElem?_append_right (Nat.le_refl _), Nat.sub_self]; rfl
theorem plus_put_end {X : Heap} {n : Nat} (hn : X.size = n) (E : List (Option AObj)) (o : AObj) : (X.plus E).put (n + E.length) o = X.plus (E ++ [some o]) := by
  subst hn; rw [← plus_size]; exact plus_push E o
theorem plus_row_at {X : Heap} {n : Nat} (hn : X.size = n) (E G : List (Option AObj)) (v w m e sz g) (cs : List AV) : (X.plus (E ++ some (.cells w m e sz g cs) :: G)).row (n + E.length) v = if w = v then some (m, e, sz, g, cs) else none := by
  subst hn
  unfold Heap.row
  rw [plus_get_hi _ (by omega)]
  have : (E ++ some (AObj.cells w m e sz g cs) :: G)[X.size + E.length - X.size]? = some (some (.cells w m e sz g cs)) := by
    rw [show X.size + E.length - X.size = E.length by omega, List.getElem?_append_right (Nat.le_refl _), Nat.sub_self]; rfl
  rw [this]; rfl
theorem plus_store_end {X : Heap} {n : Nat} (hn : X.size = n) (hl : X.lock ≤ n) (E : List (Option AObj)) (v m e sz g) (cs : List AV) (off : Nat) (xs : List AV) :
    storeCells (X.plus (E ++ [some (.cells v m e sz g cs)])) (n + E.length) v off xs = if off + xs.length ≤ cs.length ∧ xs.all AV.flat = true then some (X.plus (E ++ [some (.cells v (Nat.max m (boundL xs)) e sz g (splice off xs cs))])) else none := by
  unfold storeCells
  rw [plus_row_at hn E [], if_pos rfl]
  simp only
  have hlk : (X.plus (E ++ [some (AObj.cells v m e sz g cs)])).lock ≤ n + E.length := by rw [plus_lock]; omega
  simp only [hlk, true_and]
  split
  · congr 1
    subst hn
    rw [plus_put_hi _ _ (by omega)]
    congr 1
    rw [sop_right _ _ _ _ (by omega)]
    congr 1
    rw [show X.size + E.length - X.size - E.length = 0 by omega]; rfl
  · rfl
theorem settle_end {X : Heap} {n : Nat} (hn : X.size = n) (E : List (Option AObj)) (o : AObj) : settleH (n + E.length) (X.plus (E ++ [some o])) = X.plus (E ++ [some o]) := by
  unfold settleH
  rw [if_neg]
  subst hn
  have : (X.plus (E ++ [some o])).objs.drop (X.size + E.length) = [some o] := by
    unfold Heap.plus Heap.size
    simp only
    rw [← List.append_assoc, List.drop_append_of_le_length (by simp), List.drop_of_length_le (by simp), List.nil_append]
  rw [this]; simp
theorem settle_none {X : Heap} {n : Nat} (hn : X.size = n) (E : List (Option AObj)) : settleH (n + E.length) (X.plus E) = X.plus E := by
  subst hn; rw [← plus_size]; exact settle_size _

theorem runIt_append {S : Type} (stp : S → List AV → Bool × S) : ∀ (a b : List (List AV)) (s : S), runIt stp (a ++ b) s = if (runIt stp a s).1 then runIt stp b (runIt stp a s).2 else runIt stp a s
  | [], b, s => rfl
  | x :: r, b, s => by
    simp only [List.cons_append, runIt]
    by_cases h : (stp s x).1 = true
    · simp only [h, if_true]; exact runIt_append stp r b _
    · simp only [h, Bool.false_eq_true, if_false]
end Go.Ev
namespace Go.Ev
theorem at_trim {H : Heap} {E F : List (Option AObj)} {vs : List AV} {ms : List Nat} {n : Nat} (Q : Heap → Prop) (hn : n = H.size + E.length) (h : ∀ G, Q (H.plus (E ++ G))) : Q ((H.plus (E ++ F)).trim n vs ms) := by
  obtain ⟨G, hG⟩ := trim_plus E F vs ms hn
  rw [hG]; exact h G
end Go.Ev
namespace Go.Ev
theorem plus_store_mid {X : Heap} {n : Nat} (hn : X.size = n) (hl : X.lock ≤ n) (A G : List (Option AObj)) (v m e sz g) (cs : List AV) (off : Nat) (xs : List AV) :
    storeCells (X.plus (A ++ some (.cells v m e sz g cs) :: G)) (n + A.length) v off xs = if off + xs.length ≤ cs.length ∧ xs.all AV.flat = true then some (X.plus (A ++ some (.cells v (Nat.max m (boundL xs)) e sz g (splice off xs cs)) :: G)) else none := by
  unfold storeCells
  rw [plus_row_at hn A G, if_pos rfl]
  simp only
  have hlk : (X.plus (A ++ some (AObj.cells v m e sz g cs) :: G)).lock ≤ n + A.length := by rw [plus_lock]; omega
  simp only [hlk, true_and]
  split
  · rw [plus_mid_put hn]
  · rfl
section
variable {C : Cfg}
theorem asgK_mk {l n : Nat} {r r1 : ALoop} {K : Bool → Heap → Prop} {a1 : AAct} {H1 : Heap} (h1 : loopObj H1 l = some r1) (hs : r1.state = .ready) (h : Wp C r.fn (some l) r.body a1 (H1.put l (.loop { r1 with state := .busy })) (bodyK l n K)) : AtK (asgK C l n r K) .normal a1 H1 :=
  ⟨rfl, r1, h1, hs, h⟩
theorem bodyK_mk {l n : Nat} {K : Bool → Heap → Prop} {e : AExit} {a : AAct} {H3 : Heap} {r3 : ALoop} {j : Option Code} (h1 : loopObj H3 l = some r3) (hj : jumpOf e = some j) (h : K j.isNone ((H3.put l (.loop { r3 with state := if j.isNone then .ready else .done, pending := j })).trim n [] [])) : AtK (bodyK l n K) e a H3 :=
  ⟨r3, j, h1, hj, h⟩

/-! ### an iterator over an iterator: what it lays before it begins -/
def wBox (l t : Nat) : AObj := .cells 0 (l + 1) t 1 false [.yld l]
def hq {S : Type} (hp : S → Heap) (E : List (Option AObj)) (l t : Nat) (q : S × ALoop) : Heap := (hp q.1).plus (E ++ [some (wBox l t), some .dfr, some (.loop q.2)])
variable {l t n : Nat} {S : Type} {hp : S → Heap} {stp : S → List AV → Bool × S} {ok : List AV → Prop} {live : S → Prop}
theorem hq_size (h : Src C l S hp stp ok live n) (E : List (Option AObj)) (q : S × ALoop) : (hq hp E l t q).size = n + E.length + 3 := by
  unfold hq; rw [plus_size, h.size]; simp; omega
theorem hq_lock (h : Src C l S hp stp ok live n) (E : List (Option AObj)) (q : S × ALoop) : (hq hp E l t q).lock ≤ n := by
  unfold hq; rw [plus_lock]; have := h.lock q.1; have := h.lt; omega
theorem hq_row (h : Src C l S hp stp ok live n) (E : List (Option AObj)) (q : S × ALoop) (B : List (Option AObj)) : ((hq hp E l t q).plus B).row (n + E.length) 0 = some (l + 1, t, 1, false, [.yld l]) := by
  unfold hq; rw [plus_plus, List.append_assoc]
  exact plus_row_at (h.size q.1) E _ 0 0 _ _ _ _ _
theorem hq_loop (h : Src C l S hp stp ok live n) (E : List (Option AObj)) (q : S × ALoop) (B : List (Option AObj)) : loopObj ((hq hp E l t q).plus B) (n + E.length + 2) = some q.2 := by
  unfold hq; rw [plus_plus]
  have := plus_mid_get (h.size q.1) (E ++ [some (wBox l t), some .dfr]) B (some (.loop q.2))
  have e : E ++ [some (wBox l t), some AObj.dfr, some (AObj.loop q.2)] ++ B = E ++ [some (wBox l t), some .dfr] ++ some (.loop q.2) :: B := by simp
  rw [e]
  unfold loopObj
  rw [show n + E.length + 2 = n + (E ++ [some (wBox l t), some AObj.dfr]).length by simp; omega, this]
theorem hq_put (h : Src C l S hp stp ok live n) (E : List (Option AObj)) (s : S) (L L' : ALoop) (B : List (Option AObj)) : ((hq hp E l t (s, L)).plus B).put (n + E.length + 2) (.loop L') = (hq hp E l t (s, L')).plus B := by
  unfold hq; rw [plus_plus, plus_plus]
  have := plus_mid_put (h.size s) (E ++ [some (wBox l t), some .dfr]) B (some (.loop L)) (.loop L')
  have e : ∀ L, E ++ [some (wBox l t), some AObj.dfr, some (AObj.loop L)] ++ B = E ++ [some (wBox l t), some .dfr] ++ some (.loop L) :: B := by intro L; simp
  rw [e, e, show n + E.length + 2 = n + (E ++ [some (wBox l t), some AObj.dfr]).length by simp; omega]
  exact this
theorem hq_round (h : Src C l S hp stp ok live n) (E : List (Option AObj)) (s : S) (L : ALoop) (B : List (Option AObj)) (x : List AV) (hl : live s) (hx : ok x) :
    ∃ G, lim C (.round l x ((hq hp E l t (s, L)).plus B)) = some (.ret (.v (.bool (stp s x).1)) ((hq hp E l t ((stp s x).2, L)).plus (B ++ G))) := by
  obtain ⟨G, hG⟩ := h.round s x (E ++ [some (wBox l t), some .dfr, some (.loop L)] ++ B) hl hx
  refine ⟨G, ?_⟩
  unfold hq
  rw [plus_plus, plus_plus, ← List.append_assoc]
  exact hG
end
end Go.Ev
namespace Go.Ev
open Go.Proofs
set_option maxRecDepth 100000
set_option linter.unusedSimpArgs false
def placeA (i k : Nat) (w : Int) : AV := .agg [intA i, intA k, intA w]
def slElems (x : AV) : List AV := match x with | .vs _ xs _ => xs | _ => []
theorem SlOf.elems {sz : Nat} {xs : List AV} {x : AV} (h : SlOf sz xs x) : slElems x = xs := by
  rcases h with ⟨rfl, rfl⟩ | ⟨cap, rfl⟩ <;> rfl
def linesOf (y : AV) : List AV := match y with | .agg [_, l] => slElems l | _ => []
def lineIts (i : Nat) : Nat → List AV → List (List AV)
  | _, [] => []
  | k, x :: r => [placeA i k 0, x] :: lineIts i (k + 1) r
def chapIts : Nat → List AV → List (List AV)
  | _, [] => []
  | i, y :: r => lineIts i 0 (linesOf y) ++ chapIts (i + 1) r
noncomputable def body88 (n : Nat) : Code := ((Tryz.f88.body.map loops).getD [])[n]?.getD .skip
theorem lineIts_drop (i : Nat) (xs : List AV) (j : Nat) (x : AV) (h : xs[j]? = some x) : lineIts i j (xs.drop j) = [placeA i j 0, x] :: lineIts i (j + 1) (xs.drop (j + 1)) := by
  obtain ⟨hj, rfl⟩ := List.getElem?_eq_some_iff.1 h
  rw [List.drop_eq_getElem_cons hj]; rfl
set_option maxHeartbeats 4000000 in
theorem loop88b {e : Exts} (ch : AV) (xs lxs : List AV) (id : Int) (l0 : AV) (hl0 : SlOf 1 lxs l0) (hlc : ∀ x ∈ lxs, x.cells = [x]) (hlen : lxs.length < 2 ^ 63)
    (l : Nat) (S : Type) (hp : S → Heap) (stp : S → List AV → Bool × S) (ok : List AV → Prop) (live : S → Prop) (n : Nat) (hsrc : Src (Cx e) l S hp stp ok live n) (i b mm : Nat) (F : List (Option AObj))
    (hb : ∀ s G, ((hp s).plus (F ++ G)).row b 0 = some (mm, 46, 1, false, [intA id, l0])) (hok : ∀ j x, lxs[j]? = some x → ok [placeA i j 0, x]) (K : Post) :
    ∀ m j s F', j + m = lxs.length → (∃ G, F' = F ++ G) → live s →
    ((runIt stp (lineIts i j (lxs.drop j)) s).1 = true → ∀ G, AtK K (.exit 2) ⟨34, [(0, .yld l), (1, .ro (.agg [ch]) 0), (8, ch), (9, intA xs.length), (10, intA i), (11, .v (.bool true)), (4, .ptr b 0 0), (3, intA i), (17, intA lxs.length), (18, intA lxs.length)], []⟩ ((hp (runIt stp (lineIts i j (lxs.drop j)) s).2).plus (F ++ G))) →
    ((runIt stp (lineIts i j (lxs.drop j)) s).1 = false → ∀ G tl, AtK K .ret ⟨34, tl, []⟩ ((hp (runIt stp (lineIts i j (lxs.drop j)) s).2).plus (F ++ G))) →
    Lp (Cx e) 88 none [0, 1, 8, 9, 10, 11, 4, 3, 17, 18] (body88 1) ⟨34, [(0, .yld l), (1, .ro (.agg [ch]) 0), (8, ch), (9, intA xs.length), (10, intA i), (11, .v (.bool true)), (4, .ptr b 0 0), (3, intA i), (17, intA lxs.length), (18, intA j)], []⟩ ((hp s).plus F') K := by
  have hn := hsrc.size
  intro m
  induction m with
  | zero =>
    intro j s F' hj hF hli h1 h2
    obtain ⟨G0, rfl⟩ := hF
    rw [Lp_step]
    generalize hK : loopK (Cx e) 88 none [0, 1, 8, 9, 10, 11, 4, 3, 17, 18] (body88 1) _ K = KK
    unfold body88
    obtain rfl : j = lxs.length := by omega
    simp only [Tryz.f88, loops, Option.map_some, Option.getD_some, List.nil_append, List.append_nil, List.cons_append, List.getElem?_cons_zero, List.getElem?_cons_succ]
    simp -implicitDefEqProofs only [go_sem, repeatCells, splice, chunk, bsFin, ne_eq, not_true_eq_false, not_false_eq_true, List.headD_cons, Bool.false_eq_true, Nat.le_refl, Nat.zero_mul, Nat.one_mul, Nat.mul_one, assoc_setI, assoc_keep, ↓reduceIte, Nat.reduceEqDiff, Nat.reduceLT, Nat.reduceLeDiff, Nat.reduceAdd, Nat.reduceSub, Nat.reduceMul, decide_true, decide_false, Bool.not_true, Bool.not_false, List.mem_cons, List.not_mem_nil, true_or, or_true, false_or, or_false, and_true, true_and, and_self, List.getElem?_cons_succ, List.getElem?_cons_zero, Option.bind_some, Option.map_some, Option.map_none, List.map_cons, List.map_nil, List.length_cons, List.length_nil, List.filterMap_cons, List.filterMap_nil, List.cons_append, List.nil_append, List.append_nil, Nat.zero_add, Nat.add_zero, List.take_succ_cons, List.take_zero, List.take_nil, List.drop_succ_cons, List.drop_zero, List.drop_nil, List.all_cons, List.all_nil, Bool.and_true, Bool.true_and, Bool.false_and, Bool.and_false, reduceCtorEq, beq_iff_eq, beq_self_eq_true, intA, Int.lt_irrefl, plus_size, hn, settle_none (hn _)]
    subst hK
    simp -implicitDefEqProofs only [go_sem, repeatCells, splice, chunk, bsFin, ne_eq, not_true_eq_false, not_false_eq_true, List.headD_cons, Bool.false_eq_true, Nat.le_refl, Nat.zero_mul, Nat.one_mul, Nat.mul_one, assoc_setI, assoc_keep, ↓reduceIte, Nat.reduceEqDiff, Nat.reduceLT, Nat.reduceLeDiff, Nat.reduceAdd, Nat.reduceSub, Nat.reduceMul, decide_true, decide_false, Bool.not_true, Bool.not_false, List.mem_cons, List.not_mem_nil, true_or, or_true, false_or, or_false, and_true, true_and, and_self, List.getElem?_cons_succ, List.getElem?_cons_zero, Option.bind_some, Option.map_some, Option.map_none, List.map_cons, List.map_nil, List.length_cons, List.length_nil, List.filterMap_cons, List.filterMap_nil, List.cons_append, List.nil_append, List.append_nil, Nat.zero_add, Nat.add_zero, List.take_succ_cons, List.take_zero, List.take_nil, List.drop_succ_cons, List.drop_zero, List.drop_nil, List.all_cons, List.all_nil, Bool.and_true, Bool.true_and, Bool.false_and, Bool.and_false, reduceCtorEq, beq_iff_eq, beq_self_eq_true, plus_size, hn]
    rw [List.drop_of_length_le (Nat.le_refl _)] at h1 h2
    have : ((hp s).plus (F ++ G0)).trim (n + (F ++ G0).length) = fun vs ms => (hp s).plus (F ++ G0) := by
      funext vs ms
      rw [show n + (F ++ G0).length = ((hp s).plus (F ++ G0)).size by rw [plus_size, hn]]; exact trim_size _ _ _
    rw [this]
    exact h1 rfl G0
  | succ m ih =>
    intro j s F' hj hF hli h1 h2
    obtain ⟨G0, hG0⟩ := hF
    have hrow : ∀ s, ((hp s).plus F').row b 0 = some (mm, 46, 1, false, [.v (.int .i64 id), l0]) := fun s => by rw [hG0]; exact hb s G0
    obtain ⟨x, hx⟩ := at_lt lxs j (by omega)
    have hxc := hlc x (List.mem_of_getElem? hx)
    have hdr := lineIts_drop i lxs j x hx
    obtain ⟨G1, hR⟩ := hsrc.round s [placeA i j 0, x] F' hli (hok j x hx)
    unfold placeA intA at hR
    have hlt : (j : Int) < ((lxs.length : Nat) : Int) := by omega
    have hw := wrap_succ j (by omega)
    rw [Lp_step]
    generalize hK : loopK (Cx e) 88 none [0, 1, 8, 9, 10, 11, 4, 3, 17, 18] (body88 1) _ K = KK
    unfold body88
    simp only [Tryz.f88, loops, Option.map_some, Option.getD_some, List.nil_append, List.append_nil, List.cons_append, List.getElem?_cons_zero, List.getElem?_cons_succ]
    obtain ⟨G2, hS⟩ := settle_plus (H := hp (stp s [placeA i j 0, x]).2) F' G1 (n := n + F'.length) (by rw [hn])
    unfold placeA intA at hS
    rw [hdr] at h1 h2
    unfold runIt at h1 h2
    by_cases hst : (stp s [placeA i j 0, x]).1 = true
    · have hlv := hsrc.step s _ hli (hok j x hx) hst
      rw [hst] at h1 h2
      simp only [if_true] at h1 h2
      unfold placeA intA at hst
      rw [hst] at hR
      simp -implicitDefEqProofs only [go_sem, repeatCells, splice, chunk, bsFin, ne_eq, not_true_eq_false, not_false_eq_true, List.headD_cons, Bool.false_eq_true, Nat.le_refl, Nat.zero_mul, Nat.one_mul, Nat.mul_one, assoc_setI, assoc_keep, ↓reduceIte, Nat.reduceEqDiff, Nat.reduceLT, Nat.reduceLeDiff, Nat.reduceAdd, Nat.reduceSub, Nat.reduceMul, decide_true, decide_false, Bool.not_true, Bool.not_false, List.mem_cons, List.not_mem_nil, true_or, or_true, false_or, or_false, and_true, true_and, and_self, List.getElem?_cons_succ, List.getElem?_cons_zero, Option.bind_some, Option.map_some, Option.map_none, List.map_cons, List.map_nil, List.length_cons, List.length_nil, List.filterMap_cons, List.filterMap_nil, List.cons_append, List.nil_append, List.append_nil, Nat.zero_add, Nat.add_zero, List.take_succ_cons, List.take_zero, List.take_nil, List.drop_succ_cons, List.drop_zero, List.drop_nil, List.all_cons, List.all_nil, Bool.and_true, Bool.true_and, Bool.false_and, Bool.and_false, reduceCtorEq, beq_iff_eq, beq_self_eq_true, intA, hlt, hw, plus_size, hn, settle_none (hn _), hrow, hl0.idx hx, hxc, hR, hS]
      subst hK
      simp -implicitDefEqProofs only [go_sem, repeatCells, splice, chunk, bsFin, ne_eq, not_true_eq_false, not_false_eq_true, List.headD_cons, Bool.false_eq_true, Nat.le_refl, Nat.zero_mul, Nat.one_mul, Nat.mul_one, assoc_setI, assoc_keep, ↓reduceIte, Nat.reduceEqDiff, Nat.reduceLT, Nat.reduceLeDiff, Nat.reduceAdd, Nat.reduceSub, Nat.reduceMul, decide_true, decide_false, Bool.not_true, Bool.not_false, List.mem_cons, List.not_mem_nil, true_or, or_true, false_or, or_false, and_true, true_and, and_self, List.getElem?_cons_succ, List.getElem?_cons_zero, Option.bind_some, Option.map_some, Option.map_none, List.map_cons, List.map_nil, List.length_cons, List.length_nil, List.filterMap_cons, List.filterMap_nil, List.cons_append, List.nil_append, List.append_nil, Nat.zero_add, Nat.add_zero, List.take_succ_cons, List.take_zero, List.take_nil, List.drop_succ_cons, List.drop_zero, List.drop_nil, List.all_cons, List.all_nil, Bool.and_true, Bool.true_and, Bool.false_and, Bool.and_false, reduceCtorEq, beq_iff_eq, beq_self_eq_true, plus_size, hn]
      refine at_trim (fun X => Lp _ _ _ _ _ _ X _) (by simp only [hn]) fun G3 => ?_
      exact ih (j + 1) _ (F' ++ G3) (by omega) ⟨G0 ++ G3, by rw [hG0, List.append_assoc]⟩ hlv h1 h2
    · have hst' : (stp s [placeA i j 0, x]).1 = false := by simpa using hst
      rw [hst'] at h1 h2
      simp only [Bool.false_eq_true, if_false] at h1 h2
      unfold placeA intA at hst'
      rw [hst'] at hR
      simp -implicitDefEqProofs only [go_sem, repeatCells, splice, chunk, bsFin, ne_eq, not_true_eq_false, not_false_eq_true, List.headD_cons, Bool.false_eq_true, Nat.le_refl, Nat.zero_mul, Nat.one_mul, Nat.mul_one, assoc_setI, assoc_keep, ↓reduceIte, Nat.reduceEqDiff, Nat.reduceLT, Nat.reduceLeDiff, Nat.reduceAdd, Nat.reduceSub, Nat.reduceMul, decide_true, decide_false, Bool.not_true, Bool.not_false, List.mem_cons, List.not_mem_nil, true_or, or_true, false_or, or_false, and_true, true_and, and_self, List.getElem?_cons_succ, List.getElem?_cons_zero, Option.bind_some, Option.map_some, Option.map_none, List.map_cons, List.map_nil, List.length_cons, List.length_nil, List.filterMap_cons, List.filterMap_nil, List.cons_append, List.nil_append, List.append_nil, Nat.zero_add, Nat.add_zero, List.take_succ_cons, List.take_zero, List.take_nil, List.drop_succ_cons, List.drop_zero, List.drop_nil, List.all_cons, List.all_nil, Bool.and_true, Bool.true_and, Bool.false_and, Bool.and_false, reduceCtorEq, beq_iff_eq, beq_self_eq_true, intA, hlt, hw, plus_size, hn, settle_none (hn _), hrow, hl0.idx hx, hxc, hR, hS]
      subst hK
      simp -implicitDefEqProofs only [go_sem, repeatCells, splice, chunk, bsFin, ne_eq, not_true_eq_false, not_false_eq_true, List.headD_cons, Bool.false_eq_true, Nat.le_refl, Nat.zero_mul, Nat.one_mul, Nat.mul_one, assoc_setI, assoc_keep, ↓reduceIte, Nat.reduceEqDiff, Nat.reduceLT, Nat.reduceLeDiff, Nat.reduceAdd, Nat.reduceSub, Nat.reduceMul, decide_true, decide_false, Bool.not_true, Bool.not_false, List.mem_cons, List.not_mem_nil, true_or, or_true, false_or, or_false, and_true, true_and, and_self, List.getElem?_cons_succ, List.getElem?_cons_zero, Option.bind_some, Option.map_some, Option.map_none, List.map_cons, List.map_nil, List.length_cons, List.length_nil, List.filterMap_cons, List.filterMap_nil, List.cons_append, List.nil_append, List.append_nil, Nat.zero_add, Nat.add_zero, List.take_succ_cons, List.take_zero, List.take_nil, List.drop_succ_cons, List.drop_zero, List.drop_nil, List.all_cons, List.all_nil, Bool.and_true, Bool.true_and, Bool.false_and, Bool.and_false, reduceCtorEq, beq_iff_eq, beq_self_eq_true]
      rw [hG0, List.append_assoc]
      exact h2 trivial _ _
theorem lineIts_of (i : Nat) : ∀ (l : List AV) (k : Nat) (x : List AV), x ∈ lineIts i k l → ∃ j z, l[j]? = some z ∧ x = [placeA i (k + j) 0, z]
  | [], _, _, h => by simp [lineIts] at h
  | y :: r, k, x, h => by
    rcases List.mem_cons.1 h with rfl | h
    · exact ⟨0, y, rfl, rfl⟩
    · obtain ⟨j, z, h1, h2⟩ := lineIts_of i r (k + 1) x h
      exact ⟨j + 1, z, by simpa using h1, by rw [h2, show k + 1 + j = k + (j + 1) by omega]⟩
/-- a chapter in memory that nothing turns -/
def OkCh (y : AV) : Prop := ∃ id l0 lxs, y = .agg [intA id, l0] ∧ SlOf 1 lxs l0 ∧ (∀ x ∈ lxs, x.cells = [x]) ∧ lxs.length < 2 ^ 63
theorem chapIts_drop (xs : List AV) (i : Nat) (y : AV) (h : xs[i]? = some y) : chapIts i (xs.drop i) = lineIts i 0 (linesOf y) ++ chapIts (i + 1) (xs.drop (i + 1)) := by
  obtain ⟨hj, rfl⟩ := List.getElem?_eq_some_iff.1 h
  rw [List.drop_eq_getElem_cons hj]; rfl
set_option maxHeartbeats 4000000 in
theorem loop88a {e : Exts} (ch : AV) (xs : List AV) (hch : SlOf 2 xs ch) (hall : ∀ y ∈ xs, OkCh y) (hlen : xs.length < 2 ^ 63)
    (l : Nat) (S : Type) (hp : S → Heap) (stp : S → List AV → Bool × S) (ok : List AV → Prop) (live : S → Prop) (n : Nat) (hsrc : Src (Cx e) l S hp stp ok live n) (E : List (Option AObj))
    (hok : ∀ i y j x, xs[i]? = some y → (linesOf y)[j]? = some x → ok [placeA i j 0, x]) (K : Post) :
    ∀ m i s F, i + m = xs.length → (∃ G, F = E ++ G) → live s →
    ((runIt stp (chapIts i (xs.drop i)) s).1 = true → ∀ G, AtK K (.exit 0) ⟨34, [(0, .yld l), (1, .ro (.agg [ch]) 0), (8, ch), (9, intA xs.length), (10, intA xs.length)], []⟩ ((hp (runIt stp (chapIts i (xs.drop i)) s).2).plus (E ++ G))) →
    ((runIt stp (chapIts i (xs.drop i)) s).1 = false → ∀ G tl, AtK K .ret ⟨34, tl, []⟩ ((hp (runIt stp (chapIts i (xs.drop i)) s).2).plus (E ++ G))) →
    Lp (Cx e) 88 none [0, 1, 8, 9, 10] (body88 0) ⟨34, [(0, .yld l), (1, .ro (.agg [ch]) 0), (8, ch), (9, intA xs.length), (10, intA i)], []⟩ ((hp s).plus F) K := by
  have hn := hsrc.size
  have hlk : ∀ s, (hp s).lock ≤ n := fun s => by have := hsrc.lock s; have := hsrc.lt; omega
  intro m
  induction m with
  | zero =>
    intro j s F' hj hF hli h1 h2
    obtain ⟨G0, rfl⟩ := hF
    rw [Lp_step]
    generalize hK : loopK (Cx e) 88 none [0, 1, 8, 9, 10] (body88 0) _ K = KK
    unfold body88
    obtain rfl : j = xs.length := by omega
    simp only [Tryz.f88, loops, Option.map_some, Option.getD_some, List.nil_append, List.append_nil, List.cons_append, List.getElem?_cons_zero, List.getElem?_cons_succ]
    simp -implicitDefEqProofs only [go_sem, repeatCells, splice, chunk, bsFin, ne_eq, not_true_eq_false, not_false_eq_true, List.headD_cons, Bool.false_eq_true, Nat.le_refl, Nat.zero_mul, Nat.one_mul, Nat.mul_one, assoc_setI, assoc_keep, ↓reduceIte, Nat.reduceEqDiff, Nat.reduceLT, Nat.reduceLeDiff, Nat.reduceAdd, Nat.reduceSub, Nat.reduceMul, decide_true, decide_false, Bool.not_true, Bool.not_false, List.mem_cons, List.not_mem_nil, true_or, or_true, false_or, or_false, and_true, true_and, and_self, List.getElem?_cons_succ, List.getElem?_cons_zero, Option.bind_some, Option.map_some, Option.map_none, List.map_cons, List.map_nil, List.length_cons, List.length_nil, List.filterMap_cons, List.filterMap_nil, List.cons_append, List.nil_append, List.append_nil, Nat.zero_add, Nat.add_zero, List.take_succ_cons, List.take_zero, List.take_nil, List.drop_succ_cons, List.drop_zero, List.drop_nil, List.all_cons, List.all_nil, Bool.and_true, Bool.true_and, Bool.false_and, Bool.and_false, reduceCtorEq, beq_iff_eq, beq_self_eq_true, intA, Int.lt_irrefl, plus_size, hn, settle_none (hn _)]
    subst hK
    simp -implicitDefEqProofs only [go_sem, repeatCells, splice, chunk, bsFin, ne_eq, not_true_eq_false, not_false_eq_true, List.headD_cons, Bool.false_eq_true, Nat.le_refl, Nat.zero_mul, Nat.one_mul, Nat.mul_one, assoc_setI, assoc_keep, ↓reduceIte, Nat.reduceEqDiff, Nat.reduceLT, Nat.reduceLeDiff, Nat.reduceAdd, Nat.reduceSub, Nat.reduceMul, decide_true, decide_false, Bool.not_true, Bool.not_false, List.mem_cons, List.not_mem_nil, true_or, or_true, false_or, or_false, and_true, true_and, and_self, List.getElem?_cons_succ, List.getElem?_cons_zero, Option.bind_some, Option.map_some, Option.map_none, List.map_cons, List.map_nil, List.length_cons, List.length_nil, List.filterMap_cons, List.filterMap_nil, List.cons_append, List.nil_append, List.append_nil, Nat.zero_add, Nat.add_zero, List.take_succ_cons, List.take_zero, List.take_nil, List.drop_succ_cons, List.drop_zero, List.drop_nil, List.all_cons, List.all_nil, Bool.and_true, Bool.true_and, Bool.false_and, Bool.and_false, reduceCtorEq, beq_iff_eq, beq_self_eq_true, plus_size, hn]
    rw [List.drop_of_length_le (Nat.le_refl _)] at h1 h2
    have : ((hp s).plus (E ++ G0)).trim (n + (E ++ G0).length) = fun vs ms => (hp s).plus (E ++ G0) := by
      funext vs ms
      rw [show n + (E ++ G0).length = ((hp s).plus (E ++ G0)).size by rw [plus_size, hn]]; exact trim_size _ _ _
    rw [this]
    exact h1 rfl G0
  | succ m ih =>
    intro i s F hj hF hlv h1 h2
    obtain ⟨G0, hG0⟩ := hF
    obtain ⟨y, hy⟩ := at_lt xs i (by omega)
    have hdr := chapIts_drop xs i y hy
    obtain ⟨id, l0, lxs, rfl, hl0, hlc, hll⟩ := hall y (List.mem_of_getElem? hy)
    have hli : linesOf (.agg [intA id, l0]) = lxs := hl0.elems
    have hlt : (i : Int) < ((xs.length : Nat) : Int) := by omega
    have hw := wrap_succ i (by omega)
    rw [hdr, hli] at h1 h2
    rw [runIt_append] at h1 h2
    rw [Lp_step]
    generalize hK : loopK (Cx e) 88 none [0, 1, 8, 9, 10] (body88 0) _ K = KK
    unfold body88
    simp only [Tryz.f88, loops, Option.map_some, Option.getD_some, List.nil_append, List.append_nil, List.cons_append, List.getElem?_cons_zero, List.getElem?_cons_succ]
    simp -implicitDefEqProofs only [go_sem, repeatCells, splice, chunk, bsFin, ne_eq, not_true_eq_false, not_false_eq_true, List.headD_cons, Bool.false_eq_true, Nat.le_refl, Nat.zero_mul, Nat.one_mul, Nat.mul_one, assoc_setI, assoc_keep, ↓reduceIte, Nat.reduceEqDiff, Nat.reduceLT, Nat.reduceLeDiff, Nat.reduceAdd, Nat.reduceSub, Nat.reduceMul, decide_true, decide_false, Bool.not_true, Bool.not_false, List.mem_cons, List.not_mem_nil, true_or, or_true, false_or, or_false, and_true, true_and, and_self, List.getElem?_cons_succ, List.getElem?_cons_zero, Option.bind_some, Option.map_some, Option.map_none, List.map_cons, List.map_nil, List.length_cons, List.length_nil, List.filterMap_cons, List.filterMap_nil, List.cons_append, List.nil_append, List.append_nil, Nat.zero_add, Nat.add_zero, List.take_succ_cons, List.take_zero, List.take_nil, List.drop_succ_cons, List.drop_zero, List.drop_nil, List.all_cons, List.all_nil, Bool.and_true, Bool.true_and, Bool.false_and, Bool.and_false, reduceCtorEq, beq_iff_eq, beq_self_eq_true, intA, hlt, hw, hch.len, hch.idx hy, hl0.len, hl0.cells, hl0.flat, hl0.bound, plus_size, hn, settle_none (hn _), plus_put_end (hn _), plus_store_end (hn _) (hlk _), settle_end (hn _), plus_row_at (hn _)]
    refine loop88b ch xs lxs id l0 hl0 hlc hll l S hp stp ok live n hsrc i (n + F.length) 0 (F ++ [some (.cells 0 0 46 1 false [intA id, l0])]) ?_ ?_ _ lxs.length 0 s _ (by omega) ⟨[], by rw [List.append_nil]; rfl⟩ hlv ?_ ?_
    · intro s G
      rw [List.append_assoc]
      exact plus_row_at (hn s) F G 0 0 0 46 1 false [intA id, l0]
    · intro j x hx
      exact hok i _ j x hy (by rw [hli]; exact hx)
    · intro hf G
      rw [List.drop_zero] at hf ⊢
      rw [hf] at h1 h2
      simp only [if_true] at h1 h2
      simp -implicitDefEqProofs only [go_sem, repeatCells, splice, chunk, bsFin, ne_eq, not_true_eq_false, not_false_eq_true, List.headD_cons, Bool.false_eq_true, Nat.le_refl, Nat.zero_mul, Nat.one_mul, Nat.mul_one, assoc_setI, assoc_keep, ↓reduceIte, Nat.reduceEqDiff, Nat.reduceLT, Nat.reduceLeDiff, Nat.reduceAdd, Nat.reduceSub, Nat.reduceMul, decide_true, decide_false, Bool.not_true, Bool.not_false, List.mem_cons, List.not_mem_nil, true_or, or_true, false_or, or_false, and_true, true_and, and_self, List.getElem?_cons_succ, List.getElem?_cons_zero, Option.bind_some, Option.map_some, Option.map_none, List.map_cons, List.map_nil, List.length_cons, List.length_nil, List.filterMap_cons, List.filterMap_nil, List.cons_append, List.nil_append, List.append_nil, Nat.zero_add, Nat.add_zero, List.take_succ_cons, List.take_zero, List.take_nil, List.drop_succ_cons, List.drop_zero, List.drop_nil, List.all_cons, List.all_nil, Bool.and_true, Bool.true_and, Bool.false_and, Bool.and_false, reduceCtorEq, beq_iff_eq, beq_self_eq_true, intA, hw, plus_size, hn, settle_none (hn _)]
      subst hK
      simp -implicitDefEqProofs only [go_sem, repeatCells, splice, chunk, bsFin, ne_eq, not_true_eq_false, not_false_eq_true, List.headD_cons, Bool.false_eq_true, Nat.le_refl, Nat.zero_mul, Nat.one_mul, Nat.mul_one, assoc_setI, assoc_keep, ↓reduceIte, Nat.reduceEqDiff, Nat.reduceLT, Nat.reduceLeDiff, Nat.reduceAdd, Nat.reduceSub, Nat.reduceMul, decide_true, decide_false, Bool.not_true, Bool.not_false, List.mem_cons, List.not_mem_nil, true_or, or_true, false_or, or_false, and_true, true_and, and_self, List.getElem?_cons_succ, List.getElem?_cons_zero, Option.bind_some, Option.map_some, Option.map_none, List.map_cons, List.map_nil, List.length_cons, List.length_nil, List.filterMap_cons, List.filterMap_nil, List.cons_append, List.nil_append, List.append_nil, Nat.zero_add, Nat.add_zero, List.take_succ_cons, List.take_zero, List.take_nil, List.drop_succ_cons, List.drop_zero, List.drop_nil, List.all_cons, List.all_nil, Bool.and_true, Bool.true_and, Bool.false_and, Bool.and_false, reduceCtorEq, beq_iff_eq, beq_self_eq_true, plus_size, hn]
      rw [List.append_assoc]
      have hlv2 : live (runIt stp (lineIts i 0 lxs) s).2 := runIt_live hsrc _ s (fun x hx => by
        obtain ⟨j, z, hz, rfl⟩ := lineIts_of i lxs 0 x hx
        rw [Nat.zero_add]
        exact hok i _ j z hy (by rw [hli]; exact hz)) hlv hf
      refine at_trim (fun X => Lp _ _ _ _ _ _ X _) (by simp only [hn]) fun G3 => ?_
      exact ih (i + 1) _ (F ++ G3) (by omega) ⟨G0 ++ G3, by rw [hG0, List.append_assoc]⟩ hlv2 h1 h2
    · intro hf G tl
      rw [List.drop_zero] at hf ⊢
      rw [hf] at h1 h2
      simp only [Bool.false_eq_true, if_false] at h1 h2
      subst hK
      simp -implicitDefEqProofs only [go_sem, repeatCells, splice, chunk, bsFin, ne_eq, not_true_eq_false, not_false_eq_true, List.headD_cons, Bool.false_eq_true, Nat.le_refl, Nat.zero_mul, Nat.one_mul, Nat.mul_one, assoc_setI, assoc_keep, ↓reduceIte, Nat.reduceEqDiff, Nat.reduceLT, Nat.reduceLeDiff, Nat.reduceAdd, Nat.reduceSub, Nat.reduceMul, decide_true, decide_false, Bool.not_true, Bool.not_false, List.mem_cons, List.not_mem_nil, true_or, or_true, false_or, or_false, and_true, true_and, and_self, List.getElem?_cons_succ, List.getElem?_cons_zero, Option.bind_some, Option.map_some, Option.map_none, List.map_cons, List.map_nil, List.length_cons, List.length_nil, List.filterMap_cons, List.filterMap_nil, List.cons_append, List.nil_append, List.append_nil, Nat.zero_add, Nat.add_zero, List.take_succ_cons, List.take_zero, List.take_nil, List.drop_succ_cons, List.drop_zero, List.drop_nil, List.all_cons, List.all_nil, Bool.and_true, Bool.true_and, Bool.false_and, Bool.and_false, reduceCtorEq, beq_iff_eq, beq_self_eq_true]
      rw [hG0, List.append_assoc, List.append_assoc]
      exact h2 hf _ _
theorem fn_ex {C : Cfg} {f : FuncId} {args : List AV} {H : Heap} {K : PostO} (h : Fn' C f args H K) : ∃ v H', lim C (.call f args H) = some (.ret v H') ∧ K v H' := by
  unfold Fn' at h
  rw [bindO_iff] at h
  obtain ⟨o, h1, h2⟩ := h
  cases o with
  | ret v H' => exact ⟨v, H', h1, h2⟩
  | go => exact h2.elim
theorem lineIts_mem (i : Nat) : ∀ (l : List AV) (k j : Nat) (x : AV), l[j]? = some x → [placeA i (k + j) 0, x] ∈ lineIts i k l
  | [], _, j, _, h => by simp at h
  | y :: r, k, 0, x, h => by simp at h; subst h; simp [lineIts]
  | y :: r, k, j + 1, x, h => by
    have := lineIts_mem i r (k + 1) j x (by simpa using h)
    rw [show k + 1 + j = k + (j + 1) by omega] at this
    exact List.mem_cons_of_mem _ this
theorem chapIts_mem0 : ∀ (xs : List AV) (k i : Nat) (y : AV) (j : Nat) (x : AV), xs[i]? = some y → (linesOf y)[j]? = some x → [placeA (k + i) j 0, x] ∈ chapIts k xs
  | [], _, i, _, _, _, h, _ => by simp at h
  | z :: r, k, 0, y, j, x, h, hx => by
    simp at h; subst h
    have := lineIts_mem k (linesOf z) 0 j x hx
    rw [Nat.zero_add] at this
    exact List.mem_append_left _ this
  | z :: r, k, i + 1, y, j, x, h, hx => by
    have := chapIts_mem0 r (k + 1) i y j x (by simpa using h) hx
    rw [show k + 1 + i = k + (i + 1) by omega] at this
    exact List.mem_append_right _ this
theorem chapIts_mem (xs : List AV) (i : Nat) (y : AV) (j : Nat) (x : AV) (h : xs[i]? = some y) (hx : (linesOf y)[j]? = some x) : [placeA i j 0, x] ∈ chapIts 0 xs := by
  have := chapIts_mem0 xs 0 i y j x h hx
  rwa [Nat.zero_add] at this
set_option maxHeartbeats 4000000 in
theorem yields88 {e : Exts} (ch : AV) (xs : List AV) (hch : SlOf 2 xs ch) (hall : ∀ y ∈ xs, OkCh y) (hlen : xs.length < 2 ^ 63) : Yields (Cx e) 88 [.ro (.agg [ch]) 0] (chapIts 0 xs) := by
  intro l S hp stp ok live n hsrc hok s E hlv
  have hn := hsrc.size
  have key : Fn' (Cx e) 88 [.yld l, .ro (.agg [ch]) 0] ((hp s).plus E) fun v H' => v = .tup [] ∧ ∃ G, H' = (hp (runIt stp (chapIts 0 xs) s).2).plus (E ++ G) := by
    rw [fn_step (fn_88 e) (show Tryz.f88.body = some _ from rfl)]
    simp -implicitDefEqProofs only [Tryz.f88, intA, go_sem, repeatCells, splice, chunk, bsFin, ne_eq, not_true_eq_false, not_false_eq_true, List.headD_cons, Bool.false_eq_true, Nat.le_refl, Nat.zero_mul, Nat.one_mul, Nat.mul_one, assoc_setI, assoc_keep, ↓reduceIte, Nat.reduceEqDiff, Nat.reduceLT, Nat.reduceLeDiff, Nat.reduceAdd, Nat.reduceSub, Nat.reduceMul, decide_true, decide_false, Bool.not_true, Bool.not_false, List.mem_cons, List.not_mem_nil, true_or, or_true, false_or, or_false, and_true, true_and, and_self, List.getElem?_cons_succ, List.getElem?_cons_zero, Option.bind_some, Option.map_some, Option.map_none, List.map_cons, List.map_nil, List.length_cons, List.length_nil, List.filterMap_cons, List.filterMap_nil, List.cons_append, List.nil_append, List.append_nil, Nat.zero_add, Nat.add_zero, List.take_succ_cons, List.take_zero, List.take_nil, List.drop_succ_cons, List.drop_zero, List.drop_nil, List.all_cons, List.all_nil, Bool.and_true, Bool.true_and, Bool.false_and, Bool.and_false, reduceCtorEq, beq_iff_eq, beq_self_eq_true, hch.len, hch.cells, plus_size, hn, settle_none (hn _)]
    refine loop88a ch xs hch hall hlen l S hp stp ok live n hsrc E ?_ _ xs.length 0 s E (by omega) ⟨[], (List.append_nil E).symm⟩ hlv ?_ ?_
    · intro i y j x hy hx
      exact hok _ (chapIts_mem xs i y j x hy hx)
    · intro hf G
      simp -implicitDefEqProofs only [go_sem, repeatCells, splice, chunk, bsFin, ne_eq, not_true_eq_false, not_false_eq_true, List.headD_cons, Bool.false_eq_true, Nat.le_refl, Nat.zero_mul, Nat.one_mul, Nat.mul_one, assoc_setI, assoc_keep, ↓reduceIte, Nat.reduceEqDiff, Nat.reduceLT, Nat.reduceLeDiff, Nat.reduceAdd, Nat.reduceSub, Nat.reduceMul, decide_true, decide_false, Bool.not_true, Bool.not_false, List.mem_cons, List.not_mem_nil, true_or, or_true, false_or, or_false, and_true, true_and, and_self, List.getElem?_cons_succ, List.getElem?_cons_zero, Option.bind_some, Option.map_some, Option.map_none, List.map_cons, List.map_nil, List.length_cons, List.length_nil, List.filterMap_cons, List.filterMap_nil, List.cons_append, List.nil_append, List.append_nil, Nat.zero_add, Nat.add_zero, List.take_succ_cons, List.take_zero, List.take_nil, List.drop_succ_cons, List.drop_zero, List.drop_nil, List.all_cons, List.all_nil, Bool.and_true, Bool.true_and, Bool.false_and, Bool.and_false, reduceCtorEq, beq_iff_eq, beq_self_eq_true]
      exact ⟨rfl, G, rfl⟩
    · intro hf G tl
      simp -implicitDefEqProofs only [go_sem, repeatCells, splice, chunk, bsFin, ne_eq, not_true_eq_false, not_false_eq_true, List.headD_cons, Bool.false_eq_true, Nat.le_refl, Nat.zero_mul, Nat.one_mul, Nat.mul_one, assoc_setI, assoc_keep, ↓reduceIte, Nat.reduceEqDiff, Nat.reduceLT, Nat.reduceLeDiff, Nat.reduceAdd, Nat.reduceSub, Nat.reduceMul, decide_true, decide_false, Bool.not_true, Bool.not_false, List.mem_cons, List.not_mem_nil, true_or, or_true, false_or, or_false, and_true, true_and, and_self, List.getElem?_cons_succ, List.getElem?_cons_zero, Option.bind_some, Option.map_some, Option.map_none, List.map_cons, List.map_nil, List.length_cons, List.length_nil, List.filterMap_cons, List.filterMap_nil, List.cons_append, List.nil_append, List.append_nil, Nat.zero_add, Nat.add_zero, List.take_succ_cons, List.take_zero, List.take_nil, List.drop_succ_cons, List.drop_zero, List.drop_nil, List.all_cons, List.all_nil, Bool.and_true, Bool.true_and, Bool.false_and, Bool.and_false, reduceCtorEq, beq_iff_eq, beq_self_eq_true]
      exact ⟨rfl, G, rfl⟩
  obtain ⟨v, H', h1, rfl, G, rfl⟩ := fn_ex key
  exact ⟨G, h1⟩
end Go.Ev
namespace Go.Ev
open Go.Proofs
set_option maxRecDepth 100000
set_option linter.unusedSimpArgs false
theorem freeze_cl {sz : Nat} {xs : List AV} {ch : AV} (h : SlOf sz xs ch) (f : FuncId) (t : TypeId) : freezeV ⟨[some (.cells 0 0 t 1 false [ch])], 0⟩ 1000000 (.fn (.func f) [] [.ptr 0 0 0]) = some (.fn (.func f) [] [.ro (.agg [ch]) 0]) := by
  rcases h with ⟨rfl, rfl⟩ | ⟨cap, rfl⟩
  · kernel_rfl
  · kernel_rfl
set_option maxHeartbeats 1000000 in
theorem ans64 {e : Exts} (ch : AV) (xs : List AV) (hch : SlOf 2 xs ch) : Ans (Cx e) 64 [.agg [ch]] (.fn (.func 88) [] [.ro (.agg [ch]) 0]) := by
  unfold Ans
  rw [fn_step (fn_64 e) (show Tryz.f64.body = some _ from rfl)]
  simp -implicitDefEqProofs only [Tryz.f64, intA, go_sem, repeatCells, splice, chunk, bsFin, ne_eq, not_true_eq_false, not_false_eq_true, List.headD_cons, Bool.false_eq_true, Nat.le_refl, Nat.zero_mul, Nat.one_mul, Nat.mul_one, assoc_setI, assoc_keep, ↓reduceIte, Nat.reduceEqDiff, Nat.reduceLT, Nat.reduceLeDiff, Nat.reduceAdd, Nat.reduceSub, Nat.reduceMul, decide_true, decide_false, Bool.not_true, Bool.not_false, List.mem_cons, List.not_mem_nil, true_or, or_true, false_or, or_false, and_true, true_and, and_self, List.getElem?_cons_succ, List.getElem?_cons_zero, Option.bind_some, Option.map_some, Option.map_none, List.map_cons, List.map_nil, List.length_cons, List.length_nil, List.filterMap_cons, List.filterMap_nil, List.cons_append, List.nil_append, List.append_nil, Nat.zero_add, Nat.add_zero, List.take_succ_cons, List.take_zero, List.take_nil, List.drop_succ_cons, List.drop_zero, List.drop_nil, List.all_cons, List.all_nil, Bool.and_true, Bool.true_and, Bool.false_and, Bool.and_false, reduceCtorEq, beq_iff_eq, beq_self_eq_true, hch.cells, hch.flat, hch.bound, freeze_cl hch]
set_option maxHeartbeats 1000000 in
theorem ans41 {e : Exts} (ch : AV) (xs : List AV) (hch : SlOf 2 xs ch) : Ans (Cx e) 41 [.agg [ch]] (.fn (.func 63) [] [.ro (.agg [ch]) 0]) := by
  unfold Ans
  rw [fn_step (fn_41 e) (show Tryz.f41.body = some _ from rfl)]
  simp -implicitDefEqProofs only [Tryz.f41, intA, go_sem, repeatCells, splice, chunk, bsFin, ne_eq, not_true_eq_false, not_false_eq_true, List.headD_cons, Bool.false_eq_true, Nat.le_refl, Nat.zero_mul, Nat.one_mul, Nat.mul_one, assoc_setI, assoc_keep, ↓reduceIte, Nat.reduceEqDiff, Nat.reduceLT, Nat.reduceLeDiff, Nat.reduceAdd, Nat.reduceSub, Nat.reduceMul, decide_true, decide_false, Bool.not_true, Bool.not_false, List.mem_cons, List.not_mem_nil, true_or, or_true, false_or, or_false, and_true, true_and, and_self, List.getElem?_cons_succ, List.getElem?_cons_zero, Option.bind_some, Option.map_some, Option.map_none, List.map_cons, List.map_nil, List.length_cons, List.length_nil, List.filterMap_cons, List.filterMap_nil, List.cons_append, List.nil_append, List.append_nil, Nat.zero_add, Nat.add_zero, List.take_succ_cons, List.take_zero, List.take_nil, List.drop_succ_cons, List.drop_zero, List.drop_nil, List.all_cons, List.all_nil, Bool.and_true, Bool.true_and, Bool.false_and, Bool.and_false, reduceCtorEq, beq_iff_eq, beq_self_eq_true, hch.cells, hch.flat, hch.bound, freeze_cl hch]
theorem call64 {e : Exts} (he : Quiet e) (ch : AV) (xs : List AV) (hch : SlOf 2 xs ch) (me : FuncId) (d : Option Tmp) (H : Heap) : callA (Cx e) (lim (Cx e)) me 64 d [.agg [ch]] H = some (.fn (.func 88) [] [.ro (.agg [ch]) 0], H) :=
  (ans64 ch xs hch).call (ext_64 he) (pure_64 _ _ _) (by simp only [boundL_cons, bound_agg, hch.bound, boundL_nil]; rfl) H
theorem call41 {e : Exts} (he : Quiet e) (ch : AV) (xs : List AV) (hch : SlOf 2 xs ch) (me : FuncId) (d : Option Tmp) (H : Heap) : callA (Cx e) (lim (Cx e)) me 41 d [.agg [ch]] H = some (.fn (.func 63) [] [.ro (.agg [ch]) 0], H) :=
  (ans41 ch xs hch).call (ext_41 he) (pure_41 _ _ _) (by simp only [boundL_cons, bound_agg, hch.bound, boundL_nil]; rfl) H
noncomputable def body63 (n : Nat) : Code := ((Tryz.f63.body.map loops).getD [])[n]?.getD .skip
def rangeOf : Code → Option (Code × Code)
  | .rangeFunc _ _ a b => some (a, b)
  | .seq a b => (rangeOf a).orElse fun _ => rangeOf b
  | .block _ a => rangeOf a
  | .scope a => rangeOf a
  | _ => none
noncomputable def asg63 : Code := ((Tryz.f63.body.bind rangeOf).getD (.skip, .skip)).1
noncomputable def bdy63 : Code := ((Tryz.f63.body.bind rangeOf).getD (.skip, .skip)).2
def placeB (a b : AV) (w : Int) : AV := .agg [a, b, intA w]
def wIts (a b : AV) : Nat → List AV → List (List AV)
  | _, [] => []
  | w, x :: r => [placeB a b w, x] :: wIts a b (w + 1) r
theorem wIts_drop (a b : AV) (xs : List AV) (j : Nat) (x : AV) (h : xs[j]? = some x) : wIts a b j (xs.drop j) = [placeB a b j, x] :: wIts a b (j + 1) (xs.drop (j + 1)) := by
  obtain ⟨hj, rfl⟩ := List.getElem?_eq_some_iff.1 h
  rw [List.drop_eq_getElem_cons hj]; rfl
theorem at_trim0 {H : Heap} {E : List (Option AObj)} {vs : List AV} {ms : List Nat} {n : Nat} (Q : Heap → Prop) (hn : n = H.size + E.length) (h : Q (H.plus E)) : Q ((H.plus E).trim n vs ms) := by
  subst hn; rw [← plus_size, trim_size]; exact h
theorem settle_eq {X : Heap} {n m : Nat} (hn : X.size = n) {E : List (Option AObj)} (h : m = n + E.length) : settleH m (X.plus E) = X.plus E := by
  subst hn; rw [h, ← plus_size]; exact settle_size _
set_option maxHeartbeats 400000 in
theorem loop63 {e : Exts} (ch lx : AV) (els : List AV) (hlx : SlOf 1 els lx) (hec : ∀ x ∈ els, x.cells = [x]) (hlen : els.length < 2 ^ 63) (rd : Option Nat)
    (l : Nat) (S : Type) (hp : S → Heap) (stp : S → List AV → Bool × S) (ok : List AV → Prop) (live : S → Prop) (n : Nat) (hsrc : Src (Cx e) l S hp stp ok live n) (E B : List (Option AObj)) (L : ALoop) (i k : Int) (p9 : AV)
    (hok : ∀ (j : Nat) x, els[j]? = some x → ok [placeB (intA i) (intA k) j, x]) (K : Post) :
    ∀ m j s G (w0 : Int), j + m = els.length → live s →
    ((runIt stp (wIts (intA i) (intA k) j (els.drop j)) s).1 = true → ∀ G w tl, AtK K (.exit 2) ⟨26, tl, []⟩ ((hq hp E l 111 ((runIt stp (wIts (intA i) (intA k) j (els.drop j)) s).2, L)).plus (B ++ some (.cells 0 0 32 1 false [intA i, intA k, intA w]) :: G))) →
    ((runIt stp (wIts (intA i) (intA k) j (els.drop j)) s).1 = false → ∀ G w tl, AtK K .ret ⟨26, tl, []⟩ ((hq hp E l 111 ((runIt stp (wIts (intA i) (intA k) j (els.drop j)) s).2, L)).plus (B ++ some (.cells 0 0 32 1 false [intA i, intA k, intA w]) :: G))) →
    Lp (Cx e) 63 rd [0, 1, 2, 8, 9, 10, 3, 4, 11, 12, 13] (body63 0) ⟨26, [(0, .yld l), (1, .ro (.agg [ch]) 0), (2, .ptr (n + E.length) 0 0), (8, .fn (.func 88) [] [.ro (.agg [ch]) 0]), (9, p9), (10, lx), (3, .ptr (n + E.length + 3 + B.length) 0 0), (4, lx), (11, lx), (12, intA els.length), (13, intA j)], []⟩
      ((hq hp E l 111 (s, L)).plus (B ++ some (.cells 0 0 32 1 false [intA i, intA k, intA w0]) :: G)) K := by
  have hn : ∀ q, (hq hp E l 111 q).size = n + E.length + 3 := hq_size hsrc E
  have hlk : ∀ q, (hq hp E l 111 q).lock ≤ n + E.length + 3 := fun q => by have := hq_lock (t := 111) hsrc E q; omega
  have hrow := fun q B => hq_row (t := 111) hsrc E q B
  intro m
  induction m with
  | zero =>
    intro j s G w0 hj hli h1 h2
    rw [Lp_step]
    generalize hK : loopK (Cx e) 63 rd _ (body63 0) _ K = KK
    unfold body63
    obtain rfl : j = els.length := by omega
    simp only [Tryz.f63, loops, Option.map_some, Option.getD_some, List.nil_append, List.append_nil, List.cons_append, List.getElem?_cons_zero, List.getElem?_cons_succ]
    simp -implicitDefEqProofs only [go_sem, repeatCells, splice, chunk, bsFin, ne_eq, not_true_eq_false, not_false_eq_true, List.headD_cons, Bool.false_eq_true, Nat.le_refl, Nat.zero_mul, Nat.one_mul, Nat.mul_one, assoc_setI, assoc_keep, ↓reduceIte, Nat.reduceEqDiff, Nat.reduceLT, Nat.reduceLeDiff, Nat.reduceAdd, Nat.reduceSub, Nat.reduceMul, decide_true, decide_false, Bool.not_true, Bool.not_false, List.mem_cons, List.not_mem_nil, true_or, or_true, false_or, or_false, and_true, true_and, and_self, List.getElem?_cons_succ, List.getElem?_cons_zero, Option.bind_some, Option.map_some, Option.map_none, List.map_cons, List.map_nil, List.length_cons, List.length_nil, List.filterMap_cons, List.filterMap_nil, List.cons_append, List.nil_append, List.append_nil, Nat.zero_add, Nat.add_zero, List.take_succ_cons, List.take_zero, List.take_nil, List.drop_succ_cons, List.drop_zero, List.drop_nil, List.all_cons, List.all_nil, Bool.and_true, Bool.true_and, Bool.false_and, Bool.and_false, reduceCtorEq, beq_iff_eq, beq_self_eq_true, intA, Int.lt_irrefl, plus_size, hn, settle_none (hn _)]
    subst hK
    simp -implicitDefEqProofs only [go_sem, repeatCells, splice, chunk, bsFin, ne_eq, not_true_eq_false, not_false_eq_true, List.headD_cons, Bool.false_eq_true, Nat.le_refl, Nat.zero_mul, Nat.one_mul, Nat.mul_one, assoc_setI, assoc_keep, ↓reduceIte, Nat.reduceEqDiff, Nat.reduceLT, Nat.reduceLeDiff, Nat.reduceAdd, Nat.reduceSub, Nat.reduceMul, decide_true, decide_false, Bool.not_true, Bool.not_false, List.mem_cons, List.not_mem_nil, true_or, or_true, false_or, or_false, and_true, true_and, and_self, List.getElem?_cons_succ, List.getElem?_cons_zero, Option.bind_some, Option.map_some, Option.map_none, List.map_cons, List.map_nil, List.length_cons, List.length_nil, List.filterMap_cons, List.filterMap_nil, List.cons_append, List.nil_append, List.append_nil, Nat.zero_add, Nat.add_zero, List.take_succ_cons, List.take_zero, List.take_nil, List.drop_succ_cons, List.drop_zero, List.drop_nil, List.all_cons, List.all_nil, Bool.and_true, Bool.true_and, Bool.false_and, Bool.and_false, reduceCtorEq, beq_iff_eq, beq_self_eq_true, plus_size, hn]
    rw [List.drop_of_length_le (Nat.le_refl _)] at h1 h2
    refine at_trim0 (fun X => AtK _ _ _ X) (by simp only [hn, intA]) ?_
    exact h1 rfl G w0 _
  | succ m ih =>
    intro j s G w0 hj hli h1 h2
    obtain ⟨x, hx⟩ := at_lt els j (by omega)
    have hxc := hec x (List.mem_of_getElem? hx)
    have hdr := wIts_drop (intA i) (intA k) els j x hx
    obtain ⟨G1, hR⟩ := hq_round (t := 111) hsrc E s L (B ++ some (.cells 0 0 32 1 false [intA i, intA k, intA j]) :: G) [placeB (intA i) (intA k) j, x] hli (hok j x hx)
    have hlt : (j : Int) < ((els.length : Nat) : Int) := by omega
    have hw := wrap_succ j (by omega)
    rw [Lp_step]
    generalize hK : loopK (Cx e) 63 rd _ (body63 0) _ K = KK
    unfold body63
    simp only [Tryz.f63, loops, Option.map_some, Option.getD_some, List.nil_append, List.append_nil, List.cons_append, List.getElem?_cons_zero, List.getElem?_cons_succ]
    rw [hdr] at h1 h2
    unfold runIt at h1 h2
    obtain ⟨G2, hS⟩ := settle_plus (H := hq hp E l 111 ((stp s [placeB (intA i) (intA k) j, x]).2, L)) (B ++ some (.cells 0 0 32 1 false [intA i, intA k, intA j]) :: G) G1 (n := n + E.length + 3 + (B ++ some (.cells 0 0 32 1 false [intA i, intA k, intA j]) :: G).length) (by rw [hn])
    have hst0 := fun (w : Int) (xs : List AV) (off : Nat) => plus_store_mid (hn (s, L)) (hlk (s, L)) B G 0 0 32 1 false [.v (.int .i64 i), .v (.int .i64 k), .v (.int .i64 w)] off xs
    have hset : ∀ w w' : Int, settleH (n + E.length + 3 + (B ++ some (.cells 0 0 32 1 false [.v (.int .i64 i), .v (.int .i64 k), .v (.int .i64 w)]) :: G).length) ((hq hp E l 111 (s, L)).plus (B ++ some (.cells 0 0 32 1 false [.v (.int .i64 i), .v (.int .i64 k), .v (.int .i64 w')]) :: G)) = (hq hp E l 111 (s, L)).plus (B ++ some (.cells 0 0 32 1 false [.v (.int .i64 i), .v (.int .i64 k), .v (.int .i64 w')]) :: G) :=
      fun w w' => settle_eq (hn _) (by simp)
    have hrw := fun (w : Int) => plus_row_at (hn (s, L)) B G 0 0 0 32 1 false [.v (.int .i64 i), .v (.int .i64 k), .v (.int .i64 w)]
    by_cases hst : (stp s [placeB (intA i) (intA k) j, x]).1 = true
    · rw [hst] at hR
      unfold placeB intA at hR hS
      simp -implicitDefEqProofs only [go_sem, repeatCells, splice, chunk, bsFin, ne_eq, not_true_eq_false, not_false_eq_true, List.headD_cons, Bool.false_eq_true, Nat.le_refl, Nat.zero_mul, Nat.one_mul, Nat.mul_one, assoc_setI, assoc_keep, ↓reduceIte, Nat.reduceEqDiff, Nat.reduceLT, Nat.reduceLeDiff, Nat.reduceAdd, Nat.reduceSub, Nat.reduceMul, decide_true, decide_false, Bool.not_true, Bool.not_false, List.mem_cons, List.not_mem_nil, true_or, or_true, false_or, or_false, and_true, true_and, and_self, List.getElem?_cons_succ, List.getElem?_cons_zero, Option.bind_some, Option.map_some, Option.map_none, List.map_cons, List.map_nil, List.length_cons, List.length_nil, List.filterMap_cons, List.filterMap_nil, List.cons_append, List.nil_append, List.append_nil, Nat.zero_add, Nat.add_zero, List.take_succ_cons, List.take_zero, List.take_nil, List.drop_succ_cons, List.drop_zero, List.drop_nil, List.all_cons, List.all_nil, Bool.and_true, Bool.true_and, Bool.false_and, Bool.and_false, reduceCtorEq, beq_iff_eq, beq_self_eq_true, intA, hlt, hw, plus_size, hn, hset, settle_none (hn _), hrow, hlx.idx hx, hxc, hst0, hrw, hR, hS, nmax]
      subst hK
      simp -implicitDefEqProofs only [go_sem, repeatCells, splice, chunk, bsFin, ne_eq, not_true_eq_false, not_false_eq_true, List.headD_cons, Bool.false_eq_true, Nat.le_refl, Nat.zero_mul, Nat.one_mul, Nat.mul_one, assoc_setI, assoc_keep, ↓reduceIte, Nat.reduceEqDiff, Nat.reduceLT, Nat.reduceLeDiff, Nat.reduceAdd, Nat.reduceSub, Nat.reduceMul, decide_true, decide_false, Bool.not_true, Bool.not_false, List.mem_cons, List.not_mem_nil, true_or, or_true, false_or, or_false, and_true, true_and, and_self, List.getElem?_cons_succ, List.getElem?_cons_zero, Option.bind_some, Option.map_some, Option.map_none, List.map_cons, List.map_nil, List.length_cons, List.length_nil, List.filterMap_cons, List.filterMap_nil, List.cons_append, List.nil_append, List.append_nil, Nat.zero_add, Nat.add_zero, List.take_succ_cons, List.take_zero, List.take_nil, List.drop_succ_cons, List.drop_zero, List.drop_nil, List.all_cons, List.all_nil, Bool.and_true, Bool.true_and, Bool.false_and, Bool.and_false, reduceCtorEq, beq_iff_eq, beq_self_eq_true, plus_size, hn]
      refine at_trim (fun X => Lp _ _ _ _ _ _ X _) (by simp only [hn]; simp) fun G3 => ?_
      have hlv := hsrc.step s _ hli (hok j x hx) hst
      rw [hst] at h1 h2
      simp only [if_true] at h1 h2
      rw [List.append_assoc, List.cons_append]
      exact ih (j + 1) _ (G ++ G3) j (by omega) hlv h1 h2
    · have hst' : (stp s [placeB (intA i) (intA k) j, x]).1 = false := by simpa using hst
      rw [hst'] at h1 h2 hR
      simp only [Bool.false_eq_true, if_false] at h1 h2
      unfold placeB intA at hR hS
      simp -implicitDefEqProofs only [go_sem, repeatCells, splice, chunk, bsFin, ne_eq, not_true_eq_false, not_false_eq_true, List.headD_cons, Bool.false_eq_true, Nat.le_refl, Nat.zero_mul, Nat.one_mul, Nat.mul_one, assoc_setI, assoc_keep, ↓reduceIte, Nat.reduceEqDiff, Nat.reduceLT, Nat.reduceLeDiff, Nat.reduceAdd, Nat.reduceSub, Nat.reduceMul, decide_true, decide_false, Bool.not_true, Bool.not_false, List.mem_cons, List.not_mem_nil, true_or, or_true, false_or, or_false, and_true, true_and, and_self, List.getElem?_cons_succ, List.getElem?_cons_zero, Option.bind_some, Option.map_some, Option.map_none, List.map_cons, List.map_nil, List.length_cons, List.length_nil, List.filterMap_cons, List.filterMap_nil, List.cons_append, List.nil_append, List.append_nil, Nat.zero_add, Nat.add_zero, List.take_succ_cons, List.take_zero, List.take_nil, List.drop_succ_cons, List.drop_zero, List.drop_nil, List.all_cons, List.all_nil, Bool.and_true, Bool.true_and, Bool.false_and, Bool.and_false, reduceCtorEq, beq_iff_eq, beq_self_eq_true, intA, hlt, hw, plus_size, hn, hset, settle_none (hn _), hrow, hlx.idx hx, hxc, hst0, hrw, hR, hS, nmax]
      subst hK
      simp -implicitDefEqProofs only [go_sem, repeatCells, splice, chunk, bsFin, ne_eq, not_true_eq_false, not_false_eq_true, List.headD_cons, Bool.false_eq_true, Nat.le_refl, Nat.zero_mul, Nat.one_mul, Nat.mul_one, assoc_setI, assoc_keep, ↓reduceIte, Nat.reduceEqDiff, Nat.reduceLT, Nat.reduceLeDiff, Nat.reduceAdd, Nat.reduceSub, Nat.reduceMul, decide_true, decide_false, Bool.not_true, Bool.not_false, List.mem_cons, List.not_mem_nil, true_or, or_true, false_or, or_false, and_true, true_and, and_self, List.getElem?_cons_succ, List.getElem?_cons_zero, Option.bind_some, Option.map_some, Option.map_none, List.map_cons, List.map_nil, List.length_cons, List.length_nil, List.filterMap_cons, List.filterMap_nil, List.cons_append, List.nil_append, List.append_nil, Nat.zero_add, Nat.add_zero, List.take_succ_cons, List.take_zero, List.take_nil, List.drop_succ_cons, List.drop_zero, List.drop_nil, List.all_cons, List.all_nil, Bool.and_true, Bool.true_and, Bool.false_and, Bool.and_false, reduceCtorEq, beq_iff_eq, beq_self_eq_true]
      rw [List.append_assoc, List.cons_append]
      exact h2 trivial _ _ _
end Go.Ev
namespace Go.Ev
open Go.Proofs
set_option maxRecDepth 100000
set_option linter.unusedSimpArgs false
theorem setT_nil (n : Nat) (t : List (Tmp × AV)) : setTmps n t [] = t := rfl
theorem setT_cons (n : Nat) (t : List (Tmp × AV)) (d : Tmp) (v : AV) (r : List (Tmp × AV)) : setTmps n t ((d, v) :: r) = setTmps n (if d < n then setAssoc d v t else t) r := rfl
def lr63 (ch : AV) (l n d : Nat) (st : LoopState) (pd : Option Code) (a b : Code) : ALoop := { fn := 63, state := st, pending := pd, size := 26, tmps := [(0, .yld l), (1, .ro (.agg [ch]) 0), (2, .ptr n 0 0), (8, .fn (.func 88) [] [.ro (.agg [ch]) 0])], params := #[9, 10], assign := a, body := b, dfr := d }
noncomputable def lp63 (ch : AV) (l n : Nat) (done : Bool) : ALoop := lr63 ch l n (n + 1) (if done then .done else .ready) (if done then some .ret else none) asg63 bdy63
noncomputable def hp63 {S : Type} (hp : S → Heap) (E : List (Option AObj)) (ch : AV) (l n : Nat) (q : S × Bool) : Heap := hq hp E l 111 (q.1, lp63 ch l (n + E.length) q.2)
def stp63 {S : Type} (stp : S → List AV → Bool × S) (q : S × Bool) (x : List AV) : Bool × (S × Bool) :=
  match x with
  | [.agg [a, b, _], lx] => ((runIt stp (wIts a b 0 (slElems lx)) q.1).1, ((runIt stp (wIts a b 0 (slElems lx)) q.1).2, !(runIt stp (wIts a b 0 (slElems lx)) q.1).1))
  | _ => (true, q)
def ok63 (ok : List AV → Prop) (x : List AV) : Prop := ∃ (i k : Nat) (lx : AV) (els : List AV), x = [placeA i k 0, lx] ∧ SlOf 1 els lx ∧ (∀ z ∈ els, z.cells = [z]) ∧ els.length < 2 ^ 63 ∧ ∀ (j : Nat) z, els[j]? = some z → ok [placeB (intA i) (intA k) j, z]
theorem wIts_of (a b : AV) : ∀ (l : List AV) (k : Nat) (x : List AV), x ∈ wIts a b k l → ∃ j z, l[j]? = some z ∧ x = [placeB a b ((k + j : Nat) : Int), z]
  | [], _, _, h => by simp [wIts] at h
  | y :: r, k, x, h => by
    rcases List.mem_cons.1 h with rfl | h
    · exact ⟨0, y, rfl, rfl⟩
    · obtain ⟨j, z, h1, h2⟩ := wIts_of a b r (k + 1) x h
      exact ⟨j + 1, z, by simpa using h1, by rw [h2, show k + 1 + j = k + (j + 1) by omega]⟩
set_option maxHeartbeats 1000000 in
theorem src63 {e : Exts} (ch : AV) (l : Nat) (S : Type) (hp : S → Heap) (stp : S → List AV → Bool × S) (ok : List AV → Prop) (live : S → Prop) (n : Nat) (hsrc : Src (Cx e) l S hp stp ok live n) (E : List (Option AObj)) :
    Src (Cx e) (n + E.length + 2) (S × Bool) (hp63 hp E ch l n) (stp63 stp) (ok63 ok) (fun q => live q.1 ∧ q.2 = false) (n + E.length + 3) := by
  refine ⟨fun q => hq_size hsrc E _, by omega, fun q => by have := hq_lock (t := 111) hsrc E (q.1, lp63 ch l (n + E.length) q.2); unfold hp63; omega, ?_, ?_⟩
  · rintro ⟨s, d⟩ x ⟨hl, -⟩ ⟨i, k, lx, els, rfl, hlx, hec, hlen, hok⟩ h
    simp only [stp63, placeA, hlx.elems] at h ⊢
    refine ⟨runIt_live hsrc _ s (fun y hy => ?_) hl h, by rw [h]; rfl⟩
    obtain ⟨j, z, hz, rfl⟩ := wIts_of _ _ els 0 y hy
    rw [Nat.zero_add]; exact hok j z hz
  · rintro ⟨s, d⟩ x B ⟨hl, hd⟩ ⟨i, k, lx, els, rfl, hlx, hec, hlen, hok⟩
    simp only at hd hl
    subst hd
    have hn : ∀ q, (hq hp E l 111 q).size = n + E.length + 3 := hq_size hsrc E
    have hlk : ∀ q, (hq hp E l 111 q).lock ≤ n + E.length + 3 := fun q => by have := hq_lock (t := 111) hsrc E q; omega
    have key := round_step (C := Cx e) (l := n + E.length + 2) (args := [placeA i k 0, lx]) (H := (hp63 hp E ch l n (s, false)).plus B) (r := lp63 ch l (n + E.length) false)
      (K := fun b H' => b = (stp63 stp (s, false) [placeA i k 0, lx]).1 ∧ ∃ G, H' = (hp63 hp E ch l n (stp63 stp (s, false) [placeA i k 0, lx]).2).plus (B ++ G))
      (hq_loop hsrc E _ B) rfl (by unfold hp63; rw [plus_lock]; have := hq_lock (t := 111) hsrc E (s, lp63 ch l (n + E.length) false); simp only; omega) ?_
    · obtain ⟨b, H', h1, rfl, G, rfl⟩ := key
      exact ⟨G, h1⟩
    · have hps := plus_put_end (hn (s, lp63 ch l (n + E.length) false)) B
      have hst := plus_store_end (hn (s, lp63 ch l (n + E.length) false)) (hlk _) B
      have hse := settle_end (hn (s, lp63 ch l (n + E.length) false)) B
      unfold hp63
      rw [plus_size, hn]
      show Wp (Cx e) 63 (some (n + E.length + 2)) asg63 ⟨26, setTmps 26 [(0, .yld l), (1, .ro (.agg [ch]) 0), (2, .ptr (n + E.length) 0 0), (8, .fn (.func 88) [] [.ro (.agg [ch]) 0])] ([9, 10].zip [placeA i k 0, lx]), []⟩ ((hq hp E l 111 (s, lp63 ch l (n + E.length) false)).plus B) _
      generalize hKK : asgK _ _ _ _ _ = KK
      unfold asg63
      simp only [Tryz.f63, rangeOf, Option.bind_some, Option.orElse_some, Option.orElse_none, Option.getD_some]
      simp -implicitDefEqProofs only [go_sem, repeatCells, splice, chunk, bsFin, ne_eq, not_true_eq_false, not_false_eq_true, List.headD_cons, Bool.false_eq_true, Nat.le_refl, Nat.zero_mul, Nat.one_mul, Nat.mul_one, assoc_setI, assoc_keep, ↓reduceIte, Nat.reduceEqDiff, Nat.reduceLT, Nat.reduceLeDiff, Nat.reduceAdd, Nat.reduceSub, Nat.reduceMul, decide_true, decide_false, Bool.not_true, Bool.not_false, List.mem_cons, List.not_mem_nil, true_or, or_true, false_or, or_false, and_true, true_and, and_self, List.getElem?_cons_succ, List.getElem?_cons_zero, Option.bind_some, Option.map_some, Option.map_none, List.map_cons, List.map_nil, List.length_cons, List.length_nil, List.filterMap_cons, List.filterMap_nil, List.cons_append, List.nil_append, List.append_nil, Nat.zero_add, Nat.add_zero, List.take_succ_cons, List.take_zero, List.take_nil, List.drop_succ_cons, List.drop_zero, List.drop_nil, List.all_cons, List.all_nil, Bool.and_true, Bool.true_and, Bool.false_and, Bool.and_false, reduceCtorEq, beq_iff_eq, beq_self_eq_true, intA, placeA, List.zip_cons_cons, List.zip_nil_right, List.zip_nil_left, setT_nil, setT_cons, plus_size, hn, hps, hst, hse, settle_none (hn _), nmax]
      subst hKK
      refine asgK_mk (hq_loop hsrc E _ _) rfl ?_
      rw [hq_put hsrc]
      show Wp (Cx e) 63 (some (n + E.length + 2)) bdy63 _ _ _
      generalize hKK : bodyK _ _ _ = KK
      unfold bdy63
      simp only [Tryz.f63, rangeOf, Option.bind_some, Option.orElse_some, Option.orElse_none, Option.getD_some]
      simp -implicitDefEqProofs only [go_sem, repeatCells, splice, chunk, bsFin, ne_eq, not_true_eq_false, not_false_eq_true, List.headD_cons, Bool.false_eq_true, Nat.le_refl, Nat.zero_mul, Nat.one_mul, Nat.mul_one, assoc_setI, assoc_keep, ↓reduceIte, Nat.reduceEqDiff, Nat.reduceLT, Nat.reduceLeDiff, Nat.reduceAdd, Nat.reduceSub, Nat.reduceMul, decide_true, decide_false, Bool.not_true, Bool.not_false, List.mem_cons, List.not_mem_nil, true_or, or_true, false_or, or_false, and_true, true_and, and_self, List.getElem?_cons_succ, List.getElem?_cons_zero, Option.bind_some, Option.map_some, Option.map_none, List.map_cons, List.map_nil, List.length_cons, List.length_nil, List.filterMap_cons, List.filterMap_nil, List.cons_append, List.nil_append, List.append_nil, Nat.zero_add, Nat.add_zero, List.take_succ_cons, List.take_zero, List.take_nil, List.drop_succ_cons, List.drop_zero, List.drop_nil, List.all_cons, List.all_nil, Bool.and_true, Bool.true_and, Bool.false_and, Bool.and_false, reduceCtorEq, beq_iff_eq, beq_self_eq_true, intA, hlx.len, plus_size, hn, settle_none (hn _)]
      refine loop63 ch lx els hlx hec hlen _ l S hp stp ok live n hsrc E B _ i k _ hok _ els.length 0 s [] 0 (by omega) hl ?_ ?_
      · intro hf G w tl
        subst hKK
        simp -implicitDefEqProofs only [go_sem, repeatCells, splice, chunk, bsFin, ne_eq, not_true_eq_false, not_false_eq_true, List.headD_cons, Bool.false_eq_true, Nat.le_refl, Nat.zero_mul, Nat.one_mul, Nat.mul_one, assoc_setI, assoc_keep, ↓reduceIte, Nat.reduceEqDiff, Nat.reduceLT, Nat.reduceLeDiff, Nat.reduceAdd, Nat.reduceSub, Nat.reduceMul, decide_true, decide_false, Bool.not_true, Bool.not_false, List.mem_cons, List.not_mem_nil, true_or, or_true, false_or, or_false, and_true, true_and, and_self, List.getElem?_cons_succ, List.getElem?_cons_zero, Option.bind_some, Option.map_some, Option.map_none, List.map_cons, List.map_nil, List.length_cons, List.length_nil, List.filterMap_cons, List.filterMap_nil, List.cons_append, List.nil_append, List.append_nil, Nat.zero_add, Nat.add_zero, List.take_succ_cons, List.take_zero, List.take_nil, List.drop_succ_cons, List.drop_zero, List.drop_nil, List.all_cons, List.all_nil, Bool.and_true, Bool.true_and, Bool.false_and, Bool.and_false, reduceCtorEq, beq_iff_eq, beq_self_eq_true]
        rw [List.drop_zero] at hf
        refine bodyK_mk (hq_loop hsrc E _ _) rfl ?_
        rw [hq_put hsrc]
        have e1 : stp63 stp (s, false) [placeA i k 0, lx] = (true, ((runIt stp (wIts (intA i) (intA k) 0 els) s).2, false)) := by
          simp only [stp63, placeA, hlx.elems, hf]; rfl
        rw [e1]
        refine ⟨rfl, ?_⟩
        exact trim_plus (H := hq hp E l 111 _) B _ [] [] (by rw [hn])
      · intro hf G w tl
        subst hKK
        simp -implicitDefEqProofs only [go_sem, repeatCells, splice, chunk, bsFin, ne_eq, not_true_eq_false, not_false_eq_true, List.headD_cons, Bool.false_eq_true, Nat.le_refl, Nat.zero_mul, Nat.one_mul, Nat.mul_one, assoc_setI, assoc_keep, ↓reduceIte, Nat.reduceEqDiff, Nat.reduceLT, Nat.reduceLeDiff, Nat.reduceAdd, Nat.reduceSub, Nat.reduceMul, decide_true, decide_false, Bool.not_true, Bool.not_false, List.mem_cons, List.not_mem_nil, true_or, or_true, false_or, or_false, and_true, true_and, and_self, List.getElem?_cons_succ, List.getElem?_cons_zero, Option.bind_some, Option.map_some, Option.map_none, List.map_cons, List.map_nil, List.length_cons, List.length_nil, List.filterMap_cons, List.filterMap_nil, List.cons_append, List.nil_append, List.append_nil, Nat.zero_add, Nat.add_zero, List.take_succ_cons, List.take_zero, List.take_nil, List.drop_succ_cons, List.drop_zero, List.drop_nil, List.all_cons, List.all_nil, Bool.and_true, Bool.true_and, Bool.false_and, Bool.and_false, reduceCtorEq, beq_iff_eq, beq_self_eq_true]
        rw [List.drop_zero] at hf
        refine bodyK_mk (hq_loop hsrc E _ _) rfl ?_
        rw [hq_put hsrc]
        have e1 : stp63 stp (s, false) [placeA i k 0, lx] = (false, ((runIt stp (wIts (intA i) (intA k) 0 els) s).2, true)) := by
          simp only [stp63, placeA, hlx.elems, hf]; rfl
        rw [e1]
        refine ⟨rfl, ?_⟩
        exact trim_plus (H := hq hp E l 111 _) B _ [] [] (by rw [hn])
end Go.Ev
namespace Go.Ev
open Go.Proofs
set_option maxRecDepth 100000
set_option linter.unusedSimpArgs false
def expandL (x : List AV) : List (List AV) := match x with | [.agg [a, b, _], lx] => wIts a b 0 (slElems lx) | _ => []
def allIts (xs : List AV) : List (List AV) := (chapIts 0 xs).flatMap expandL
theorem runIt_cons {S : Type} (stp : S → List AV → Bool × S) (x : List AV) (r : List (List AV)) (s : S) : runIt stp (x :: r) s = if (stp s x).1 then runIt stp r (stp s x).2 else (false, (stp s x).2) := rfl
theorem run63 {S : Type} (stp : S → List AV → Bool × S) : ∀ (items : List (List AV)) (s : S), (∀ x ∈ items, ∃ (i k : Nat) (lx : AV), x = [placeA i k 0, lx]) →
    runIt (stp63 stp) items (s, false) = ((runIt stp (items.flatMap expandL) s).1, ((runIt stp (items.flatMap expandL) s).2, !(runIt stp (items.flatMap expandL) s).1))
  | [], s, _ => rfl
  | x :: r, s, h => by
    obtain ⟨i, k, lx, rfl⟩ := h x List.mem_cons_self
    have ih := run63 stp r
    rw [List.flatMap_cons, runIt_append]
    have e1 : expandL [placeA i k 0, lx] = wIts (intA i) (intA k) 0 (slElems lx) := rfl
    have e2 : stp63 stp (s, false) [placeA i k 0, lx] = ((runIt stp (wIts (intA i) (intA k) 0 (slElems lx)) s).1, ((runIt stp (wIts (intA i) (intA k) 0 (slElems lx)) s).2, !(runIt stp (wIts (intA i) (intA k) 0 (slElems lx)) s).1)) := rfl
    rw [e1, runIt_cons, e2]
    by_cases hq : (runIt stp (wIts (intA i) (intA k) 0 (slElems lx)) s).1 = true
    · simp only [hq, if_true, Bool.not_true]
      exact ih _ fun y hy => h y (List.mem_cons_of_mem _ hy)
    · have hq' : (runIt stp (wIts (intA i) (intA k) 0 (slElems lx)) s).1 = false := by simpa using hq
      simp only [hq', Bool.false_eq_true, if_false, Bool.not_false]
/-- a chapter of lines of texts in memory that nothing turns -/
def OkCh2 (y : AV) : Prop := ∃ id l0 lxs, y = .agg [intA id, l0] ∧ SlOf 1 lxs l0 ∧ lxs.length < 2 ^ 63 ∧ ∀ x ∈ lxs, ∃ els, SlOf 1 els x ∧ (∀ z ∈ els, z.cells = [z]) ∧ els.length < 2 ^ 63
theorem OkCh2.ok {y : AV} (h : OkCh2 y) : OkCh y := by
  obtain ⟨id, l0, lxs, h1, h2, h3, h4⟩ := h
  exact ⟨id, l0, lxs, h1, h2, fun x hx => by obtain ⟨els, h5, -⟩ := h4 x hx; exact h5.cells, h3⟩
theorem chapIts_of : ∀ (xs : List AV) (k : Nat) (x : List AV), x ∈ chapIts k xs → ∃ i y j z, xs[i]? = some y ∧ (linesOf y)[j]? = some z ∧ x = [placeA (k + i) j 0, z]
  | [], _, _, h => by simp [chapIts] at h
  | y :: r, k, x, h => by
    rcases List.mem_append.1 h with h | h
    · obtain ⟨j, z, h1, rfl⟩ := lineIts_of k _ 0 x h
      exact ⟨0, y, j, z, rfl, h1, by rw [Nat.zero_add]; rfl⟩
    · obtain ⟨i, y', j, z, h1, h2, rfl⟩ := chapIts_of r (k + 1) x h
      exact ⟨i + 1, y', j, z, by simpa using h1, h2, by rw [show k + 1 + i = k + (i + 1) by omega]⟩
theorem expand_mem {items : List (List AV)} {x y : List AV} (hx : x ∈ items) (hy : y ∈ expandL x) : y ∈ items.flatMap expandL := List.mem_flatMap.2 ⟨x, hx, hy⟩
theorem wIts_mem (a b : AV) : ∀ (l : List AV) (k j : Nat) (x : AV), l[j]? = some x → [placeB a b ((k + j : Nat) : Int), x] ∈ wIts a b k l
  | [], _, j, _, h => by simp at h
  | y :: r, k, 0, x, h => by simp at h; subst h; simp [wIts]
  | y :: r, k, j + 1, x, h => by
    have := wIts_mem a b r (k + 1) j x (by simpa using h)
    rw [show k + 1 + j = k + (j + 1) by omega] at this
    exact List.mem_cons_of_mem _ this
theorem begin_loop {X : Heap} {n : Nat} (hn : X.size = n) (E : List (Option AObj)) (l t : Nat) (L : ALoop) : (((X.plus (E ++ [some (wBox l t)])).put (n + E.length + 1) .dfr).put (n + E.length + 2) (.loop L)) = X.plus (E ++ [some (wBox l t), some .dfr, some (.loop L)]) := by
  have h1 := plus_put_end hn (E ++ [some (wBox l t)]) .dfr
  rw [show n + (E ++ [some (wBox l t)]).length = n + E.length + 1 by simp; omega] at h1
  rw [h1]
  have h2 := plus_put_end hn (E ++ [some (wBox l t)] ++ [some .dfr]) (.loop L)
  rw [show n + (E ++ [some (wBox l t)] ++ [some AObj.dfr]).length = n + E.length + 2 by simp; omega] at h2
  rw [h2]; simp
set_option maxHeartbeats 1000000 in
theorem yields63 {e : Exts} (he : Quiet e) (ch : AV) (xs : List AV) (hch : SlOf 2 xs ch) (hall : ∀ y ∈ xs, OkCh2 y) (hlen : xs.length < 2 ^ 63) : Yields (Cx e) 63 [.ro (.agg [ch]) 0] (allIts xs) := by
  intro l S hp stp ok live n hsrc hok s E hlv
  have hn := hsrc.size
  have hlk : ∀ s, (hp s).lock ≤ n := fun s => by have := hsrc.lock s; have := hsrc.lt; omega
  have hok63 : ∀ x ∈ chapIts 0 xs, ok63 ok x := by
    intro x hx
    obtain ⟨i, y, j, z, hy, hz, rfl⟩ := chapIts_of xs 0 x hx
    obtain ⟨id, l0, lxs, rfl, hl0, -, hlx⟩ := hall y (List.mem_of_getElem? hy)
    have hz' : lxs[j]? = some z := by rw [← hl0.elems]; exact hz
    obtain ⟨els, h1, h2, h3⟩ := hlx z (List.mem_of_getElem? hz')
    rw [Nat.zero_add] at hx ⊢
    refine ⟨i, j, z, els, rfl, h1, h2, h3, fun w u hu => hok _ (expand_mem hx ?_)⟩
    show _ ∈ wIts (intA i) (intA j) 0 (slElems z)
    rw [h1.elems]
    have := wIts_mem (intA i) (intA j) els 0 w u hu
    rwa [Nat.zero_add] at this
  obtain ⟨G, hG⟩ := yields88 (e := e) ch xs hch (fun y hy => (hall y hy).ok) hlen (n + E.length + 2) (S × Bool) _ _ _ _ _ (src63 ch l S hp stp ok live n hsrc E) hok63 (s, false) [] ⟨hlv, rfl⟩
  rw [run63 stp _ s (fun x hx => by obtain ⟨i, k, lx, els, h1, -⟩ := hok63 x hx; exact ⟨i, k, lx, h1⟩)] at hG
  generalize hq0 : runIt stp ((chapIts 0 xs).flatMap expandL) s = q at hG
  have hcb := callB_yld (C := Cx e) (me := 63) (d := none) (l := n + E.length + 2) (by simp) hG
  obtain ⟨G', hG'⟩ := trim_plus (H := hp63 hp E ch l n (q.2, !q.1)) [] G [.tup []] [] (n := ((hp63 hp E ch l n (s, false)).plus []).size) (by rw [plus_size]; unfold hp63; rw [hq_size hsrc, hq_size hsrc])
  rw [hG', List.nil_append] at hcb
  have key : Fn' (Cx e) 63 [.yld l, .ro (.agg [ch]) 0] ((hp s).plus E) fun v H' => v = .tup [] ∧ ∃ G, H' = (hp (runIt stp (allIts xs) s).2).plus (E ++ G) := by
    rw [fn_step (fn_63 e) (show Tryz.f63.body = some _ from rfl)]
    simp -implicitDefEqProofs only [Tryz.f63, intA, go_sem, repeatCells, splice, chunk, bsFin, ne_eq, not_true_eq_false, not_false_eq_true, List.headD_cons, Bool.false_eq_true, Nat.le_refl, Nat.zero_mul, Nat.one_mul, Nat.mul_one, assoc_setI, assoc_keep, ↓reduceIte, Nat.reduceEqDiff, Nat.reduceLT, Nat.reduceLeDiff, Nat.reduceAdd, Nat.reduceSub, Nat.reduceMul, decide_true, decide_false, Bool.not_true, Bool.not_false, List.mem_cons, List.not_mem_nil, true_or, or_true, false_or, or_false, and_true, true_and, and_self, List.getElem?_cons_succ, List.getElem?_cons_zero, Option.bind_some, Option.map_some, Option.map_none, List.map_cons, List.map_nil, List.length_cons, List.length_nil, List.filterMap_cons, List.filterMap_nil, List.cons_append, List.nil_append, List.append_nil, Nat.zero_add, Nat.add_zero, List.take_succ_cons, List.take_zero, List.take_nil, List.drop_succ_cons, List.drop_zero, List.drop_nil, List.all_cons, List.all_nil, Bool.and_true, Bool.true_and, Bool.false_and, Bool.and_false, reduceCtorEq, beq_iff_eq, beq_self_eq_true, hch.cells, hch.flat, hch.bound, plus_size, hn, settle_none (hn _), plus_put_end (hn _), settle_end (hn _), plus_row_at (hn _), call64 he ch xs hch]
    have hsz : ((hp s).plus (E ++ [some (AObj.cells 0 (bound (.yld l)) 111 1 false [.yld l])])).size = n + E.length + 1 := by rw [plus_size, hn]; simp; omega
    have hbeg := begin_loop (hn s) E l 111
    have hq1 : (hp63 hp E ch l n (q.2, !q.1)).plus G' = (hq hp E l 111 (q.2, lp63 ch l (n + E.length) (!q.1))).plus G' := rfl
    have hend : ∃ G2, ((((hp63 hp E ch l n (q.2, !q.1)).plus G').put (n + E.length + 2) .dead).put (n + E.length + 1) .dead) = (hp q.2).plus (E ++ G2) ∧ (((hp63 hp E ch l n (q.2, !q.1)).plus G').put (n + E.length + 2) .dead).get (n + E.length + 1) = some .dfr ∧ (((hp63 hp E ch l n (q.2, !q.1)).plus G').put (n + E.length + 2) .dead).lock ≤ n + E.length + 1 := by
      have hA : (hp63 hp E ch l n (q.2, !q.1)).plus G' = (hp q.2).plus ((E ++ [some (wBox l 111), some .dfr]) ++ some (.loop (lp63 ch l (n + E.length) (!q.1))) :: G') := by
        unfold hp63 hq; rw [plus_plus]; simp
      have h1 := plus_mid_put (hn q.2) (E ++ [some (wBox l 111), some .dfr]) G' (some (.loop (lp63 ch l (n + E.length) (!q.1)))) .dead
      rw [show n + (E ++ [some (wBox l 111), some AObj.dfr]).length = n + E.length + 2 by simp; omega] at h1
      rw [hA, h1]
      have hB : (E ++ [some (wBox l 111), some AObj.dfr]) ++ some .dead :: G' = (E ++ [some (wBox l 111)]) ++ some .dfr :: some .dead :: G' := by simp
      have hl1 : n + (E ++ [some (wBox l 111)]).length = n + E.length + 1 := by simp; omega
      have h2 := plus_mid_put (hn q.2) (E ++ [some (wBox l 111)]) (some .dead :: G') (some .dfr) .dead
      have h3 := plus_mid_get (hn q.2) (E ++ [some (wBox l 111)]) (some .dead :: G') (some .dfr)
      rw [hl1] at h2 h3
      rw [hB, h2, h3]
      refine ⟨some (wBox l 111) :: some .dead :: some .dead :: G', by simp, rfl, ?_⟩
      rw [plus_lock]; have := hlk q.2; omega
    obtain ⟨G2, he1, he2, he3⟩ := hend
    have hkill : killAll [n + E.length + 1] (((hp63 hp E ch l n (q.2, !q.1)).plus G').put (n + E.length + 2) .dead) = some ((hp q.2).plus (E ++ G2)) := by
      unfold killAll; rw [he2]; simp only; rw [if_pos he3, he1]; rfl
    refine wp_range0 (f := 88) (first := []) (cap := [.ro (.agg [ch]) 0]) rfl (v := .tup []) (H2 := (hp63 hp E ch l n (q.2, !q.1)).plus G') ?_ (r := lp63 ch l (n + E.length) (!q.1)) ?_ ?_ ?_ ?_
    · rw [hsz]
      have hh : hp63 hp E ch l n (s, false) = (hp s).plus (E ++ [some (wBox l 111), some .dfr, some (.loop (lp63 ch l (n + E.length) false))]) := rfl
      rw [plus_nil, hh, ← hbeg] at hcb
      exact hcb
    · rw [hsz, hq1]; exact hq_loop hsrc E _ G'
    · unfold lp63 lr63; cases q.1 <;> simp
    · rw [hsz]; rfl
    · rw [hsz]
      have hfin : ∀ (ex : AExit), ex = .normal ∨ ex = .ret → AtK (blkK 0 (finK (Cx e) [] fun v H' => v = .tup [] ∧ ∃ G, H' = (hp (runIt stp (allIts xs) s).2).plus (E ++ G))) ex ⟨26, [(0, .yld l), (1, .ro (.agg [ch]) 0), (2, .ptr (n + E.length) 0 0), (8, .fn (.func 88) [] [.ro (.agg [ch]) 0])], [n + E.length + 1]⟩ (((hp63 hp E ch l n (q.2, !q.1)).plus G').put (n + E.length + 2) .dead) := by
        rintro ex (rfl | rfl)
        · simp -implicitDefEqProofs only [go_sem, repeatCells, splice, chunk, bsFin, ne_eq, not_true_eq_false, not_false_eq_true, List.headD_cons, Bool.false_eq_true, Nat.le_refl, Nat.zero_mul, Nat.one_mul, Nat.mul_one, assoc_setI, assoc_keep, ↓reduceIte, Nat.reduceEqDiff, Nat.reduceLT, Nat.reduceLeDiff, Nat.reduceAdd, Nat.reduceSub, Nat.reduceMul, decide_true, decide_false, Bool.not_true, Bool.not_false, List.mem_cons, List.not_mem_nil, true_or, or_true, false_or, or_false, and_true, true_and, and_self, List.getElem?_cons_succ, List.getElem?_cons_zero, Option.bind_some, Option.map_some, Option.map_none, List.map_cons, List.map_nil, List.length_cons, List.length_nil, List.filterMap_cons, List.filterMap_nil, List.cons_append, List.nil_append, List.append_nil, Nat.zero_add, Nat.add_zero, List.take_succ_cons, List.take_zero, List.take_nil, List.drop_succ_cons, List.drop_zero, List.drop_nil, List.all_cons, List.all_nil, Bool.and_true, Bool.true_and, Bool.false_and, Bool.and_false, reduceCtorEq, beq_iff_eq, beq_self_eq_true, hkill]
          exact ⟨rfl, G2, by unfold allIts; rw [hq0]⟩
        · simp -implicitDefEqProofs only [go_sem, repeatCells, splice, chunk, bsFin, ne_eq, not_true_eq_false, not_false_eq_true, List.headD_cons, Bool.false_eq_true, Nat.le_refl, Nat.zero_mul, Nat.one_mul, Nat.mul_one, assoc_setI, assoc_keep, ↓reduceIte, Nat.reduceEqDiff, Nat.reduceLT, Nat.reduceLeDiff, Nat.reduceAdd, Nat.reduceSub, Nat.reduceMul, decide_true, decide_false, Bool.not_true, Bool.not_false, List.mem_cons, List.not_mem_nil, true_or, or_true, false_or, or_false, and_true, true_and, and_self, List.getElem?_cons_succ, List.getElem?_cons_zero, Option.bind_some, Option.map_some, Option.map_none, List.map_cons, List.map_nil, List.length_cons, List.length_nil, List.filterMap_cons, List.filterMap_nil, List.cons_append, List.nil_append, List.append_nil, Nat.zero_add, Nat.add_zero, List.take_succ_cons, List.take_zero, List.take_nil, List.drop_succ_cons, List.drop_zero, List.drop_nil, List.all_cons, List.all_nil, Bool.and_true, Bool.true_and, Bool.false_and, Bool.and_false, reduceCtorEq, beq_iff_eq, beq_self_eq_true, hkill]
          exact ⟨rfl, G2, by unfold allIts; rw [hq0]⟩
      cases hb : q.1
      · rw [hb] at hfin; exact hfin .ret (Or.inr rfl)
      · rw [hb] at hfin; exact hfin .normal (Or.inl rfl)
  obtain ⟨v, H', h1, rfl, G, rfl⟩ := fn_ex key
  exact ⟨G, h1⟩
end Go.Ev
namespace Go.Ev
open Go.Proofs
set_option maxRecDepth 100000
set_option linter.unusedSimpArgs false
/-! ### calls on memory that is there -/
theorem call_k2 {C : Cfg} {me f : FuncId} {d : Option Tmp} {args : List AV} {H : Heap} {x : Value} (hx : C.ext f = none) (hp : C.pure me f d = true) (hb : Nat.beq (boundL args) 0 = false) (hy : args.any isYld = false)
    (h : Fn' C f args { H with lock := H.size } fun v _ => v = .v x) : callA C (lim C) me f d args H = some (.v x, H) := by
  obtain ⟨v, H', h1, rfl⟩ := fn_ex h
  have hk : callKind C me f d args = 2 := by unfold callKind; rw [hp, hb, hy]; rfl
  unfold callA; rw [hx]; simp only
  unfold callB; rw [hk]; simp only [h1]
  rfl
theorem call_k0 {C : Cfg} {me f : FuncId} {d : Option Tmp} {args : List AV} {H : Heap} {x : Value} (hx : C.ext f = none) (hp : C.pure me f d = false)
    (h : Fn' C f args H fun v H' => v = .v x ∧ H' = H) : callA C (lim C) me f d args H = some (.v x, H) := by
  obtain ⟨v, H', h1, rfl, rfl⟩ := fn_ex h
  have hk : callKind C me f d args = 0 := by unfold callKind; rw [hp]; rfl
  unfold callA; rw [hx]; simp only
  unfold callB; rw [hk]; simp only [h1, trim_size]
set_option maxHeartbeats 1000000 in
theorem ans51 {e : Exts} (he : Quiet e) (n : Int) : Ans (Cx e) 51 [intA n] (.v (.bool (withinB 0 9999 [n]))) := by
  unfold Ans
  rw [fn_step (fn_51 e) (show Tryz.f51.body = some _ from rfl)]
  have hc := call69 he 0 9999 [n] (by simp) (.vs 1 [.v (.int .i64 n)] (some 1)) (Or.inr ⟨_, rfl⟩)
  unfold intA at hc
  simp -implicitDefEqProofs only [Tryz.f51, intA, go_sem, repeatCells, splice, chunk, bsFin, ne_eq, not_true_eq_false, not_false_eq_true, List.headD_cons, Bool.false_eq_true, Nat.le_refl, Nat.zero_mul, Nat.one_mul, Nat.mul_one, assoc_setI, assoc_keep, ↓reduceIte, Nat.reduceEqDiff, Nat.reduceLT, Nat.reduceLeDiff, Nat.reduceAdd, Nat.reduceSub, Nat.reduceMul, decide_true, decide_false, Bool.not_true, Bool.not_false, List.mem_cons, List.not_mem_nil, true_or, or_true, false_or, or_false, and_true, true_and, and_self, List.getElem?_cons_succ, List.getElem?_cons_zero, Option.bind_some, Option.map_some, Option.map_none, List.map_cons, List.map_nil, List.length_cons, List.length_nil, List.filterMap_cons, List.filterMap_nil, List.cons_append, List.nil_append, List.append_nil, Nat.zero_add, Nat.add_zero, List.take_succ_cons, List.take_zero, List.take_nil, List.drop_succ_cons, List.drop_zero, List.drop_nil, List.all_cons, List.all_nil, Bool.and_true, Bool.true_and, Bool.false_and, Bool.and_false, reduceCtorEq, beq_iff_eq, beq_self_eq_true, hc]
theorem call51 {e : Exts} (he : Quiet e) (n : Int) (me : FuncId) (d : Option Tmp) (H : Heap) : callA (Cx e) (lim (Cx e)) me 51 d [.v (.int .i64 n)] H = some (.v (.bool (withinB 0 9999 [n])), H) :=
  (ans51 he n).call (ext_51 he) (pure_51 _ _ _) rfl H
theorem callI51 {e : Exts} (he : Quiet e) (n : Int) (me : FuncId) (d : Option Tmp) : callI (Cx e) me 51 d [.v (.int .i64 n)] = some (.v (.bool (withinB 0 9999 [n]))) :=
  (ans51 he n).callI (ext_51 he) (pure_51 _ _ _) rfl
set_option maxHeartbeats 1000000 in
theorem ans82 {e : Exts} (he : Quiet e) (n : Int) : Ans (Cx e) 82 [.vs 1 [intA n] (some 1)] (.v (.bool (withinB 1 10 [n]))) := by
  unfold Ans
  rw [fn_step (fn_82 e) (show Tryz.f82.body = some _ from rfl)]
  have hc := call69 he 1 10 [n] (by simp) (.vs 1 [.v (.int .i64 n)] (some 1)) (Or.inr ⟨_, rfl⟩)
  unfold intA at hc
  simp -implicitDefEqProofs only [Tryz.f82, intA, go_sem, repeatCells, splice, chunk, bsFin, ne_eq, not_true_eq_false, not_false_eq_true, List.headD_cons, Bool.false_eq_true, Nat.le_refl, Nat.zero_mul, Nat.one_mul, Nat.mul_one, assoc_setI, assoc_keep, ↓reduceIte, Nat.reduceEqDiff, Nat.reduceLT, Nat.reduceLeDiff, Nat.reduceAdd, Nat.reduceSub, Nat.reduceMul, decide_true, decide_false, Bool.not_true, Bool.not_false, List.mem_cons, List.not_mem_nil, true_or, or_true, false_or, or_false, and_true, true_and, and_self, List.getElem?_cons_succ, List.getElem?_cons_zero, Option.bind_some, Option.map_some, Option.map_none, List.map_cons, List.map_nil, List.length_cons, List.length_nil, List.filterMap_cons, List.filterMap_nil, List.cons_append, List.nil_append, List.append_nil, Nat.zero_add, Nat.add_zero, List.take_succ_cons, List.take_zero, List.take_nil, List.drop_succ_cons, List.drop_zero, List.drop_nil, List.all_cons, List.all_nil, Bool.and_true, Bool.true_and, Bool.false_and, Bool.and_false, reduceCtorEq, beq_iff_eq, beq_self_eq_true, hc]
theorem call82 {e : Exts} (he : Quiet e) (n : Int) (me : FuncId) (d : Option Tmp) (H : Heap) : callA (Cx e) (lim (Cx e)) me 82 d [.vs 1 [.v (.int .i64 n)] (some 1)] H = some (.v (.bool (withinB 1 10 [n])), H) :=
  (ans82 he n).call (ext_82 he) (pure_82 _ _ _) rfl H
/-! ### hasId -/
def hId (id : Int) : Heap := ⟨[some (.cells 0 0 3 1 false [intA id])], 0⟩
set_option maxHeartbeats 1000000 in
theorem call101 {e : Exts} (he : Quiet e) (id n : Int) (l : AV) (ls : List AV) (hl : SlOf 1 ls l) (me : FuncId) (d : Option Tmp) : callA (Cx e) (lim (Cx e)) me 101 d [.agg [.v (.int .i64 n), l], .ptr 0 0 0] (hId id) = some (.v (.bool (decide (n = id))), hId id) := by
  refine call_k2 (ext_101 he) (pure_101 _ _ _) (by simp only [boundL_cons, bound_agg, bound_ptr, bound_v, hl.bound, boundL_nil]; rfl) rfl ?_
  rw [fn_step (fn_101 e) (show Tryz.f101.body = some _ from rfl)]
  simp -implicitDefEqProofs only [Tryz.f101, hId, intA, go_sem, repeatCells, splice, chunk, bsFin, ne_eq, not_true_eq_false, not_false_eq_true, List.headD_cons, Bool.false_eq_true, Nat.le_refl, Nat.zero_mul, Nat.one_mul, Nat.mul_one, assoc_setI, assoc_keep, ↓reduceIte, Nat.reduceEqDiff, Nat.reduceLT, Nat.reduceLeDiff, Nat.reduceAdd, Nat.reduceSub, Nat.reduceMul, decide_true, decide_false, Bool.not_true, Bool.not_false, List.mem_cons, List.not_mem_nil, true_or, or_true, false_or, or_false, and_true, true_and, and_self, List.getElem?_cons_succ, List.getElem?_cons_zero, Option.bind_some, Option.map_some, Option.map_none, List.map_cons, List.map_nil, List.length_cons, List.length_nil, List.filterMap_cons, List.filterMap_nil, List.cons_append, List.nil_append, List.append_nil, Nat.zero_add, Nat.add_zero, List.take_succ_cons, List.take_zero, List.take_nil, List.drop_succ_cons, List.drop_zero, List.drop_nil, List.all_cons, List.all_nil, Bool.and_true, Bool.true_and, Bool.false_and, Bool.and_false, reduceCtorEq, beq_iff_eq, beq_self_eq_true, hl.cells, hl.flat, hl.bound]
  rfl
noncomputable def body120 : Code := ((Tryz.f120.body.map loops).getD [])[0]?.getD .skip
set_option maxHeartbeats 1000000 in
theorem loop120 {e : Exts} (he : Quiet e) (id : Int) (t : Txt) (x : AV) (xs : List AV) (hx : SlOf 2 xs x) (hall : All2 ChapA t xs) (hn : t.length < 2 ^ 63) (K : Post) :
    ∀ m j : Nat, j + m = t.length → ((t.drop j).any (fun c => decide (c.1 = id)) = false → ∀ tl, AtK K (.exit 0) ⟨19, tl, []⟩ (hId id)) → ((t.drop j).any (fun c => decide (c.1 = id)) = true → ∀ (n : Nat) tl, assoc 4 tl = some (intA n) → AtK K .ret ⟨19, tl, []⟩ (hId id)) →
    Lp (Cx e) 120 none [0, 1, 4, 7, 8] body120 ⟨19, [(0, x), (1, .fn (.func 101) [] [.ptr 0 0 0]), (4, intA 0), (7, intA t.length), (8, intA j)], []⟩ (hId id) K := by
  intro m
  induction m with
  | zero =>
    intro j hj h1 h2
    rw [Lp_step]
    generalize hK : loopK (Cx e) 120 none _ body120 _ K = KK
    unfold body120
    obtain rfl : j = t.length := by omega
    simp only [Tryz.f120, loops, Option.map_some, Option.getD_some, List.nil_append, List.append_nil, List.cons_append, List.getElem?_cons_zero, List.getElem?_cons_succ]
    simp -implicitDefEqProofs only [go_sem, repeatCells, splice, chunk, bsFin, ne_eq, not_true_eq_false, not_false_eq_true, List.headD_cons, Bool.false_eq_true, Nat.le_refl, Nat.zero_mul, Nat.one_mul, Nat.mul_one, assoc_setI, assoc_keep, ↓reduceIte, Nat.reduceEqDiff, Nat.reduceLT, Nat.reduceLeDiff, Nat.reduceAdd, Nat.reduceSub, Nat.reduceMul, decide_true, decide_false, Bool.not_true, Bool.not_false, List.mem_cons, List.not_mem_nil, true_or, or_true, false_or, or_false, and_true, true_and, and_self, List.getElem?_cons_succ, List.getElem?_cons_zero, Option.bind_some, Option.map_some, Option.map_none, List.map_cons, List.map_nil, List.length_cons, List.length_nil, List.filterMap_cons, List.filterMap_nil, List.cons_append, List.nil_append, List.append_nil, Nat.zero_add, Nat.add_zero, List.take_succ_cons, List.take_zero, List.take_nil, List.drop_succ_cons, List.drop_zero, List.drop_nil, List.all_cons, List.all_nil, Bool.and_true, Bool.true_and, Bool.false_and, Bool.and_false, reduceCtorEq, beq_iff_eq, beq_self_eq_true, intA, hId, Int.lt_irrefl]
    subst hK
    simp -implicitDefEqProofs only [go_sem, repeatCells, splice, chunk, bsFin, ne_eq, not_true_eq_false, not_false_eq_true, List.headD_cons, Bool.false_eq_true, Nat.le_refl, Nat.zero_mul, Nat.one_mul, Nat.mul_one, assoc_setI, assoc_keep, ↓reduceIte, Nat.reduceEqDiff, Nat.reduceLT, Nat.reduceLeDiff, Nat.reduceAdd, Nat.reduceSub, Nat.reduceMul, decide_true, decide_false, Bool.not_true, Bool.not_false, List.mem_cons, List.not_mem_nil, true_or, or_true, false_or, or_false, and_true, true_and, and_self, List.getElem?_cons_succ, List.getElem?_cons_zero, Option.bind_some, Option.map_some, Option.map_none, List.map_cons, List.map_nil, List.length_cons, List.length_nil, List.filterMap_cons, List.filterMap_nil, List.cons_append, List.nil_append, List.append_nil, Nat.zero_add, Nat.add_zero, List.take_succ_cons, List.take_zero, List.take_nil, List.drop_succ_cons, List.drop_zero, List.drop_nil, List.all_cons, List.all_nil, Bool.and_true, Bool.true_and, Bool.false_and, Bool.and_false, reduceCtorEq, beq_iff_eq, beq_self_eq_true, hId]
    exact h1 (by simp) _
  | succ m ih =>
    intro j hj h1 h2
    obtain ⟨c, hs⟩ := at_lt t j (by omega)
    obtain ⟨y, hy, l, rfl, ls, hl, -⟩ := hall.get hs
    have hd := drop_any (fun c : Chap => decide (c.1 = id)) t j c hs
    have hlt : (j : Int) < ((t.length : Nat) : Int) := by omega
    have hw := wrap_succ j (by omega)
    have hc := call101 he id c.1 l ls hl
    unfold hId intA at hc
    rw [Lp_step]
    generalize hK : loopK (Cx e) 120 none _ body120 _ K = KK
    unfold body120
    simp only [Tryz.f120, loops, Option.map_some, Option.getD_some, List.nil_append, List.append_nil, List.cons_append, List.getElem?_cons_zero, List.getElem?_cons_succ]
    by_cases c1 : c.1 = id
    · simp only [c1, decide_true] at hc
      simp -implicitDefEqProofs only [go_sem, repeatCells, splice, chunk, bsFin, ne_eq, not_true_eq_false, not_false_eq_true, List.headD_cons, Bool.false_eq_true, Nat.le_refl, Nat.zero_mul, Nat.one_mul, Nat.mul_one, assoc_setI, assoc_keep, ↓reduceIte, Nat.reduceEqDiff, Nat.reduceLT, Nat.reduceLeDiff, Nat.reduceAdd, Nat.reduceSub, Nat.reduceMul, decide_true, decide_false, Bool.not_true, Bool.not_false, List.mem_cons, List.not_mem_nil, true_or, or_true, false_or, or_false, and_true, true_and, and_self, List.getElem?_cons_succ, List.getElem?_cons_zero, Option.bind_some, Option.map_some, Option.map_none, List.map_cons, List.map_nil, List.length_cons, List.length_nil, List.filterMap_cons, List.filterMap_nil, List.cons_append, List.nil_append, List.append_nil, Nat.zero_add, Nat.add_zero, List.take_succ_cons, List.take_zero, List.take_nil, List.drop_succ_cons, List.drop_zero, List.drop_nil, List.all_cons, List.all_nil, Bool.and_true, Bool.true_and, Bool.false_and, Bool.and_false, reduceCtorEq, beq_iff_eq, beq_self_eq_true, intA, hId, hlt, hw, hx.idx hy, hc, c1]
      subst hK
      simp -implicitDefEqProofs only [go_sem, repeatCells, splice, chunk, bsFin, ne_eq, not_true_eq_false, not_false_eq_true, List.headD_cons, Bool.false_eq_true, Nat.le_refl, Nat.zero_mul, Nat.one_mul, Nat.mul_one, assoc_setI, assoc_keep, ↓reduceIte, Nat.reduceEqDiff, Nat.reduceLT, Nat.reduceLeDiff, Nat.reduceAdd, Nat.reduceSub, Nat.reduceMul, decide_true, decide_false, Bool.not_true, Bool.not_false, List.mem_cons, List.not_mem_nil, true_or, or_true, false_or, or_false, and_true, true_and, and_self, List.getElem?_cons_succ, List.getElem?_cons_zero, Option.bind_some, Option.map_some, Option.map_none, List.map_cons, List.map_nil, List.length_cons, List.length_nil, List.filterMap_cons, List.filterMap_nil, List.cons_append, List.nil_append, List.append_nil, Nat.zero_add, Nat.add_zero, List.take_succ_cons, List.take_zero, List.take_nil, List.drop_succ_cons, List.drop_zero, List.drop_nil, List.all_cons, List.all_nil, Bool.and_true, Bool.true_and, Bool.false_and, Bool.and_false, reduceCtorEq, beq_iff_eq, beq_self_eq_true]
      exact h2 (by rw [hd]; simp [c1]) j _ rfl
    · simp only [c1, decide_false] at hc
      simp -implicitDefEqProofs only [go_sem, repeatCells, splice, chunk, bsFin, ne_eq, not_true_eq_false, not_false_eq_true, List.headD_cons, Bool.false_eq_true, Nat.le_refl, Nat.zero_mul, Nat.one_mul, Nat.mul_one, assoc_setI, assoc_keep, ↓reduceIte, Nat.reduceEqDiff, Nat.reduceLT, Nat.reduceLeDiff, Nat.reduceAdd, Nat.reduceSub, Nat.reduceMul, decide_true, decide_false, Bool.not_true, Bool.not_false, List.mem_cons, List.not_mem_nil, true_or, or_true, false_or, or_false, and_true, true_and, and_self, List.getElem?_cons_succ, List.getElem?_cons_zero, Option.bind_some, Option.map_some, Option.map_none, List.map_cons, List.map_nil, List.length_cons, List.length_nil, List.filterMap_cons, List.filterMap_nil, List.cons_append, List.nil_append, List.append_nil, Nat.zero_add, Nat.add_zero, List.take_succ_cons, List.take_zero, List.take_nil, List.drop_succ_cons, List.drop_zero, List.drop_nil, List.all_cons, List.all_nil, Bool.and_true, Bool.true_and, Bool.false_and, Bool.and_false, reduceCtorEq, beq_iff_eq, beq_self_eq_true, intA, hId, hlt, hw, hx.idx hy, hc]
      subst hK
      simp -implicitDefEqProofs only [go_sem, repeatCells, splice, chunk, bsFin, ne_eq, not_true_eq_false, not_false_eq_true, List.headD_cons, Bool.false_eq_true, Nat.le_refl, Nat.zero_mul, Nat.one_mul, Nat.mul_one, assoc_setI, assoc_keep, ↓reduceIte, Nat.reduceEqDiff, Nat.reduceLT, Nat.reduceLeDiff, Nat.reduceAdd, Nat.reduceSub, Nat.reduceMul, decide_true, decide_false, Bool.not_true, Bool.not_false, List.mem_cons, List.not_mem_nil, true_or, or_true, false_or, or_false, and_true, true_and, and_self, List.getElem?_cons_succ, List.getElem?_cons_zero, Option.bind_some, Option.map_some, Option.map_none, List.map_cons, List.map_nil, List.length_cons, List.length_nil, List.filterMap_cons, List.filterMap_nil, List.cons_append, List.nil_append, List.append_nil, Nat.zero_add, Nat.add_zero, List.take_succ_cons, List.take_zero, List.take_nil, List.drop_succ_cons, List.drop_zero, List.drop_nil, List.all_cons, List.all_nil, Bool.and_true, Bool.true_and, Bool.false_and, Bool.and_false, reduceCtorEq, beq_iff_eq, beq_self_eq_true, hId]
      rw [hd] at h1 h2
      simp only [c1, decide_false, Bool.false_or] at h1 h2
      exact ih (j + 1) (by omega) h1 h2
def hasIdB (t : Txt) (id : Int) : Bool := t.any fun c => decide (c.1 = id)
theorem pure120 (e : Exts) (h : FuncId) (d : Option Tmp) : (Cx e).pure h 120 d = false := by simp [Cx, pureF, impF, impC]
theorem pure100 (e : Exts) (h : FuncId) (d : Option Tmp) : (Cx e).pure h 100 d = false := by simp [Cx, pureF, impF, impC]
set_option maxHeartbeats 1000000 in
theorem fn120 {e : Exts} (he : Quiet e) (id : Int) (t : Txt) (x : AV) (xs : List AV) (hx : SlOf 2 xs x) (hall : All2 ChapA t xs) (hn : t.length < 2 ^ 63) :
    ∃ n : Int, decide (0 ≤ n) = hasIdB t id ∧ Fn' (Cx e) 120 [x, .fn (.func 101) [] [.ptr 0 0 0]] (hId id) fun v H' => v = intA n ∧ H' = hId id := by
  have key : Fn' (Cx e) 120 [x, .fn (.func 101) [] [.ptr 0 0 0]] (hId id) fun v H' => (∃ n : Int, decide (0 ≤ n) = hasIdB t id ∧ v = intA n) ∧ H' = hId id := by
    rw [fn_step (fn_120 e) (show Tryz.f120.body = some _ from rfl)]
    simp -implicitDefEqProofs only [Tryz.f120, hId, intA, go_sem, repeatCells, splice, chunk, bsFin, ne_eq, not_true_eq_false, not_false_eq_true, List.headD_cons, Bool.false_eq_true, Nat.le_refl, Nat.zero_mul, Nat.one_mul, Nat.mul_one, assoc_setI, assoc_keep, ↓reduceIte, Nat.reduceEqDiff, Nat.reduceLT, Nat.reduceLeDiff, Nat.reduceAdd, Nat.reduceSub, Nat.reduceMul, decide_true, decide_false, Bool.not_true, Bool.not_false, List.mem_cons, List.not_mem_nil, true_or, or_true, false_or, or_false, and_true, true_and, and_self, List.getElem?_cons_succ, List.getElem?_cons_zero, Option.bind_some, Option.map_some, Option.map_none, List.map_cons, List.map_nil, List.length_cons, List.length_nil, List.filterMap_cons, List.filterMap_nil, List.cons_append, List.nil_append, List.append_nil, Nat.zero_add, Nat.add_zero, List.take_succ_cons, List.take_zero, List.take_nil, List.drop_succ_cons, List.drop_zero, List.drop_nil, List.all_cons, List.all_nil, Bool.and_true, Bool.true_and, Bool.false_and, Bool.and_false, reduceCtorEq, beq_iff_eq, beq_self_eq_true, hx.len, ← hall.1]
    refine loop120 he id t x xs hx hall hn _ t.length 0 (by omega) ?_ ?_
    · intro hf tl
      simp -implicitDefEqProofs only [go_sem, repeatCells, splice, chunk, bsFin, ne_eq, not_true_eq_false, not_false_eq_true, List.headD_cons, Bool.false_eq_true, Nat.le_refl, Nat.zero_mul, Nat.one_mul, Nat.mul_one, assoc_setI, assoc_keep, ↓reduceIte, Nat.reduceEqDiff, Nat.reduceLT, Nat.reduceLeDiff, Nat.reduceAdd, Nat.reduceSub, Nat.reduceMul, decide_true, decide_false, Bool.not_true, Bool.not_false, List.mem_cons, List.not_mem_nil, true_or, or_true, false_or, or_false, and_true, true_and, and_self, List.getElem?_cons_succ, List.getElem?_cons_zero, Option.bind_some, Option.map_some, Option.map_none, List.map_cons, List.map_nil, List.length_cons, List.length_nil, List.filterMap_cons, List.filterMap_nil, List.cons_append, List.nil_append, List.append_nil, Nat.zero_add, Nat.add_zero, List.take_succ_cons, List.take_zero, List.take_nil, List.drop_succ_cons, List.drop_zero, List.drop_nil, List.all_cons, List.all_nil, Bool.and_true, Bool.true_and, Bool.false_and, Bool.and_false, reduceCtorEq, beq_iff_eq, beq_self_eq_true, hId]
      exact ⟨⟨-1, by unfold hasIdB; rw [List.drop_zero] at hf; rw [hf]; rfl, rfl⟩, rfl⟩
    · intro hf n tl htl
      simp -implicitDefEqProofs only [go_sem, repeatCells, splice, chunk, bsFin, ne_eq, not_true_eq_false, not_false_eq_true, List.headD_cons, Bool.false_eq_true, Nat.le_refl, Nat.zero_mul, Nat.one_mul, Nat.mul_one, assoc_setI, assoc_keep, ↓reduceIte, Nat.reduceEqDiff, Nat.reduceLT, Nat.reduceLeDiff, Nat.reduceAdd, Nat.reduceSub, Nat.reduceMul, decide_true, decide_false, Bool.not_true, Bool.not_false, List.mem_cons, List.not_mem_nil, true_or, or_true, false_or, or_false, and_true, true_and, and_self, List.getElem?_cons_succ, List.getElem?_cons_zero, Option.bind_some, Option.map_some, Option.map_none, List.map_cons, List.map_nil, List.length_cons, List.length_nil, List.filterMap_cons, List.filterMap_nil, List.cons_append, List.nil_append, List.append_nil, Nat.zero_add, Nat.add_zero, List.take_succ_cons, List.take_zero, List.take_nil, List.drop_succ_cons, List.drop_zero, List.drop_nil, List.all_cons, List.all_nil, Bool.and_true, Bool.true_and, Bool.false_and, Bool.and_false, reduceCtorEq, beq_iff_eq, beq_self_eq_true, htl]
      exact ⟨⟨n, by unfold hasIdB; rw [List.drop_zero] at hf; rw [hf]; simp, rfl⟩, rfl⟩
  obtain ⟨v, H', h1, ⟨n, hnn, rfl⟩, rfl⟩ := fn_ex key
  refine ⟨n, hnn, ?_⟩
  unfold Fn'; rw [h1]; exact ⟨rfl, rfl⟩
set_option maxHeartbeats 1000000 in
theorem call100 {e : Exts} (he : Quiet e) (id : Int) (t : Txt) (x : AV) (xs : List AV) (hx : SlOf 2 xs x) (hall : All2 ChapA t xs) (hn : t.length < 2 ^ 63) (me : FuncId) (d : Option Tmp) :
    callA (Cx e) (lim (Cx e)) me 100 d [x, .fn (.func 101) [] [.ptr 0 0 0]] (hId id) = some (.v (.bool (hasIdB t id)), hId id) := by
  refine call_k0 (ext_100 he) (pure100 _ _ _) ?_
  obtain ⟨n, hnn, hf⟩ := fn120 he id t x xs hx hall hn
  have hc := call_k0 (me := 100) (d := some 7) (ext_120 he) (pure120 e _ _) hf
  unfold hId intA at hc
  rw [fn_step (fn_100 e) (show Tryz.f100.body = some _ from rfl)]
  simp -implicitDefEqProofs only [Tryz.f100, hId, intA, go_sem, repeatCells, splice, chunk, bsFin, ne_eq, not_true_eq_false, not_false_eq_true, List.headD_cons, Bool.false_eq_true, Nat.le_refl, Nat.zero_mul, Nat.one_mul, Nat.mul_one, assoc_setI, assoc_keep, ↓reduceIte, Nat.reduceEqDiff, Nat.reduceLT, Nat.reduceLeDiff, Nat.reduceAdd, Nat.reduceSub, Nat.reduceMul, decide_true, decide_false, Bool.not_true, Bool.not_false, List.mem_cons, List.not_mem_nil, true_or, or_true, false_or, or_false, and_true, true_and, and_self, List.getElem?_cons_succ, List.getElem?_cons_zero, Option.bind_some, Option.map_some, Option.map_none, List.map_cons, List.map_nil, List.length_cons, List.length_nil, List.filterMap_cons, List.filterMap_nil, List.cons_append, List.nil_append, List.append_nil, Nat.zero_add, Nat.add_zero, List.take_succ_cons, List.take_zero, List.take_nil, List.drop_succ_cons, List.drop_zero, List.drop_nil, List.all_cons, List.all_nil, Bool.and_true, Bool.true_and, Bool.false_and, Bool.and_false, reduceCtorEq, beq_iff_eq, beq_self_eq_true, hc]
  exact ⟨by rw [hnn], rfl⟩
set_option maxHeartbeats 1000000 in
theorem ans86 {e : Exts} (he : Quiet e) (id : Int) (t : Txt) (x : AV) (xs : List AV) (hx : SlOf 2 xs x) (hall : All2 ChapA t xs) (hn : t.length < 2 ^ 63) : Ans (Cx e) 86 [x, intA id] (.v (.bool (hasIdB t id))) := by
  unfold Ans
  have hc := call100 he id t x xs hx hall hn 86 (some 7)
  unfold hId intA at hc
  rw [fn_step (fn_86 e) (show Tryz.f86.body = some _ from rfl)]
  simp -implicitDefEqProofs only [Tryz.f86, intA, go_sem, repeatCells, splice, chunk, bsFin, ne_eq, not_true_eq_false, not_false_eq_true, List.headD_cons, Bool.false_eq_true, Nat.le_refl, Nat.zero_mul, Nat.one_mul, Nat.mul_one, assoc_setI, assoc_keep, ↓reduceIte, Nat.reduceEqDiff, Nat.reduceLT, Nat.reduceLeDiff, Nat.reduceAdd, Nat.reduceSub, Nat.reduceMul, decide_true, decide_false, Bool.not_true, Bool.not_false, List.mem_cons, List.not_mem_nil, true_or, or_true, false_or, or_false, and_true, true_and, and_self, List.getElem?_cons_succ, List.getElem?_cons_zero, Option.bind_some, Option.map_some, Option.map_none, List.map_cons, List.map_nil, List.length_cons, List.length_nil, List.filterMap_cons, List.filterMap_nil, List.cons_append, List.nil_append, List.append_nil, Nat.zero_add, Nat.add_zero, List.take_succ_cons, List.take_zero, List.take_nil, List.drop_succ_cons, List.drop_zero, List.drop_nil, List.all_cons, List.all_nil, Bool.and_true, Bool.true_and, Bool.false_and, Bool.and_false, reduceCtorEq, beq_iff_eq, beq_self_eq_true, hc]
theorem callI86 {e : Exts} (he : Quiet e) (id : Int) (t : Txt) (x : AV) (xs : List AV) (hx : SlOf 2 xs x) (hall : All2 ChapA t xs) (hn : t.length < 2 ^ 63) (me : FuncId) (d : Option Tmp) : callI (Cx e) me 86 d [x, .v (.int .i64 id)] = some (.v (.bool (hasIdB t id))) :=
  (ans86 he id t x xs hx hall hn).callI (ext_86 he) (pure_86 _ _ _) (by simp only [boundL_cons, hx.bound, intA, bound_v, boundL_nil]; rfl)
/-! ### isLines -/
noncomputable def body87 (n : Nat) : Code := ((Tryz.f87.body.map loops).getD [])[n]?.getD .skip
def okUpto (ls : List Line) (j : Nat) : Nat := ((ls.take j).filter lineB).length
theorem okUpto_succ (ls : List Line) (j : Nat) (l : Line) (h : ls[j]? = some l) : okUpto ls (j + 1) = okUpto ls j + if lineB l then 1 else 0 := by
  obtain ⟨hj, rfl⟩ := List.getElem?_eq_some_iff.1 h
  unfold okUpto
  rw [List.take_succ_eq_append_getElem hj, List.filter_append, List.length_append]
  congr 1
  cases h : lineB ls[j] <;> simp [h]
theorem okUpto_le (ls : List Line) (j : Nat) : okUpto ls j ≤ j := by
  unfold okUpto
  exact Nat.le_trans (List.length_filter_le _ _) (by simp; omega)
theorem okUpto_all (ls : List Line) : (okUpto ls ls.length = ls.length) ↔ ls.all lineB = true := by
  unfold okUpto
  rw [List.take_of_length_le (Nat.le_refl _), List.length_filter_eq_length_iff, List.all_eq_true]
def allW (ws : Line) (j : Nat) : Bool := (ws.drop j).all wordB
set_option maxHeartbeats 1000000 in
theorem loop87w {e : Exts} (he : Quiet e) (x lx : AV) (r nl i : Nat) (ws : Line) (hlx : SlOf 1 (strs ws) lx) (hn : ws.length < 2 ^ 63) (hz : ∀ s ∈ ws, s.size < 2 ^ 63) (K : Post) :
    ∀ m j : Nat, j + m = ws.length → (allW ws j = true → ∀ k : Nat, AtK K (.exit 2) ⟨46, [(0, x), (2, .v (.bool false)), (12, .v (.bool false)), (3, intA r), (14, intA nl), (15, intA i), (16, .v (.bool true)), (4, intA i), (25, .v (.bool false)), (29, lx), (30, intA ws.length), (31, intA k)], []⟩ ⟨[], 0⟩) →
      (allW ws j = false → ∀ k : Nat, AtK K (.exit 1) ⟨46, [(0, x), (2, .v (.bool false)), (12, .v (.bool false)), (3, intA r), (14, intA nl), (15, intA i), (16, .v (.bool true)), (4, intA i), (25, .v (.bool false)), (29, lx), (30, intA ws.length), (31, intA k)], []⟩ ⟨[], 0⟩) →
    Lp (Cx e) 87 none [0, 2, 12, 3, 14, 15, 16, 4, 25, 29, 30, 31] (body87 1) ⟨46, [(0, x), (2, .v (.bool false)), (12, .v (.bool false)), (3, intA r), (14, intA nl), (15, intA i), (16, .v (.bool true)), (4, intA i), (25, .v (.bool false)), (29, lx), (30, intA ws.length), (31, intA j)], []⟩ ⟨[], 0⟩ K := by
  intro m
  induction m with
  | zero =>
    intro j hj h1 h2
    rw [Lp_step]
    generalize hK : loopK (Cx e) 87 none _ (body87 1) _ K = KK
    unfold body87
    obtain rfl : j = ws.length := by omega
    simp only [Tryz.f87, loops, Option.map_some, Option.getD_some, List.nil_append, List.append_nil, List.cons_append, List.getElem?_cons_zero, List.getElem?_cons_succ]
    simp -implicitDefEqProofs only [go_sem, repeatCells, splice, chunk, bsFin, ne_eq, not_true_eq_false, not_false_eq_true, List.headD_cons, Bool.false_eq_true, Nat.le_refl, Nat.zero_mul, Nat.one_mul, Nat.mul_one, assoc_setI, assoc_keep, ↓reduceIte, Nat.reduceEqDiff, Nat.reduceLT, Nat.reduceLeDiff, Nat.reduceAdd, Nat.reduceSub, Nat.reduceMul, decide_true, decide_false, Bool.not_true, Bool.not_false, List.mem_cons, List.not_mem_nil, true_or, or_true, false_or, or_false, and_true, true_and, and_self, List.getElem?_cons_succ, List.getElem?_cons_zero, Option.bind_some, Option.map_some, Option.map_none, List.map_cons, List.map_nil, List.length_cons, List.length_nil, List.filterMap_cons, List.filterMap_nil, List.cons_append, List.nil_append, List.append_nil, Nat.zero_add, Nat.add_zero, List.take_succ_cons, List.take_zero, List.take_nil, List.drop_succ_cons, List.drop_zero, List.drop_nil, List.all_cons, List.all_nil, Bool.and_true, Bool.true_and, Bool.false_and, Bool.and_false, reduceCtorEq, beq_iff_eq, beq_self_eq_true, intA, Int.lt_irrefl]
    subst hK
    simp -implicitDefEqProofs only [go_sem, repeatCells, splice, chunk, bsFin, ne_eq, not_true_eq_false, not_false_eq_true, List.headD_cons, Bool.false_eq_true, Nat.le_refl, Nat.zero_mul, Nat.one_mul, Nat.mul_one, assoc_setI, assoc_keep, ↓reduceIte, Nat.reduceEqDiff, Nat.reduceLT, Nat.reduceLeDiff, Nat.reduceAdd, Nat.reduceSub, Nat.reduceMul, decide_true, decide_false, Bool.not_true, Bool.not_false, List.mem_cons, List.not_mem_nil, true_or, or_true, false_or, or_false, and_true, true_and, and_self, List.getElem?_cons_succ, List.getElem?_cons_zero, Option.bind_some, Option.map_some, Option.map_none, List.map_cons, List.map_nil, List.length_cons, List.length_nil, List.filterMap_cons, List.filterMap_nil, List.cons_append, List.nil_append, List.append_nil, Nat.zero_add, Nat.add_zero, List.take_succ_cons, List.take_zero, List.take_nil, List.drop_succ_cons, List.drop_zero, List.drop_nil, List.all_cons, List.all_nil, Bool.and_true, Bool.true_and, Bool.false_and, Bool.and_false, reduceCtorEq, beq_iff_eq, beq_self_eq_true]
    exact h1 (by unfold allW; rw [List.drop_of_length_le (Nat.le_refl _)]; rfl) _
  | succ m ih =>
    intro j hj h1 h2
    obtain ⟨s, hs⟩ := at_lt ws j (by omega)
    have hd : allW ws j = (wordB s && allW ws (j + 1)) := drop_all _ ws j s hs
    have hlt : (j : Int) < ((ws.length : Nat) : Int) := by omega
    have hw := wrap_succ j (by omega)
    have hc := call49 he s (hz s (List.mem_of_getElem? hs))
    rw [Lp_step]
    generalize hK : loopK (Cx e) 87 none _ (body87 1) _ K = KK
    unfold body87
    simp only [Tryz.f87, loops, Option.map_some, Option.getD_some, List.nil_append, List.append_nil, List.cons_append, List.getElem?_cons_zero, List.getElem?_cons_succ]
    cases c1 : wordB s
    · rw [c1] at hc
      simp -implicitDefEqProofs only [go_sem, repeatCells, splice, chunk, bsFin, ne_eq, not_true_eq_false, not_false_eq_true, List.headD_cons, Bool.false_eq_true, Nat.le_refl, Nat.zero_mul, Nat.one_mul, Nat.mul_one, assoc_setI, assoc_keep, ↓reduceIte, Nat.reduceEqDiff, Nat.reduceLT, Nat.reduceLeDiff, Nat.reduceAdd, Nat.reduceSub, Nat.reduceMul, decide_true, decide_false, Bool.not_true, Bool.not_false, List.mem_cons, List.not_mem_nil, true_or, or_true, false_or, or_false, and_true, true_and, and_self, List.getElem?_cons_succ, List.getElem?_cons_zero, Option.bind_some, Option.map_some, Option.map_none, List.map_cons, List.map_nil, List.length_cons, List.length_nil, List.filterMap_cons, List.filterMap_nil, List.cons_append, List.nil_append, List.append_nil, Nat.zero_add, Nat.add_zero, List.take_succ_cons, List.take_zero, List.take_nil, List.drop_succ_cons, List.drop_zero, List.drop_nil, List.all_cons, List.all_nil, Bool.and_true, Bool.true_and, Bool.false_and, Bool.and_false, reduceCtorEq, beq_iff_eq, beq_self_eq_true, intA, hlt, hw, hlx.idx (strs_get hs), hc]
      subst hK
      simp -implicitDefEqProofs only [go_sem, repeatCells, splice, chunk, bsFin, ne_eq, not_true_eq_false, not_false_eq_true, List.headD_cons, Bool.false_eq_true, Nat.le_refl, Nat.zero_mul, Nat.one_mul, Nat.mul_one, assoc_setI, assoc_keep, ↓reduceIte, Nat.reduceEqDiff, Nat.reduceLT, Nat.reduceLeDiff, Nat.reduceAdd, Nat.reduceSub, Nat.reduceMul, decide_true, decide_false, Bool.not_true, Bool.not_false, List.mem_cons, List.not_mem_nil, true_or, or_true, false_or, or_false, and_true, true_and, and_self, List.getElem?_cons_succ, List.getElem?_cons_zero, Option.bind_some, Option.map_some, Option.map_none, List.map_cons, List.map_nil, List.length_cons, List.length_nil, List.filterMap_cons, List.filterMap_nil, List.cons_append, List.nil_append, List.append_nil, Nat.zero_add, Nat.add_zero, List.take_succ_cons, List.take_zero, List.take_nil, List.drop_succ_cons, List.drop_zero, List.drop_nil, List.all_cons, List.all_nil, Bool.and_true, Bool.true_and, Bool.false_and, Bool.and_false, reduceCtorEq, beq_iff_eq, beq_self_eq_true]
      exact h2 (by rw [hd, c1]; rfl) j
    · rw [c1] at hc
      simp -implicitDefEqProofs only [go_sem, repeatCells, splice, chunk, bsFin, ne_eq, not_true_eq_false, not_false_eq_true, List.headD_cons, Bool.false_eq_true, Nat.le_refl, Nat.zero_mul, Nat.one_mul, Nat.mul_one, assoc_setI, assoc_keep, ↓reduceIte, Nat.reduceEqDiff, Nat.reduceLT, Nat.reduceLeDiff, Nat.reduceAdd, Nat.reduceSub, Nat.reduceMul, decide_true, decide_false, Bool.not_true, Bool.not_false, List.mem_cons, List.not_mem_nil, true_or, or_true, false_or, or_false, and_true, true_and, and_self, List.getElem?_cons_succ, List.getElem?_cons_zero, Option.bind_some, Option.map_some, Option.map_none, List.map_cons, List.map_nil, List.length_cons, List.length_nil, List.filterMap_cons, List.filterMap_nil, List.cons_append, List.nil_append, List.append_nil, Nat.zero_add, Nat.add_zero, List.take_succ_cons, List.take_zero, List.take_nil, List.drop_succ_cons, List.drop_zero, List.drop_nil, List.all_cons, List.all_nil, Bool.and_true, Bool.true_and, Bool.false_and, Bool.and_false, reduceCtorEq, beq_iff_eq, beq_self_eq_true, intA, hlt, hw, hlx.idx (strs_get hs), hc]
      subst hK
      simp -implicitDefEqProofs only [go_sem, repeatCells, splice, chunk, bsFin, ne_eq, not_true_eq_false, not_false_eq_true, List.headD_cons, Bool.false_eq_true, Nat.le_refl, Nat.zero_mul, Nat.one_mul, Nat.mul_one, assoc_setI, assoc_keep, ↓reduceIte, Nat.reduceEqDiff, Nat.reduceLT, Nat.reduceLeDiff, Nat.reduceAdd, Nat.reduceSub, Nat.reduceMul, decide_true, decide_false, Bool.not_true, Bool.not_false, List.mem_cons, List.not_mem_nil, true_or, or_true, false_or, or_false, and_true, true_and, and_self, List.getElem?_cons_succ, List.getElem?_cons_zero, Option.bind_some, Option.map_some, Option.map_none, List.map_cons, List.map_nil, List.length_cons, List.length_nil, List.filterMap_cons, List.filterMap_nil, List.cons_append, List.nil_append, List.append_nil, Nat.zero_add, Nat.add_zero, List.take_succ_cons, List.take_zero, List.take_nil, List.drop_succ_cons, List.drop_zero, List.drop_nil, List.all_cons, List.all_nil, Bool.and_true, Bool.true_and, Bool.false_and, Bool.and_false, reduceCtorEq, beq_iff_eq, beq_self_eq_true]
      rw [hd, c1, Bool.true_and] at h1 h2
      exact ih (j + 1) (by omega) h1 h2
set_option maxHeartbeats 1000000 in
theorem loop87l {e : Exts} (he : Quiet e) (x : AV) (lxs : List AV) (hx : SlOf 1 lxs x) (ls : List Line) (hls : All2 LineA ls lxs) (hn : ls.length < 2 ^ 63) (hnn : ∀ l ∈ ls, l.length < 2 ^ 63) (hz : ∀ l ∈ ls, ∀ s ∈ l, s.size < 2 ^ 63) (K : Post)
    (hK0 : AtK K (.exit 0) ⟨46, [(0, x), (2, .v (.bool false)), (12, .v (.bool false)), (3, intA (okUpto ls ls.length)), (14, intA ls.length), (15, intA ls.length)], []⟩ ⟨[], 0⟩) :
    ∀ m j : Nat, j + m = ls.length →
    Lp (Cx e) 87 none [0, 2, 12, 3, 14, 15] (body87 0) ⟨46, [(0, x), (2, .v (.bool false)), (12, .v (.bool false)), (3, intA (okUpto ls j)), (14, intA ls.length), (15, intA j)], []⟩ ⟨[], 0⟩ K := by
  intro m
  induction m with
  | zero =>
    intro j hj
    rw [Lp_step]
    generalize hK : loopK (Cx e) 87 none _ (body87 0) _ K = KK
    unfold body87
    obtain rfl : j = ls.length := by omega
    simp only [Tryz.f87, loops, Option.map_some, Option.getD_some, List.nil_append, List.append_nil, List.cons_append, List.getElem?_cons_zero, List.getElem?_cons_succ]
    simp -implicitDefEqProofs only [go_sem, repeatCells, splice, chunk, bsFin, ne_eq, not_true_eq_false, not_false_eq_true, List.headD_cons, Bool.false_eq_true, Nat.le_refl, Nat.zero_mul, Nat.one_mul, Nat.mul_one, assoc_setI, assoc_keep, ↓reduceIte, Nat.reduceEqDiff, Nat.reduceLT, Nat.reduceLeDiff, Nat.reduceAdd, Nat.reduceSub, Nat.reduceMul, decide_true, decide_false, Bool.not_true, Bool.not_false, List.mem_cons, List.not_mem_nil, true_or, or_true, false_or, or_false, and_true, true_and, and_self, List.getElem?_cons_succ, List.getElem?_cons_zero, Option.bind_some, Option.map_some, Option.map_none, List.map_cons, List.map_nil, List.length_cons, List.length_nil, List.filterMap_cons, List.filterMap_nil, List.cons_append, List.nil_append, List.append_nil, Nat.zero_add, Nat.add_zero, List.take_succ_cons, List.take_zero, List.take_nil, List.drop_succ_cons, List.drop_zero, List.drop_nil, List.all_cons, List.all_nil, Bool.and_true, Bool.true_and, Bool.false_and, Bool.and_false, reduceCtorEq, beq_iff_eq, beq_self_eq_true, intA, Int.lt_irrefl]
    subst hK
    simp -implicitDefEqProofs only [go_sem, repeatCells, splice, chunk, bsFin, ne_eq, not_true_eq_false, not_false_eq_true, List.headD_cons, Bool.false_eq_true, Nat.le_refl, Nat.zero_mul, Nat.one_mul, Nat.mul_one, assoc_setI, assoc_keep, ↓reduceIte, Nat.reduceEqDiff, Nat.reduceLT, Nat.reduceLeDiff, Nat.reduceAdd, Nat.reduceSub, Nat.reduceMul, decide_true, decide_false, Bool.not_true, Bool.not_false, List.mem_cons, List.not_mem_nil, true_or, or_true, false_or, or_false, and_true, true_and, and_self, List.getElem?_cons_succ, List.getElem?_cons_zero, Option.bind_some, Option.map_some, Option.map_none, List.map_cons, List.map_nil, List.length_cons, List.length_nil, List.filterMap_cons, List.filterMap_nil, List.cons_append, List.nil_append, List.append_nil, Nat.zero_add, Nat.add_zero, List.take_succ_cons, List.take_zero, List.take_nil, List.drop_succ_cons, List.drop_zero, List.drop_nil, List.all_cons, List.all_nil, Bool.and_true, Bool.true_and, Bool.false_and, Bool.and_false, reduceCtorEq, beq_iff_eq, beq_self_eq_true]
    exact hK0
  | succ m ih =>
    intro j hj
    obtain ⟨ws, hs⟩ := at_lt ls j (by omega)
    obtain ⟨lx, hy, hlx⟩ := hls.get hs
    have hlx : SlOf 1 (strs ws) lx := hlx
    have hm := List.mem_of_getElem? hs
    have hsu := okUpto_succ ls j ws hs
    have hle := okUpto_le ls j
    have hlt : (j : Int) < ((ls.length : Nat) : Int) := by omega
    have hw := wrap_succ j (by omega)
    have hw2 := wrap_succ (okUpto ls j) (by omega)
    have hc := call82 he (ws.length : Int)
    have hih := ih (j + 1) (by omega)
    rw [Lp_step]
    generalize hK : loopK (Cx e) 87 none _ (body87 0) _ K = KK
    unfold body87
    simp only [Tryz.f87, loops, Option.map_some, Option.getD_some, List.nil_append, List.append_nil, List.cons_append, List.getElem?_cons_zero, List.getElem?_cons_succ]
    cases c1 : withinB 1 10 [(ws.length : Int)]
    · rw [c1] at hc
      have hb : lineB ws = false := by unfold lineB; rw [c1]; rfl
      simp -implicitDefEqProofs only [go_sem, repeatCells, splice, chunk, bsFin, ne_eq, not_true_eq_false, not_false_eq_true, List.headD_cons, Bool.false_eq_true, Nat.le_refl, Nat.zero_mul, Nat.one_mul, Nat.mul_one, assoc_setI, assoc_keep, ↓reduceIte, Nat.reduceEqDiff, Nat.reduceLT, Nat.reduceLeDiff, Nat.reduceAdd, Nat.reduceSub, Nat.reduceMul, decide_true, decide_false, Bool.not_true, Bool.not_false, List.mem_cons, List.not_mem_nil, true_or, or_true, false_or, or_false, and_true, true_and, and_self, List.getElem?_cons_succ, List.getElem?_cons_zero, Option.bind_some, Option.map_some, Option.map_none, List.map_cons, List.map_nil, List.length_cons, List.length_nil, List.filterMap_cons, List.filterMap_nil, List.cons_append, List.nil_append, List.append_nil, Nat.zero_add, Nat.add_zero, List.take_succ_cons, List.take_zero, List.take_nil, List.drop_succ_cons, List.drop_zero, List.drop_nil, List.all_cons, List.all_nil, Bool.and_true, Bool.true_and, Bool.false_and, Bool.and_false, reduceCtorEq, beq_iff_eq, beq_self_eq_true, intA, hlt, hw, hx.idx hy, hlx.cells, hlx.len, strs_len, hc]
      subst hK
      simp -implicitDefEqProofs only [go_sem, repeatCells, splice, chunk, bsFin, ne_eq, not_true_eq_false, not_false_eq_true, List.headD_cons, Bool.false_eq_true, Nat.le_refl, Nat.zero_mul, Nat.one_mul, Nat.mul_one, assoc_setI, assoc_keep, ↓reduceIte, Nat.reduceEqDiff, Nat.reduceLT, Nat.reduceLeDiff, Nat.reduceAdd, Nat.reduceSub, Nat.reduceMul, decide_true, decide_false, Bool.not_true, Bool.not_false, List.mem_cons, List.not_mem_nil, true_or, or_true, false_or, or_false, and_true, true_and, and_self, List.getElem?_cons_succ, List.getElem?_cons_zero, Option.bind_some, Option.map_some, Option.map_none, List.map_cons, List.map_nil, List.length_cons, List.length_nil, List.filterMap_cons, List.filterMap_nil, List.cons_append, List.nil_append, List.append_nil, Nat.zero_add, Nat.add_zero, List.take_succ_cons, List.take_zero, List.take_nil, List.drop_succ_cons, List.drop_zero, List.drop_nil, List.all_cons, List.all_nil, Bool.and_true, Bool.true_and, Bool.false_and, Bool.and_false, reduceCtorEq, beq_iff_eq, beq_self_eq_true]
      rw [hsu, hb] at hih
      exact hih
    · rw [c1] at hc
      simp -implicitDefEqProofs only [go_sem, repeatCells, splice, chunk, bsFin, ne_eq, not_true_eq_false, not_false_eq_true, List.headD_cons, Bool.false_eq_true, Nat.le_refl, Nat.zero_mul, Nat.one_mul, Nat.mul_one, assoc_setI, assoc_keep, ↓reduceIte, Nat.reduceEqDiff, Nat.reduceLT, Nat.reduceLeDiff, Nat.reduceAdd, Nat.reduceSub, Nat.reduceMul, decide_true, decide_false, Bool.not_true, Bool.not_false, List.mem_cons, List.not_mem_nil, true_or, or_true, false_or, or_false, and_true, true_and, and_self, List.getElem?_cons_succ, List.getElem?_cons_zero, Option.bind_some, Option.map_some, Option.map_none, List.map_cons, List.map_nil, List.length_cons, List.length_nil, List.filterMap_cons, List.filterMap_nil, List.cons_append, List.nil_append, List.append_nil, Nat.zero_add, Nat.add_zero, List.take_succ_cons, List.take_zero, List.take_nil, List.drop_succ_cons, List.drop_zero, List.drop_nil, List.all_cons, List.all_nil, Bool.and_true, Bool.true_and, Bool.false_and, Bool.and_false, reduceCtorEq, beq_iff_eq, beq_self_eq_true, intA, hlt, hw, hx.idx hy, hlx.cells, hlx.len, strs_len, hc]
      refine loop87w he x lx (okUpto ls j) ls.length j ws hlx (hnn ws hm) (hz ws hm) _ ws.length 0 (by omega) ?_ ?_
      · intro hf k
        have hb : lineB ws = true := by unfold lineB; rw [c1]; unfold allW at hf; rw [List.drop_zero] at hf; rw [hf]; rfl
        simp -implicitDefEqProofs only [go_sem, repeatCells, splice, chunk, bsFin, ne_eq, not_true_eq_false, not_false_eq_true, List.headD_cons, Bool.false_eq_true, Nat.le_refl, Nat.zero_mul, Nat.one_mul, Nat.mul_one, assoc_setI, assoc_keep, ↓reduceIte, Nat.reduceEqDiff, Nat.reduceLT, Nat.reduceLeDiff, Nat.reduceAdd, Nat.reduceSub, Nat.reduceMul, decide_true, decide_false, Bool.not_true, Bool.not_false, List.mem_cons, List.not_mem_nil, true_or, or_true, false_or, or_false, and_true, true_and, and_self, List.getElem?_cons_succ, List.getElem?_cons_zero, Option.bind_some, Option.map_some, Option.map_none, List.map_cons, List.map_nil, List.length_cons, List.length_nil, List.filterMap_cons, List.filterMap_nil, List.cons_append, List.nil_append, List.append_nil, Nat.zero_add, Nat.add_zero, List.take_succ_cons, List.take_zero, List.take_nil, List.drop_succ_cons, List.drop_zero, List.drop_nil, List.all_cons, List.all_nil, Bool.and_true, Bool.true_and, Bool.false_and, Bool.and_false, reduceCtorEq, beq_iff_eq, beq_self_eq_true, intA, hw, hw2]
        subst hK
        simp -implicitDefEqProofs only [go_sem, repeatCells, splice, chunk, bsFin, ne_eq, not_true_eq_false, not_false_eq_true, List.headD_cons, Bool.false_eq_true, Nat.le_refl, Nat.zero_mul, Nat.one_mul, Nat.mul_one, assoc_setI, assoc_keep, ↓reduceIte, Nat.reduceEqDiff, Nat.reduceLT, Nat.reduceLeDiff, Nat.reduceAdd, Nat.reduceSub, Nat.reduceMul, decide_true, decide_false, Bool.not_true, Bool.not_false, List.mem_cons, List.not_mem_nil, true_or, or_true, false_or, or_false, and_true, true_and, and_self, List.getElem?_cons_succ, List.getElem?_cons_zero, Option.bind_some, Option.map_some, Option.map_none, List.map_cons, List.map_nil, List.length_cons, List.length_nil, List.filterMap_cons, List.filterMap_nil, List.cons_append, List.nil_append, List.append_nil, Nat.zero_add, Nat.add_zero, List.take_succ_cons, List.take_zero, List.take_nil, List.drop_succ_cons, List.drop_zero, List.drop_nil, List.all_cons, List.all_nil, Bool.and_true, Bool.true_and, Bool.false_and, Bool.and_false, reduceCtorEq, beq_iff_eq, beq_self_eq_true]
        rw [hsu, hb] at hih
        exact hih
      · intro hf k
        have hb : lineB ws = false := by unfold lineB; unfold allW at hf; rw [List.drop_zero] at hf; rw [hf, Bool.and_false]
        simp -implicitDefEqProofs only [go_sem, repeatCells, splice, chunk, bsFin, ne_eq, not_true_eq_false, not_false_eq_true, List.headD_cons, Bool.false_eq_true, Nat.le_refl, Nat.zero_mul, Nat.one_mul, Nat.mul_one, assoc_setI, assoc_keep, ↓reduceIte, Nat.reduceEqDiff, Nat.reduceLT, Nat.reduceLeDiff, Nat.reduceAdd, Nat.reduceSub, Nat.reduceMul, decide_true, decide_false, Bool.not_true, Bool.not_false, List.mem_cons, List.not_mem_nil, true_or, or_true, false_or, or_false, and_true, true_and, and_self, List.getElem?_cons_succ, List.getElem?_cons_zero, Option.bind_some, Option.map_some, Option.map_none, List.map_cons, List.map_nil, List.length_cons, List.length_nil, List.filterMap_cons, List.filterMap_nil, List.cons_append, List.nil_append, List.append_nil, Nat.zero_add, Nat.add_zero, List.take_succ_cons, List.take_zero, List.take_nil, List.drop_succ_cons, List.drop_zero, List.drop_nil, List.all_cons, List.all_nil, Bool.and_true, Bool.true_and, Bool.false_and, Bool.and_false, reduceCtorEq, beq_iff_eq, beq_self_eq_true, intA, hw]
        subst hK
        simp -implicitDefEqProofs only [go_sem, repeatCells, splice, chunk, bsFin, ne_eq, not_true_eq_false, not_false_eq_true, List.headD_cons, Bool.false_eq_true, Nat.le_refl, Nat.zero_mul, Nat.one_mul, Nat.mul_one, assoc_setI, assoc_keep, ↓reduceIte, Nat.reduceEqDiff, Nat.reduceLT, Nat.reduceLeDiff, Nat.reduceAdd, Nat.reduceSub, Nat.reduceMul, decide_true, decide_false, Bool.not_true, Bool.not_false, List.mem_cons, List.not_mem_nil, true_or, or_true, false_or, or_false, and_true, true_and, and_self, List.getElem?_cons_succ, List.getElem?_cons_zero, Option.bind_some, Option.map_some, Option.map_none, List.map_cons, List.map_nil, List.length_cons, List.length_nil, List.filterMap_cons, List.filterMap_nil, List.cons_append, List.nil_append, List.append_nil, Nat.zero_add, Nat.add_zero, List.take_succ_cons, List.take_zero, List.take_nil, List.drop_succ_cons, List.drop_zero, List.drop_nil, List.all_cons, List.all_nil, Bool.and_true, Bool.true_and, Bool.false_and, Bool.and_false, reduceCtorEq, beq_iff_eq, beq_self_eq_true]
        rw [hsu, hb] at hih
        exact hih
def linesB (ls : List Line) : Bool := withinB 1 10 [(ls.length : Int)] && ls.all lineB
set_option maxHeartbeats 1000000 in
theorem ans87 {e : Exts} (he : Quiet e) (x : AV) (ls : List Line) (hx : LinesA ls x) (hn : ls.length < 2 ^ 63) (hnn : ∀ l ∈ ls, l.length < 2 ^ 63) (hz : ∀ l ∈ ls, ∀ s ∈ l, s.size < 2 ^ 63) : Ans (Cx e) 87 [x] (.v (.bool (linesB ls))) := by
  obtain ⟨lxs, hx, hls⟩ := hx
  unfold Ans
  have hc := call69 he 1 10 [(ls.length : Int)] (by simp) (.vs 1 [.v (.int .i64 ls.length)] (some 1)) (Or.inr ⟨_, rfl⟩)
  unfold intA at hc
  rw [fn_step (fn_87 e) (show Tryz.f87.body = some _ from rfl)]
  cases c1 : withinB 1 10 [(ls.length : Int)]
  · rw [c1] at hc
    simp -implicitDefEqProofs only [Tryz.f87, intA, go_sem, repeatCells, splice, chunk, bsFin, ne_eq, not_true_eq_false, not_false_eq_true, List.headD_cons, Bool.false_eq_true, Nat.le_refl, Nat.zero_mul, Nat.one_mul, Nat.mul_one, assoc_setI, assoc_keep, ↓reduceIte, Nat.reduceEqDiff, Nat.reduceLT, Nat.reduceLeDiff, Nat.reduceAdd, Nat.reduceSub, Nat.reduceMul, decide_true, decide_false, Bool.not_true, Bool.not_false, List.mem_cons, List.not_mem_nil, true_or, or_true, false_or, or_false, and_true, true_and, and_self, List.getElem?_cons_succ, List.getElem?_cons_zero, Option.bind_some, Option.map_some, Option.map_none, List.map_cons, List.map_nil, List.length_cons, List.length_nil, List.filterMap_cons, List.filterMap_nil, List.cons_append, List.nil_append, List.append_nil, Nat.zero_add, Nat.add_zero, List.take_succ_cons, List.take_zero, List.take_nil, List.drop_succ_cons, List.drop_zero, List.drop_nil, List.all_cons, List.all_nil, Bool.and_true, Bool.true_and, Bool.false_and, Bool.and_false, reduceCtorEq, beq_iff_eq, beq_self_eq_true, hx.len, ← hls.1, hc]
    unfold linesB; rw [c1]; rfl
  · rw [c1] at hc
    simp -implicitDefEqProofs only [Tryz.f87, intA, go_sem, repeatCells, splice, chunk, bsFin, ne_eq, not_true_eq_false, not_false_eq_true, List.headD_cons, Bool.false_eq_true, Nat.le_refl, Nat.zero_mul, Nat.one_mul, Nat.mul_one, assoc_setI, assoc_keep, ↓reduceIte, Nat.reduceEqDiff, Nat.reduceLT, Nat.reduceLeDiff, Nat.reduceAdd, Nat.reduceSub, Nat.reduceMul, decide_true, decide_false, Bool.not_true, Bool.not_false, List.mem_cons, List.not_mem_nil, true_or, or_true, false_or, or_false, and_true, true_and, and_self, List.getElem?_cons_succ, List.getElem?_cons_zero, Option.bind_some, Option.map_some, Option.map_none, List.map_cons, List.map_nil, List.length_cons, List.length_nil, List.filterMap_cons, List.filterMap_nil, List.cons_append, List.nil_append, List.append_nil, Nat.zero_add, Nat.add_zero, List.take_succ_cons, List.take_zero, List.take_nil, List.drop_succ_cons, List.drop_zero, List.drop_nil, List.all_cons, List.all_nil, Bool.and_true, Bool.true_and, Bool.false_and, Bool.and_false, reduceCtorEq, beq_iff_eq, beq_self_eq_true, hx.len, ← hls.1, hc]
    refine loop87l he x lxs hx ls hls hn hnn hz _ ?_ ls.length 0 (by omega)
    by_cases hall : ls.all lineB = true
    · have h1 := (okUpto_all ls).2 hall
      simp -implicitDefEqProofs only [go_sem, repeatCells, splice, chunk, bsFin, ne_eq, not_true_eq_false, not_false_eq_true, List.headD_cons, Bool.false_eq_true, Nat.le_refl, Nat.zero_mul, Nat.one_mul, Nat.mul_one, assoc_setI, assoc_keep, ↓reduceIte, Nat.reduceEqDiff, Nat.reduceLT, Nat.reduceLeDiff, Nat.reduceAdd, Nat.reduceSub, Nat.reduceMul, decide_true, decide_false, Bool.not_true, Bool.not_false, List.mem_cons, List.not_mem_nil, true_or, or_true, false_or, or_false, and_true, true_and, and_self, List.getElem?_cons_succ, List.getElem?_cons_zero, Option.bind_some, Option.map_some, Option.map_none, List.map_cons, List.map_nil, List.length_cons, List.length_nil, List.filterMap_cons, List.filterMap_nil, List.cons_append, List.nil_append, List.append_nil, Nat.zero_add, Nat.add_zero, List.take_succ_cons, List.take_zero, List.take_nil, List.drop_succ_cons, List.drop_zero, List.drop_nil, List.all_cons, List.all_nil, Bool.and_true, Bool.true_and, Bool.false_and, Bool.and_false, reduceCtorEq, beq_iff_eq, beq_self_eq_true, intA, hx.len, ← hls.1, h1]
      unfold linesB; rw [c1, hall]; rfl
    · have h1 : ¬ okUpto ls ls.length = ls.length := fun h => hall ((okUpto_all ls).1 h)
      have h2 : ¬ ((okUpto ls ls.length : Nat) : Int) = (ls.length : Int) := by omega
      simp -implicitDefEqProofs only [go_sem, repeatCells, splice, chunk, bsFin, ne_eq, not_true_eq_false, not_false_eq_true, List.headD_cons, Bool.false_eq_true, Nat.le_refl, Nat.zero_mul, Nat.one_mul, Nat.mul_one, assoc_setI, assoc_keep, ↓reduceIte, Nat.reduceEqDiff, Nat.reduceLT, Nat.reduceLeDiff, Nat.reduceAdd, Nat.reduceSub, Nat.reduceMul, decide_true, decide_false, Bool.not_true, Bool.not_false, List.mem_cons, List.not_mem_nil, true_or, or_true, false_or, or_false, and_true, true_and, and_self, List.getElem?_cons_succ, List.getElem?_cons_zero, Option.bind_some, Option.map_some, Option.map_none, List.map_cons, List.map_nil, List.length_cons, List.length_nil, List.filterMap_cons, List.filterMap_nil, List.cons_append, List.nil_append, List.append_nil, Nat.zero_add, Nat.add_zero, List.take_succ_cons, List.take_zero, List.take_nil, List.drop_succ_cons, List.drop_zero, List.drop_nil, List.all_cons, List.all_nil, Bool.and_true, Bool.true_and, Bool.false_and, Bool.and_false, reduceCtorEq, beq_iff_eq, beq_self_eq_true, intA, hx.len, ← hls.1, h2]
      have h3 : ls.all lineB = false := by simpa using hall
      unfold linesB; rw [c1, h3]; rfl
theorem callI87 {e : Exts} (he : Quiet e) (x : AV) (ls : List Line) (hx : LinesA ls x) (hn : ls.length < 2 ^ 63) (hnn : ∀ l ∈ ls, l.length < 2 ^ 63) (hz : ∀ l ∈ ls, ∀ s ∈ l, s.size < 2 ^ 63) (me : FuncId) (d : Option Tmp) : callI (Cx e) me 87 d [x] = some (.v (.bool (linesB ls))) :=
  (ans87 he x ls hx hn hnn hz).callI (ext_87 he) (pure_87 _ _ _) (by obtain ⟨lxs, hx, -⟩ := hx; simp only [boundL_cons, hx.bound, boundL_nil]; rfl)
end Go.Ev
namespace Go.Ev
open Go.Proofs
set_option maxRecDepth 100000
set_option linter.unusedSimpArgs false
def condD (t : Txt) (i : Nat) (c : Chap) : Bool := withinB 0 9999 [c.1] && !hasIdB (t.take i) c.1 && linesB c.2
theorem condD_eq (t : Txt) (i : Nat) (c : Chap) : condD t i c = condC t i c := by
  unfold condD condC linesB hasIdB idB
  rw [List.drop_zero]
  cases withinB 0 9999 [c.1] <;> cases withinB 1 10 [(c.2.length : Int)] <;> cases (t.take i).any (fun c_1 => decide (c_1.1 = c.1)) <;> simp
noncomputable def body62 : Code := ((Tryz.f62.body.map loops).getD [])[0]?.getD .skip
theorem All2.take {α β : Type} {R : α → β → Prop} {l : List α} {m : List β} (h : All2 R l m) (n : Nat) : All2 R (l.take n) (m.take n) := by
  refine ⟨by simp [h.1], fun i a b ha hb => ?_⟩
  rw [List.getElem?_take] at ha hb
  split at ha
  · rename_i hi; rw [if_pos hi] at hb; exact h.2 i a b ha hb
  · cases ha
set_option maxHeartbeats 4000000 in
theorem loop62 {e : Exts} (he : Quiet e) (t : Txt) (ht : Fits t) (xs : List AV) (ch : AV) (hch : SlOf 2 xs ch) (hn : t.length < 2 ^ 63) (hall : All2 ChapA t xs) (K : Post) :
    ∀ m j : Nat, j + m = t.length → (chB t j = false → AtK K (.exit 0) ⟨40, [(0, .agg [ch]), (1, .ptr 0 0 0), (2, .v (.bool false)), (11, .v (.bool false)), (13, ch), (14, intA t.length), (15, intA (t.length : Nat))], []⟩ ⟨[some (.cells 0 0 24 1 false [ch])], 0⟩) → (chB t j = true → ∀ tl HH, assoc 2 tl = some (.v (.bool false)) → AtK K .ret ⟨40, tl, []⟩ HH) →
    Lp (Cx e) 62 none [0, 1, 2, 11, 13, 14, 15] (body62) ⟨40, [(0, .agg [ch]), (1, .ptr 0 0 0), (2, .v (.bool false)), (11, .v (.bool false)), (13, ch), (14, intA t.length), (15, intA j)], []⟩ ⟨[some (.cells 0 0 24 1 false [ch])], 0⟩ K := by
  intro m
  induction m with
  | zero =>
    intro j hj h1 h2
    rw [Lp_step]
    generalize hK : loopK (Cx e) 62 none [0, 1, 2, 11, 13, 14, 15] (body62) _ K = KK
    unfold body62
    obtain rfl : j = t.length := by omega
    simp only [Tryz.f62, loops, Option.map_some, Option.getD_some, List.nil_append, List.append_nil, List.cons_append, List.getElem?_cons_zero, List.getElem?_cons_succ]
    simp -implicitDefEqProofs only [go_sem, repeatCells, splice, chunk, bsFin, ne_eq, not_true_eq_false, not_false_eq_true, List.headD_cons, Bool.false_eq_true, Nat.le_refl, Nat.zero_mul, Nat.one_mul, Nat.mul_one, assoc_setI, assoc_keep, ↓reduceIte, Nat.reduceEqDiff, Nat.reduceLT, Nat.reduceLeDiff, Nat.reduceAdd, Nat.reduceSub, Nat.reduceMul, decide_true, decide_false, Bool.not_true, Bool.not_false, List.mem_cons, List.not_mem_nil, true_or, or_true, false_or, or_false, and_true, true_and, and_self, List.getElem?_cons_succ, List.getElem?_cons_zero, Option.bind_some, Option.map_some, Option.map_none, List.map_cons, List.map_nil, List.length_cons, List.length_nil, List.filterMap_cons, List.filterMap_nil, List.cons_append, List.nil_append, List.append_nil, Nat.zero_add, Nat.add_zero, List.take_succ_cons, List.take_zero, List.take_nil, List.drop_succ_cons, List.drop_zero, List.drop_nil, List.all_cons, List.all_nil, Bool.and_true, Bool.true_and, Bool.false_and, Bool.and_false, reduceCtorEq, beq_iff_eq, beq_self_eq_true, intA, Int.lt_irrefl, hch.len, ← hall.1]
    subst hK
    simp -implicitDefEqProofs only [go_sem, repeatCells, splice, chunk, bsFin, ne_eq, not_true_eq_false, not_false_eq_true, List.headD_cons, Bool.false_eq_true, Nat.le_refl, Nat.zero_mul, Nat.one_mul, Nat.mul_one, assoc_setI, assoc_keep, ↓reduceIte, Nat.reduceEqDiff, Nat.reduceLT, Nat.reduceLeDiff, Nat.reduceAdd, Nat.reduceSub, Nat.reduceMul, decide_true, decide_false, Bool.not_true, Bool.not_false, List.mem_cons, List.not_mem_nil, true_or, or_true, false_or, or_false, and_true, true_and, and_self, List.getElem?_cons_succ, List.getElem?_cons_zero, Option.bind_some, Option.map_some, Option.map_none, List.map_cons, List.map_nil, List.length_cons, List.length_nil, List.filterMap_cons, List.filterMap_nil, List.cons_append, List.nil_append, List.append_nil, Nat.zero_add, Nat.add_zero, List.take_succ_cons, List.take_zero, List.take_nil, List.drop_succ_cons, List.drop_zero, List.drop_nil, List.all_cons, List.all_nil, Bool.and_true, Bool.true_and, Bool.false_and, Bool.and_false, reduceCtorEq, beq_iff_eq, beq_self_eq_true]
    exact h1 (by unfold chB; rw [List.drop_of_length_le (by simp)]; rfl)
  | succ m ih =>
    intro j hj h1 h2
    rw [Lp_step]
    generalize hK : loopK (Cx e) 62 none [0, 1, 2, 11, 13, 14, 15] (body62) _ K = KK
    unfold body62
    have hlt : (j : Int) < ((t.length : Nat) : Int) := by omega
    have hw := wrap_succ j (by omega)
    have hj0 : (0 : Int) ≤ (j : Int) := by omega
    simp only [Tryz.f62, loops, Option.map_some, Option.getD_some, List.nil_append, List.append_nil, List.cons_append, List.getElem?_cons_zero, List.getElem?_cons_succ]
    obtain ⟨c, hs⟩ := at_lt t j (by omega)
    obtain ⟨y, hy, l, rfl, hl'⟩ := hall.get hs
    obtain ⟨lxs, hl, hls⟩ := hl'
    have hd := chB_step t j c hs
    have hm := List.mem_of_getElem? hs
    have hca := callI51 he c.1
    obtain ⟨z, hz1, hz2⟩ := hch.slice und_22 size_46 j (by rw [← hall.1]; omega)
    have hcb := callI86 he c.1 (t.take j) z _ hz2 (hall.take j) (by simp; omega)
    have hcc := callI87 he l c.2 ⟨lxs, hl, hls⟩ (ht.lines c hm) (ht.words c hm) (ht.size c hm)
    simp -implicitDefEqProofs only [go_sem, repeatCells, splice, chunk, bsFin, ne_eq, not_true_eq_false, not_false_eq_true, List.headD_cons, Bool.false_eq_true, Nat.le_refl, Nat.zero_mul, Nat.one_mul, Nat.mul_one, assoc_setI, assoc_keep, ↓reduceIte, Nat.reduceEqDiff, Nat.reduceLT, Nat.reduceLeDiff, Nat.reduceAdd, Nat.reduceSub, Nat.reduceMul, decide_true, decide_false, Bool.not_true, Bool.not_false, List.mem_cons, List.not_mem_nil, true_or, or_true, false_or, or_false, and_true, true_and, and_self, List.getElem?_cons_succ, List.getElem?_cons_zero, Option.bind_some, Option.map_some, Option.map_none, List.map_cons, List.map_nil, List.length_cons, List.length_nil, List.filterMap_cons, List.filterMap_nil, List.cons_append, List.nil_append, List.append_nil, Nat.zero_add, Nat.add_zero, List.take_succ_cons, List.take_zero, List.take_nil, List.drop_succ_cons, List.drop_zero, List.drop_nil, List.all_cons, List.all_nil, Bool.and_true, Bool.true_and, Bool.false_and, Bool.and_false, reduceCtorEq, beq_iff_eq, beq_self_eq_true, intA, hlt, hw, hch.len, hch.cells, hch.idx hy, hl.len, hl.cells, hl.flat, hl.bound]
    refine wp_draw (by kernel_rfl) ?_
    rw [← condD_eq] at hd
    cases c1 : withinB 0 9999 [c.1]
    · rw [c1] at hca
      simp -implicitDefEqProofs only [go_sem, repeatCells, splice, chunk, bsFin, ne_eq, not_true_eq_false, not_false_eq_true, List.headD_cons, Bool.false_eq_true, Nat.le_refl, Nat.zero_mul, Nat.one_mul, Nat.mul_one, assoc_setI, assoc_keep, ↓reduceIte, Nat.reduceEqDiff, Nat.reduceLT, Nat.reduceLeDiff, Nat.reduceAdd, Nat.reduceSub, Nat.reduceMul, decide_true, decide_false, Bool.not_true, Bool.not_false, List.mem_cons, List.not_mem_nil, true_or, or_true, false_or, or_false, and_true, true_and, and_self, List.getElem?_cons_succ, List.getElem?_cons_zero, Option.bind_some, Option.map_some, Option.map_none, List.map_cons, List.map_nil, List.length_cons, List.length_nil, List.filterMap_cons, List.filterMap_nil, List.cons_append, List.nil_append, List.append_nil, Nat.zero_add, Nat.add_zero, List.take_succ_cons, List.take_zero, List.take_nil, List.drop_succ_cons, List.drop_zero, List.drop_nil, List.all_cons, List.all_nil, Bool.and_true, Bool.true_and, Bool.false_and, Bool.and_false, reduceCtorEq, beq_iff_eq, beq_self_eq_true, intA, hlt, hw, hca]
      subst hK
      simp -implicitDefEqProofs only [go_sem, repeatCells, splice, chunk, bsFin, ne_eq, not_true_eq_false, not_false_eq_true, List.headD_cons, Bool.false_eq_true, Nat.le_refl, Nat.zero_mul, Nat.one_mul, Nat.mul_one, assoc_setI, assoc_keep, ↓reduceIte, Nat.reduceEqDiff, Nat.reduceLT, Nat.reduceLeDiff, Nat.reduceAdd, Nat.reduceSub, Nat.reduceMul, decide_true, decide_false, Bool.not_true, Bool.not_false, List.mem_cons, List.not_mem_nil, true_or, or_true, false_or, or_false, and_true, true_and, and_self, List.getElem?_cons_succ, List.getElem?_cons_zero, Option.bind_some, Option.map_some, Option.map_none, List.map_cons, List.map_nil, List.length_cons, List.length_nil, List.filterMap_cons, List.filterMap_nil, List.cons_append, List.nil_append, List.append_nil, Nat.zero_add, Nat.add_zero, List.take_succ_cons, List.take_zero, List.take_nil, List.drop_succ_cons, List.drop_zero, List.drop_nil, List.all_cons, List.all_nil, Bool.and_true, Bool.true_and, Bool.false_and, Bool.and_false, reduceCtorEq, beq_iff_eq, beq_self_eq_true]
      exact h2 (by rw [hd]; unfold condD; rw [c1]; rfl) _ _ rfl
    · rw [c1] at hca
      cases c2 : hasIdB (t.take j) c.1
      · rw [c2] at hcb
        cases c3 : linesB c.2
        · rw [c3] at hcc
          simp -implicitDefEqProofs only [go_sem, repeatCells, splice, chunk, bsFin, ne_eq, not_true_eq_false, not_false_eq_true, List.headD_cons, Bool.false_eq_true, Nat.le_refl, Nat.zero_mul, Nat.one_mul, Nat.mul_one, assoc_setI, assoc_keep, ↓reduceIte, Nat.reduceEqDiff, Nat.reduceLT, Nat.reduceLeDiff, Nat.reduceAdd, Nat.reduceSub, Nat.reduceMul, decide_true, decide_false, Bool.not_true, Bool.not_false, List.mem_cons, List.not_mem_nil, true_or, or_true, false_or, or_false, and_true, true_and, and_self, List.getElem?_cons_succ, List.getElem?_cons_zero, Option.bind_some, Option.map_some, Option.map_none, List.map_cons, List.map_nil, List.length_cons, List.length_nil, List.filterMap_cons, List.filterMap_nil, List.cons_append, List.nil_append, List.append_nil, Nat.zero_add, Nat.add_zero, List.take_succ_cons, List.take_zero, List.take_nil, List.drop_succ_cons, List.drop_zero, List.drop_nil, List.all_cons, List.all_nil, Bool.and_true, Bool.true_and, Bool.false_and, Bool.and_false, reduceCtorEq, beq_iff_eq, beq_self_eq_true, intA, hlt, hw, hca, hcb, hcc, hz1]
          subst hK
          simp -implicitDefEqProofs only [go_sem, repeatCells, splice, chunk, bsFin, ne_eq, not_true_eq_false, not_false_eq_true, List.headD_cons, Bool.false_eq_true, Nat.le_refl, Nat.zero_mul, Nat.one_mul, Nat.mul_one, assoc_setI, assoc_keep, ↓reduceIte, Nat.reduceEqDiff, Nat.reduceLT, Nat.reduceLeDiff, Nat.reduceAdd, Nat.reduceSub, Nat.reduceMul, decide_true, decide_false, Bool.not_true, Bool.not_false, List.mem_cons, List.not_mem_nil, true_or, or_true, false_or, or_false, and_true, true_and, and_self, List.getElem?_cons_succ, List.getElem?_cons_zero, Option.bind_some, Option.map_some, Option.map_none, List.map_cons, List.map_nil, List.length_cons, List.length_nil, List.filterMap_cons, List.filterMap_nil, List.cons_append, List.nil_append, List.append_nil, Nat.zero_add, Nat.add_zero, List.take_succ_cons, List.take_zero, List.take_nil, List.drop_succ_cons, List.drop_zero, List.drop_nil, List.all_cons, List.all_nil, Bool.and_true, Bool.true_and, Bool.false_and, Bool.and_false, reduceCtorEq, beq_iff_eq, beq_self_eq_true]
          exact h2 (by rw [hd]; unfold condD; rw [c1, c2, c3]; rfl) _ _ rfl
        · rw [c3] at hcc
          simp -implicitDefEqProofs only [go_sem, repeatCells, splice, chunk, bsFin, ne_eq, not_true_eq_false, not_false_eq_true, List.headD_cons, Bool.false_eq_true, Nat.le_refl, Nat.zero_mul, Nat.one_mul, Nat.mul_one, assoc_setI, assoc_keep, ↓reduceIte, Nat.reduceEqDiff, Nat.reduceLT, Nat.reduceLeDiff, Nat.reduceAdd, Nat.reduceSub, Nat.reduceMul, decide_true, decide_false, Bool.not_true, Bool.not_false, List.mem_cons, List.not_mem_nil, true_or, or_true, false_or, or_false, and_true, true_and, and_self, List.getElem?_cons_succ, List.getElem?_cons_zero, Option.bind_some, Option.map_some, Option.map_none, List.map_cons, List.map_nil, List.length_cons, List.length_nil, List.filterMap_cons, List.filterMap_nil, List.cons_append, List.nil_append, List.append_nil, Nat.zero_add, Nat.add_zero, List.take_succ_cons, List.take_zero, List.take_nil, List.drop_succ_cons, List.drop_zero, List.drop_nil, List.all_cons, List.all_nil, Bool.and_true, Bool.true_and, Bool.false_and, Bool.and_false, reduceCtorEq, beq_iff_eq, beq_self_eq_true, intA, hlt, hw, hca, hcb, hcc, hz1]
          subst hK
          simp -implicitDefEqProofs only [go_sem, repeatCells, splice, chunk, bsFin, ne_eq, not_true_eq_false, not_false_eq_true, List.headD_cons, Bool.false_eq_true, Nat.le_refl, Nat.zero_mul, Nat.one_mul, Nat.mul_one, assoc_setI, assoc_keep, ↓reduceIte, Nat.reduceEqDiff, Nat.reduceLT, Nat.reduceLeDiff, Nat.reduceAdd, Nat.reduceSub, Nat.reduceMul, decide_true, decide_false, Bool.not_true, Bool.not_false, List.mem_cons, List.not_mem_nil, true_or, or_true, false_or, or_false, and_true, true_and, and_self, List.getElem?_cons_succ, List.getElem?_cons_zero, Option.bind_some, Option.map_some, Option.map_none, List.map_cons, List.map_nil, List.length_cons, List.length_nil, List.filterMap_cons, List.filterMap_nil, List.cons_append, List.nil_append, List.append_nil, Nat.zero_add, Nat.add_zero, List.take_succ_cons, List.take_zero, List.take_nil, List.drop_succ_cons, List.drop_zero, List.drop_nil, List.all_cons, List.all_nil, Bool.and_true, Bool.true_and, Bool.false_and, Bool.and_false, reduceCtorEq, beq_iff_eq, beq_self_eq_true, trim_at, hch.flat, hch.bound, hch.cells]
          have hd' : chB t j = chB t (j + 1) := by rw [hd]; unfold condD; rw [c1, c2, c3]; rfl
          rw [hd'] at h1 h2
          exact ih (j + 1) (by omega) h1 h2
      · rw [c2] at hcb
        simp -implicitDefEqProofs only [go_sem, repeatCells, splice, chunk, bsFin, ne_eq, not_true_eq_false, not_false_eq_true, List.headD_cons, Bool.false_eq_true, Nat.le_refl, Nat.zero_mul, Nat.one_mul, Nat.mul_one, assoc_setI, assoc_keep, ↓reduceIte, Nat.reduceEqDiff, Nat.reduceLT, Nat.reduceLeDiff, Nat.reduceAdd, Nat.reduceSub, Nat.reduceMul, decide_true, decide_false, Bool.not_true, Bool.not_false, List.mem_cons, List.not_mem_nil, true_or, or_true, false_or, or_false, and_true, true_and, and_self, List.getElem?_cons_succ, List.getElem?_cons_zero, Option.bind_some, Option.map_some, Option.map_none, List.map_cons, List.map_nil, List.length_cons, List.length_nil, List.filterMap_cons, List.filterMap_nil, List.cons_append, List.nil_append, List.append_nil, Nat.zero_add, Nat.add_zero, List.take_succ_cons, List.take_zero, List.take_nil, List.drop_succ_cons, List.drop_zero, List.drop_nil, List.all_cons, List.all_nil, Bool.and_true, Bool.true_and, Bool.false_and, Bool.and_false, reduceCtorEq, beq_iff_eq, beq_self_eq_true, intA, hlt, hw, hca, hcb, hz1]
        subst hK
        simp -implicitDefEqProofs only [go_sem, repeatCells, splice, chunk, bsFin, ne_eq, not_true_eq_false, not_false_eq_true, List.headD_cons, Bool.false_eq_true, Nat.le_refl, Nat.zero_mul, Nat.one_mul, Nat.mul_one, assoc_setI, assoc_keep, ↓reduceIte, Nat.reduceEqDiff, Nat.reduceLT, Nat.reduceLeDiff, Nat.reduceAdd, Nat.reduceSub, Nat.reduceMul, decide_true, decide_false, Bool.not_true, Bool.not_false, List.mem_cons, List.not_mem_nil, true_or, or_true, false_or, or_false, and_true, true_and, and_self, List.getElem?_cons_succ, List.getElem?_cons_zero, Option.bind_some, Option.map_some, Option.map_none, List.map_cons, List.map_nil, List.length_cons, List.length_nil, List.filterMap_cons, List.filterMap_nil, List.cons_append, List.nil_append, List.append_nil, Nat.zero_add, Nat.add_zero, List.take_succ_cons, List.take_zero, List.take_nil, List.drop_succ_cons, List.drop_zero, List.drop_nil, List.all_cons, List.all_nil, Bool.and_true, Bool.true_and, Bool.false_and, Bool.and_false, reduceCtorEq, beq_iff_eq, beq_self_eq_true]
        exact h2 (by rw [hd]; unfold condD; rw [c1, c2]; rfl) _ _ rfl

set_option maxHeartbeats 1000000 in
theorem ans62 {e : Exts} (he : Quiet e) (t : Txt) (ht : Fits t) (x : AV) (hx : TextA t x) : Ans (Cx e) 62 [x] (.v (.bool (textB t))) := by
  obtain ⟨ch, rfl, xs, hch, hall⟩ := hx
  unfold Ans
  have hc := call69 he 1 6 [(t.length : Int)] (by simp) (.vs 1 [.v (.int .i64 t.length)] (some 1)) (Or.inr ⟨_, rfl⟩)
  unfold intA at hc
  rw [fn_step (fn_62 e) (show Tryz.f62.body = some _ from rfl)]
  cases h1 : withinB 1 6 [(t.length : Int)]
  · rw [h1] at hc
    simp -implicitDefEqProofs only [Tryz.f62, intA, go_sem, repeatCells, splice, chunk, bsFin, ne_eq, not_true_eq_false, not_false_eq_true, List.headD_cons, Bool.false_eq_true, Nat.le_refl, Nat.zero_mul, Nat.one_mul, Nat.mul_one, assoc_setI, assoc_keep, ↓reduceIte, Nat.reduceEqDiff, Nat.reduceLT, Nat.reduceLeDiff, Nat.reduceAdd, Nat.reduceSub, Nat.reduceMul, decide_true, decide_false, Bool.not_true, Bool.not_false, List.mem_cons, List.not_mem_nil, true_or, or_true, false_or, or_false, and_true, true_and, and_self, List.getElem?_cons_succ, List.getElem?_cons_zero, Option.bind_some, Option.map_some, Option.map_none, List.map_cons, List.map_nil, List.length_cons, List.length_nil, List.filterMap_cons, List.filterMap_nil, List.cons_append, List.nil_append, List.append_nil, Nat.zero_add, Nat.add_zero, List.take_succ_cons, List.take_zero, List.take_nil, List.drop_succ_cons, List.drop_zero, List.drop_nil, List.all_cons, List.all_nil, Bool.and_true, Bool.true_and, Bool.false_and, Bool.and_false, reduceCtorEq, beq_iff_eq, beq_self_eq_true, hch.len, hch.cells, hch.flat, hch.bound, ← hall.1, hc]
    unfold textB; rw [h1]; rfl
  · rw [h1] at hc
    simp -implicitDefEqProofs only [Tryz.f62, intA, go_sem, repeatCells, splice, chunk, bsFin, ne_eq, not_true_eq_false, not_false_eq_true, List.headD_cons, Bool.false_eq_true, Nat.le_refl, Nat.zero_mul, Nat.one_mul, Nat.mul_one, assoc_setI, assoc_keep, ↓reduceIte, Nat.reduceEqDiff, Nat.reduceLT, Nat.reduceLeDiff, Nat.reduceAdd, Nat.reduceSub, Nat.reduceMul, decide_true, decide_false, Bool.not_true, Bool.not_false, List.mem_cons, List.not_mem_nil, true_or, or_true, false_or, or_false, and_true, true_and, and_self, List.getElem?_cons_succ, List.getElem?_cons_zero, Option.bind_some, Option.map_some, Option.map_none, List.map_cons, List.map_nil, List.length_cons, List.length_nil, List.filterMap_cons, List.filterMap_nil, List.cons_append, List.nil_append, List.append_nil, Nat.zero_add, Nat.add_zero, List.take_succ_cons, List.take_zero, List.take_nil, List.drop_succ_cons, List.drop_zero, List.drop_nil, List.all_cons, List.all_nil, Bool.and_true, Bool.true_and, Bool.false_and, Bool.and_false, reduceCtorEq, beq_iff_eq, beq_self_eq_true, hch.len, hch.cells, hch.flat, hch.bound, ← hall.1, hc]
    refine loop62 he t ht xs ch hch ht.chs hall _ t.length 0 (by omega) ?_ ?_
    · intro hf
      have hf' : okFrom t 0 t = true := by unfold chB at hf; simpa using hf
      simp -implicitDefEqProofs only [go_sem, repeatCells, splice, chunk, bsFin, ne_eq, not_true_eq_false, not_false_eq_true, List.headD_cons, Bool.false_eq_true, Nat.le_refl, Nat.zero_mul, Nat.one_mul, Nat.mul_one, assoc_setI, assoc_keep, ↓reduceIte, Nat.reduceEqDiff, Nat.reduceLT, Nat.reduceLeDiff, Nat.reduceAdd, Nat.reduceSub, Nat.reduceMul, decide_true, decide_false, Bool.not_true, Bool.not_false, List.mem_cons, List.not_mem_nil, true_or, or_true, false_or, or_false, and_true, true_and, and_self, List.getElem?_cons_succ, List.getElem?_cons_zero, Option.bind_some, Option.map_some, Option.map_none, List.map_cons, List.map_nil, List.length_cons, List.length_nil, List.filterMap_cons, List.filterMap_nil, List.cons_append, List.nil_append, List.append_nil, Nat.zero_add, Nat.add_zero, List.take_succ_cons, List.take_zero, List.take_nil, List.drop_succ_cons, List.drop_zero, List.drop_nil, List.all_cons, List.all_nil, Bool.and_true, Bool.true_and, Bool.false_and, Bool.and_false, reduceCtorEq, beq_iff_eq, beq_self_eq_true]
      unfold textB; rw [h1, hf']; rfl
    · intro hf tl HH htl
      have hf' : okFrom t 0 t = false := by unfold chB at hf; simpa using hf
      simp -implicitDefEqProofs only [go_sem, repeatCells, splice, chunk, bsFin, ne_eq, not_true_eq_false, not_false_eq_true, List.headD_cons, Bool.false_eq_true, Nat.le_refl, Nat.zero_mul, Nat.one_mul, Nat.mul_one, assoc_setI, assoc_keep, ↓reduceIte, Nat.reduceEqDiff, Nat.reduceLT, Nat.reduceLeDiff, Nat.reduceAdd, Nat.reduceSub, Nat.reduceMul, decide_true, decide_false, Bool.not_true, Bool.not_false, List.mem_cons, List.not_mem_nil, true_or, or_true, false_or, or_false, and_true, true_and, and_self, List.getElem?_cons_succ, List.getElem?_cons_zero, Option.bind_some, Option.map_some, Option.map_none, List.map_cons, List.map_nil, List.length_cons, List.length_nil, List.filterMap_cons, List.filterMap_nil, List.cons_append, List.nil_append, List.append_nil, Nat.zero_add, Nat.add_zero, List.take_succ_cons, List.take_zero, List.take_nil, List.drop_succ_cons, List.drop_zero, List.drop_nil, List.all_cons, List.all_nil, Bool.and_true, Bool.true_and, Bool.false_and, Bool.and_false, reduceCtorEq, beq_iff_eq, beq_self_eq_true, htl]
      unfold textB; rw [h1, hf']; rfl
theorem call62 {e : Exts} (he : Quiet e) (t : Txt) (ht : Fits t) (x : AV) (hx : TextA t x) (me : FuncId) (d : Option Tmp) (H : Heap) : callA (Cx e) (lim (Cx e)) me 62 d [x] H = some (.v (.bool (textB t)), H) :=
  (ans62 he t ht x hx).call (ext_62 he) (pure_62 _ _ _) (by obtain ⟨ch, rfl, xs, hch, -⟩ := hx; simp only [boundL_cons, bound_agg, hch.bound, boundL_nil]; rfl) H
set_option maxHeartbeats 1000000 in
theorem ans40 {e : Exts} (he : Quiet e) (t : Txt) (ht : Fits t) (ch : AV) (hx : ChsA t ch) : Ans (Cx e) 40 [.agg [ch]] (if textB t then .tup [.agg [ch], intA 0] else .tup [.agg [.v (.slice none 0 0)], intA 10]) := by
  have hc := call62 he t ht _ ⟨ch, rfl, hx⟩ 40 (some 5)
  obtain ⟨xs, hch, hall⟩ := hx
  unfold Ans
  rw [fn_step (fn_40 e) (show Tryz.f40.body = some _ from rfl)]
  cases h1 : textB t
  · rw [h1] at hc
    simp -implicitDefEqProofs only [Tryz.f40, intA, go_sem, repeatCells, splice, chunk, bsFin, ne_eq, not_true_eq_false, not_false_eq_true, List.headD_cons, Bool.false_eq_true, Nat.le_refl, Nat.zero_mul, Nat.one_mul, Nat.mul_one, assoc_setI, assoc_keep, ↓reduceIte, Nat.reduceEqDiff, Nat.reduceLT, Nat.reduceLeDiff, Nat.reduceAdd, Nat.reduceSub, Nat.reduceMul, decide_true, decide_false, Bool.not_true, Bool.not_false, List.mem_cons, List.not_mem_nil, true_or, or_true, false_or, or_false, and_true, true_and, and_self, List.getElem?_cons_succ, List.getElem?_cons_zero, Option.bind_some, Option.map_some, Option.map_none, List.map_cons, List.map_nil, List.length_cons, List.length_nil, List.filterMap_cons, List.filterMap_nil, List.cons_append, List.nil_append, List.append_nil, Nat.zero_add, Nat.add_zero, List.take_succ_cons, List.take_zero, List.take_nil, List.drop_succ_cons, List.drop_zero, List.drop_nil, List.all_cons, List.all_nil, Bool.and_true, Bool.true_and, Bool.false_and, Bool.and_false, reduceCtorEq, beq_iff_eq, beq_self_eq_true, hch.cells, hch.flat, hch.bound, hc]
    rcases hch with ⟨rfl, rfl⟩ | ⟨cap, rfl⟩
    · kernel_rfl
    · kernel_rfl
  · rw [h1] at hc
    simp -implicitDefEqProofs only [Tryz.f40, intA, go_sem, repeatCells, splice, chunk, bsFin, ne_eq, not_true_eq_false, not_false_eq_true, List.headD_cons, Bool.false_eq_true, Nat.le_refl, Nat.zero_mul, Nat.one_mul, Nat.mul_one, assoc_setI, assoc_keep, ↓reduceIte, Nat.reduceEqDiff, Nat.reduceLT, Nat.reduceLeDiff, Nat.reduceAdd, Nat.reduceSub, Nat.reduceMul, decide_true, decide_false, Bool.not_true, Bool.not_false, List.mem_cons, List.not_mem_nil, true_or, or_true, false_or, or_false, and_true, true_and, and_self, List.getElem?_cons_succ, List.getElem?_cons_zero, Option.bind_some, Option.map_some, Option.map_none, List.map_cons, List.map_nil, List.length_cons, List.length_nil, List.filterMap_cons, List.filterMap_nil, List.cons_append, List.nil_append, List.append_nil, Nat.zero_add, Nat.add_zero, List.take_succ_cons, List.take_zero, List.take_nil, List.drop_succ_cons, List.drop_zero, List.drop_nil, List.all_cons, List.all_nil, Bool.and_true, Bool.true_and, Bool.false_and, Bool.and_false, reduceCtorEq, beq_iff_eq, beq_self_eq_true, hch.cells, hch.flat, hch.bound, hc]
    rcases hch with ⟨rfl, rfl⟩ | ⟨cap, rfl⟩
    · kernel_rfl
    · kernel_rfl
theorem call40 {e : Exts} (he : Quiet e) (t : Txt) (ht : Fits t) (ch : AV) (hx : ChsA t ch) (me : FuncId) (d : Option Tmp) (H : Heap) : callA (Cx e) (lim (Cx e)) me 40 d [.agg [ch]] H = some (if textB t then .tup [.agg [ch], intA 0] else .tup [.agg [.v (.slice none 0 0)], intA 10], H) :=
  (ans40 he t ht ch hx).call (ext_40 he) (pure_40 _ _ _) (by obtain ⟨xs, hch, -⟩ := hx; simp only [boundL_cons, bound_agg, hch.bound, boundL_nil]; rfl) H
end Go.Ev
