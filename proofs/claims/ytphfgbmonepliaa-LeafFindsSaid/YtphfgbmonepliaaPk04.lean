/- What the proof of this claim stands on, part 5: an evaluator of the model, proved right, and what it answers for functions of the program. -/
import Derived.Test.YtphfgbmonepliaaPk03
set_option linter.unusedSimpArgs false
namespace Go.Ev
open Go.Proofs
set_option maxRecDepth 100000
set_option linter.unusedSimpArgs false
attribute [local irreducible] Wp WpS
/-- readings so far, and where they lie -/
def DoneG (X : Heap) (fs : List Rd) (out : AV) : Prop :=
  (fs = [] ∧ out = .v (.slice none 0 0)) ∨ ∃ b v, b < X.size ∧ out = .sl b v 0 fs.length none ∧ X.get b = some (.cells v 0 108 5 true (rdCells fs)) ∧ fs ≠ []
theorem DoneG.plus {X : Heap} {fs : List Rd} {out : AV} (h : DoneG X fs out) (E : List (Option AObj)) : DoneG (X.plus E) fs out := by
  rcases h with h | ⟨b, v, h1, h2, h3, h4⟩
  · exact Or.inl h
  · exact Or.inr ⟨b, v, by rw [plus_size]; omega, h2, by rw [plus_get _ h1]; exact h3, h4⟩
theorem DoneG.trim {X : Heap} {fs : List Rd} {out : AV} (h : DoneG X fs out) {N : Nat} (hN : N ≤ X.size) {vs : List AV} {ms : List Nat} (hv : bound out ≤ boundL vs) : DoneG (X.trim N vs ms) fs out := by
  rcases h with h | ⟨b, v, h1, rfl, h3, h4⟩
  · exact Or.inl h
  · by_cases hb : b < N
    · exact Or.inr ⟨b, v, Nat.lt_of_lt_of_le hb (trim_szT hN), rfl, by rw [trim_getT hb]; exact h3, h4⟩
    · have : X.trim N vs ms = X := by
        unfold Heap.trim
        rw [if_neg]
        intro hq
        rw [Bool.and_eq_true, Bool.and_eq_true, Bool.and_eq_true, Nat.ble_eq] at hq
        have h5 := hq.1.1.1
        have h6 : bound (.sl b v 0 fs.length none) = b + 1 := rfl
        omega
      rw [this]; exact Or.inr ⟨b, v, h1, rfl, h3, h4⟩
theorem DoneG.freeze {X : Heap} {fs : List Rd} {out : AV} (h : DoneG X fs out) (hk : X.lock = 0) : freezeV X 1000000 out = some (ofV fs) := by
  rcases h with ⟨rfl, rfl⟩ | ⟨b, v, h2, rfl, h4, hnn⟩
  · rfl
  · unfold freezeV
    simp only [get_row h4]
    have hl := rdCells_len fs
    rw [if_neg (by omega), if_pos ⟨by omega, by omega⟩, if_pos trivial, List.drop_zero, List.take_of_length_le (by omega), chunk_rds]
    cases fs with
    | nil => exact absurd rfl hnn
    | cons r fs => rfl
theorem drop_atF {l : Line} {i : Nat} (h : i < l.length) : ∃ x, l[i]? = some x ∧ l.drop i = x :: l.drop (i + 1) := ⟨l[i], List.getElem?_eq_getElem h, List.drop_eq_getElem_cons h⟩
theorem DoneG.new {Y : Heap} {M : Nat} (hM : Y.size = M) {r : Rd} {E : List (Option AObj)} {q : Nat} (hE : E[q]? = some (some (.cells 0 0 108 5 true (rdCells [r])))) : DoneG (Y.plus E) [r] (.sl (M + q) 0 0 1 none) := by
  have hk := (List.getElem?_eq_some_iff.1 hE).1
  exact Or.inr ⟨M + q, 0, by rw [plus_size, hM]; omega, rfl, by rw [plus_at hM, hE]; rfl, by simp⟩
theorem DoneG.more {Y : Heap} {fs : List Rd} {b v : Nat} (hb : b < Y.size) (r : Rd) : DoneG (Y.put b (.cells (v + 1) 0 108 5 true (rdCells (fs ++ [r])))) (fs ++ [r]) (.sl b (v + 1) 0 (fs.length + 1) none) :=
  Or.inr ⟨b, v + 1, by rw [put_sizeI _ hb]; exact hb, by rw [List.length_append]; rfl, put_get_eq _ (by omega), by simp⟩
theorem tab109_sl (a b : Line) : SlOf 1 ((List.range (a.length + 1)).map fun r => AV.vs 1 (row109 a b r) none) (tab109 a b) := Or.inr ⟨none, rfl⟩
theorem tab109_at {a b : Line} {r : Nat} (h : r ≤ a.length) : ((List.range (a.length + 1)).map fun r => AV.vs 1 (row109 a b r) none)[r]? = some (.vs 1 (row109 a b r) none) := by
  rw [List.getElem?_map, List.getElem?_range (by omega)]; rfl
def Lp94 (a b : Line) (x y : AV) (k n : Int) : Inv := fun μ A X => ∃ i j fs out, μ = (a.length - i) + (b.length - j) ∧ i ≤ a.length ∧ j ≤ b.length ∧ A = ⟨159, [(0, x), (1, y), (2, intA k), (3, intA n), (8, .v (.slice none 0 0)), (9, tab109 a b), (10, out), (11, intA i), (12, intA j)], []⟩ ∧ X.lock = 0 ∧ DoneG X fs out ∧ foundL k n 0 a b = fs ++ foundL k n i (a.drop i) (b.drop j)
set_option maxHeartbeats 4000000 in
theorem ansF94 {e : Exts} (he : Quiet e) (a b : Line) (x y : AV) (hx : SlOf 1 (strs a) x) (hy : SlOf 1 (strs b) y) (ha : a.length < 500) (hb : b.length < 500) (k n : Int) : Ans (Cx e) 94 [x, y, intA k, intA n] (ofV (foundL k n 0 a b)) := by
  unfold Ans
  rw [fn_step (fn_94 e) (show Try.f94.body = some _ from rfl)]
  have hla := strs_len a
  have hlb := strs_len b
  have htb : bound (tab109 a b) = 0 := rfl
  have h109 := fun me d H => (ansF109 (e := e) a b x y hx hy ha hb).call (ext_109 he) (pure_109 e me d) (by simp only [boundL_cons, boundL_nil, hx.bound, hy.bound]; rfl) H
  simp -implicitDefEqProofs only [Try.f94, go_sem, ↓reduceIte, Int.reduceEq, Int.reduceLT, Int.reduceLE, List.reduceReplicate, intA, setT_nil, setT_cons, hx.cells, hx.flat, hx.bound, hx.len, hla, hlb, h109]
  refine Lp_ruleQ (P := Lp94 a b x y k n) ?_ _ _ _ ⟨0, 0, [], _, rfl, Nat.zero_le _, Nat.zero_le _, rfl, rfl, Or.inl ⟨rfl, rfl⟩, rfl⟩
  rintro Q KK hQ hKK μ _ X ⟨i, j, fs, out, hμ, hi, hj, rfl, hXl, hD, hF⟩
  have hfl : fs.length ≤ a.length + b.length := by
    have h1 := congrArg List.length hF
    rw [List.length_append, found_len] at h1
    have := dist_bd a b
    omega
  generalize hN : X.size = N
  have hlkN : X.lock ≤ N := by omega
  rw [← plus_nil X]
  cases h1 : decide ((i : Int) < (a.length : Int))
  · cases h2 : decide ((j : Int) < (b.length : Int))
    · simp -implicitDefEqProofs only [go_sem, ↓reduceIte, Int.reduceEq, Int.reduceLT, Int.reduceLE, List.reduceReplicate, intA, setT_nil, setT_cons, hx.len, hy.len, hla, hlb, h1, h2, ↓boolP_bool, ↓iteB_true, ↓iteB_false]
      rw [plus_nil, trim_self hN]
      refine hKK _ _ _ ?_
      simp -implicitDefEqProofs only [go_sem, ↓reduceIte, Int.reduceEq, Int.reduceLT, Int.reduceLE, List.reduceReplicate, intA, setT_nil, setT_cons]
      have h1' := of_decide_eq_false h1
      have h2' := of_decide_eq_false h2
      rw [List.drop_of_length_le (l := a) (by omega), List.drop_of_length_le (l := b) (by omega), found_nil, List.append_nil] at hF
      rw [hF]
      show freezeV { X with lock := 0 } 1000000 _ = some _
      have hX0 : ({ X with lock := 0 } : Heap) = X := by cases X; simp only at hXl; subst hXl; rfl
      rw [hX0]
      exact hD.freeze hXl
    · have h1' := of_decide_eq_false h1
      have h2' := of_decide_eq_true h2
      have hia : i = a.length := by omega
      have h3 : decide ((j : Int) = (b.length : Int)) = false := decide_eq_false (by omega)
      obtain ⟨w, hw, hdb⟩ := drop_atF (l := b) (i := j) (by omega)
      have hyi := hy.idx (strs_get hw)
      have hda : a.drop i = [] := List.drop_of_length_le (by omega)
      simp -implicitDefEqProofs only [go_sem, ↓reduceIte, Int.reduceEq, Int.reduceLT, Int.reduceLE, List.reduceReplicate, intA, setT_nil, setT_cons, hx.len, hy.len, hx.lenI, hy.lenI, hla, hlb, h1, h2, sizeP hN, putP0 hN, putP hN, settleP0 hN, settleP hN, rowP0 hN, rowP hN, storeP0 hN hlkN, storeP hN hlkN, ↓boolP_bool, ↓iteB_true, ↓iteB_false]
      refine wp_draw (by kernel_rfl) ?_
      simp -implicitDefEqProofs only [go_sem, ↓reduceIte, Int.reduceEq, Int.reduceLT, Int.reduceLE, List.reduceReplicate, intA, setT_nil, setT_cons, hx.len, hy.len, hx.lenI, hy.lenI, hla, hlb, h1, h2,  ↓boolP_bool, ↓iteB_true, ↓iteB_false]
      refine wp_draw (by kernel_rfl) ?_
      simp -implicitDefEqProofs only [go_sem, ↓reduceIte, Int.reduceEq, Int.reduceLT, Int.reduceLE, List.reduceReplicate, intA, setT_nil, setT_cons, hx.len, hy.len, hx.lenI, hy.lenI, hla, hlb, h1, h2,  ↓boolP_bool, ↓iteB_true, ↓iteB_false]
      refine wp_draw (by kernel_rfl) ?_
      simp -implicitDefEqProofs only [go_sem, ↓reduceIte, Int.reduceEq, Int.reduceLT, Int.reduceLE, List.reduceReplicate, intA, setT_nil, setT_cons, hx.len, hy.len, hx.lenI, hy.lenI, hla, hlb, h1, h2, h3, ↓boolP_bool, ↓iteB_true, ↓iteB_false]
      generalize hY : X.plus [some (AObj.cells 0 0 26 1 false [AV.v (Value.int IntKind.i64 k), AV.v (Value.int IntKind.i64 n), AV.v (Value.int IntKind.i64 ↑i)])] = Y
      have hM : Y.size = N + 1 := by rw [← hY, plus_size, hN]; rfl
      have hYl : Y.lock = 0 := by rw [← hY]; exact hXl
      have hYD : DoneG Y fs out := by rw [← hY]; exact hD.plus _
      have hYp : Y.get N = some (AObj.cells 0 0 26 1 false [AV.v (Value.int IntKind.i64 k), AV.v (Value.int IntKind.i64 n), AV.v (Value.int IntKind.i64 ↑i)]) := by rw [← hY]; exact plus_at hN _ 0
      have hrp : ∀ E, (Y.plus E).row N 0 = some (0, 26, 1, false, [AV.v (Value.int IntKind.i64 k), AV.v (Value.int IntKind.i64 n), AV.v (Value.int IntKind.i64 ↑i)]) := fun E => by rw [rowLo (by omega)]; exact get_row hYp
      have hlkM : Y.lock ≤ N + 1 := by omega
      have hlN : ltB N (N + 1) = true := by unfold ltB; exact decide_eq_true (by omega)
      have hwi := wrap_succ i (by omega)
      have hwj := wrap_succ j (by omega)
      clear hY
      rw [← plus_nil Y]
      rcases hYD with ⟨rfl, rfl⟩ | ⟨b', v, hb', rfl, hYb, hnn⟩
      · have hff : fitsA 48 1 = true := by decide
        refine wp_drawX [([], [], false), ([], [], false), ([], [], false), ([], [], false), ([], [], false), ([1], [], false), ([], [], false), ([], [], false), ([], [7], false), ([], [], false)] (by kernel_rfl) (by kernel_rfl) ?_
        simp -implicitDefEqProofs only [go_sem, ↓reduceIte, Int.reduceEq, Int.reduceLT, Int.reduceLE, List.reduceReplicate, intA, setT_nil, setT_cons, hx.len, hy.len, hx.cells, hy.cells, hla, hlb, h1, h2, hrp, hff, hlN, hwi, hwj, h3, hyi, List.flatMap_cons, List.flatMap_nil, List.append_nil, List.all_cons, List.all_nil, Bool.and_self, Bool.true_or, AV.cells, AV.flat, sizeP hM, putP0 hM, putP hM, settleP0 hM, settleP hM, rowP0 hM, rowP hM, storeP0 hM hlkM, storeP hM hlkM, ↓boolP_bool, ↓iteB_true, ↓iteB_false, List.length_nil, List.length_cons, Nat.add_zero, Nat.zero_add]
        refine Again.mk' ((a.length - (i)) + (b.length - (j + 1))) (by omega) (hQ _ _ _ ⟨i, j + 1, [⟨k, n, i, 2, w⟩], _, rfl, by omega, by omega, rfl, by rw [trim_lockT]; exact hYl, ?_, ?_⟩)
        · exact (DoneG.new hM (r := ⟨k, n, i, 2, w⟩) (q := 8) rfl).trim (by rw [plus_size]; omega) (boundL_le.1 (Nat.le_refl _) _ (by simp))
        · rw [hF, hda, hdb, found_right]; rfl
      · have hrb : ∀ E, (Y.plus E).row b' v = some (0, 108, 5, true, rdCells fs) := fun E => by rw [rowLo hb']; exact get_row hYb
        have hff : fitsA 48 (fs.length + 1) = true := by unfold fitsA; exact decide_eq_true (by omega)
        have happ := fun new E slot => (appTo_own (e := 108) (sz := 5) (b' := 48) (H := Y.plus E) (slot := slot) (n := 1) (new := new) (hrb E) (by rw [rdCells_len]) (by show Y.lock ≤ b'; omega) hff (by omega) (by omega)).trans (by rw [putLo hb'])
        have hlb' : ltB b' (N + 1) = true := by unfold ltB; exact decide_eq_true (by omega)
        have hbN : (N == b') = false := by
          simp only [beq_eq_false_iff_ne, ne_eq]; rintro rfl; rw [hYp] at hYb; simp at hYb
        have hbN2 : (b' == N) = false := by simp only [beq_eq_false_iff_ne, ne_eq] at hbN ⊢; omega
        refine wp_drawX [([], [], false), ([], [], false), ([], [], false), ([], [], false), ([], [], false), ([1], [], false), ([], [], false), ([], [], false), ([], [7], false), ([], [], false)] (by kernel_rfl) (by kernel_rfl) ?_
        simp -implicitDefEqProofs only [go_sem, ↓reduceIte, Int.reduceEq, Int.reduceLT, Int.reduceLE, List.reduceReplicate, intA, setT_nil, setT_cons, hx.len, hy.len, hx.cells, hy.cells, hla, hlb, h1, h2, hrp, happ, hff, hlN, hlb', hbN, hbN2, hwi, hwj, h3, hyi, List.flatMap_cons, List.flatMap_nil, List.append_nil, List.all_cons, List.all_nil, Bool.and_self, Bool.true_or, AV.cells, AV.flat, sizeP hM, putP0 hM, putP hM, settleP0 hM, settleP hM, rowP0 hM, rowP hM, storeP0 hM hlkM, storeP hM hlkM, ↓boolP_bool, ↓iteB_true, ↓iteB_false, List.length_nil, List.length_cons, Nat.add_zero, Nat.zero_add]
        rw [show rdCells fs ++ [AV.v (Value.int IntKind.i64 k), AV.v (Value.int IntKind.i64 n), AV.v (Value.int IntKind.i64 ↑i), AV.v (Value.int IntKind.u8 2), AV.v (Value.string w)] = rdCells (fs ++ [⟨k, n, i, 2, w⟩]) from (rdCells_append fs [⟨k, n, i, 2, w⟩]).symm]
        have hZ := DoneG.more (fs := fs) (v := v) hb' (⟨k, n, i, 2, w⟩)
        have hZs : (Y.put b' (.cells (v + 1) 0 108 5 true (rdCells (fs ++ [⟨k, n, i, 2, w⟩])))).size = N + 1 := by rw [put_sizeI _ (by omega)]; exact hM
        have hZl : (Y.put b' (.cells (v + 1) 0 108 5 true (rdCells (fs ++ [⟨k, n, i, 2, w⟩])))).lock = 0 := hYl
        generalize Y.put b' _ = Z at *
        rw [settleP0 hZs, List.drop_zero, if_pos (by rfl), List.take_zero, plus_nil]
        refine Again.mk' ((a.length - (i)) + (b.length - (j + 1))) (by omega) (hQ _ _ _ ⟨i, j + 1, fs ++ [⟨k, n, i, 2, w⟩], _, rfl, by omega, by omega, rfl, by rw [trim_lockT]; exact hZl, ?_, ?_⟩)
        · exact hZ.trim (by omega) (boundL_le.1 (Nat.le_refl _) _ (by simp))
        · rw [hF, hda, hdb, found_right, List.append_assoc]; rfl
  · cases h2 : decide ((j : Int) < (b.length : Int))
    · have h1' := of_decide_eq_true h1
      have h2' := of_decide_eq_false h2
      have h3 : decide ((j : Int) = (b.length : Int)) = true := decide_eq_true (by omega)
      obtain ⟨w, hw, hda⟩ := drop_atF (l := a) (i := i) (by omega)
      have hdb : b.drop j = [] := List.drop_of_length_le (by omega)
      simp -implicitDefEqProofs only [go_sem, ↓reduceIte, Int.reduceEq, Int.reduceLT, Int.reduceLE, List.reduceReplicate, intA, setT_nil, setT_cons, hx.len, hy.len, hx.lenI, hy.lenI, hla, hlb, h1, h2, sizeP hN, putP0 hN, putP hN, settleP0 hN, settleP hN, rowP0 hN, rowP hN, storeP0 hN hlkN, storeP hN hlkN, ↓boolP_bool, ↓iteB_true, ↓iteB_false]
      refine wp_draw (by kernel_rfl) ?_
      simp -implicitDefEqProofs only [go_sem, ↓reduceIte, Int.reduceEq, Int.reduceLT, Int.reduceLE, List.reduceReplicate, intA, setT_nil, setT_cons, hx.len, hy.len, hx.lenI, hy.lenI, hla, hlb, h1, h2,  ↓boolP_bool, ↓iteB_true, ↓iteB_false]
      refine wp_draw (by kernel_rfl) ?_
      simp -implicitDefEqProofs only [go_sem, ↓reduceIte, Int.reduceEq, Int.reduceLT, Int.reduceLE, List.reduceReplicate, intA, setT_nil, setT_cons, hx.len, hy.len, hx.lenI, hy.lenI, hla, hlb, h1, h2,  ↓boolP_bool, ↓iteB_true, ↓iteB_false]
      refine wp_draw (by kernel_rfl) ?_
      simp -implicitDefEqProofs only [go_sem, ↓reduceIte, Int.reduceEq, Int.reduceLT, Int.reduceLE, List.reduceReplicate, intA, setT_nil, setT_cons, hx.len, hy.len, hx.lenI, hy.lenI, hla, hlb, h1, h2, h3, ↓boolP_bool, ↓iteB_true, ↓iteB_false]
      generalize hY : X.plus [some (AObj.cells 0 0 26 1 false [AV.v (Value.int IntKind.i64 k), AV.v (Value.int IntKind.i64 n), AV.v (Value.int IntKind.i64 ↑i)])] = Y
      have hM : Y.size = N + 1 := by rw [← hY, plus_size, hN]; rfl
      have hYl : Y.lock = 0 := by rw [← hY]; exact hXl
      have hYD : DoneG Y fs out := by rw [← hY]; exact hD.plus _
      have hYp : Y.get N = some (AObj.cells 0 0 26 1 false [AV.v (Value.int IntKind.i64 k), AV.v (Value.int IntKind.i64 n), AV.v (Value.int IntKind.i64 ↑i)]) := by rw [← hY]; exact plus_at hN _ 0
      have hrp : ∀ E, (Y.plus E).row N 0 = some (0, 26, 1, false, [AV.v (Value.int IntKind.i64 k), AV.v (Value.int IntKind.i64 n), AV.v (Value.int IntKind.i64 ↑i)]) := fun E => by rw [rowLo (by omega)]; exact get_row hYp
      have hlkM : Y.lock ≤ N + 1 := by omega
      have hlN : ltB N (N + 1) = true := by unfold ltB; exact decide_eq_true (by omega)
      have hwi := wrap_succ i (by omega)
      have hwj := wrap_succ j (by omega)
      clear hY
      rw [← plus_nil Y]
      rcases hYD with ⟨rfl, rfl⟩ | ⟨b', v, hb', rfl, hYb, hnn⟩
      · have hff : fitsA 48 1 = true := by decide
        simp -implicitDefEqProofs only [go_sem, ↓reduceIte, Int.reduceEq, Int.reduceLT, Int.reduceLE, List.reduceReplicate, intA, setT_nil, setT_cons, hx.len, hy.len, hx.cells, hy.cells, hla, hlb, h1, h2, hrp, hff, hlN, hwi, hwj, h3, List.flatMap_cons, List.flatMap_nil, List.append_nil, List.all_cons, List.all_nil, Bool.and_self, Bool.true_or, AV.cells, AV.flat, sizeP hM, putP0 hM, putP hM, settleP0 hM, settleP hM, rowP0 hM, rowP hM, storeP0 hM hlkM, storeP hM hlkM, ↓boolP_bool, ↓iteB_true, ↓iteB_false, List.length_nil, List.length_cons, Nat.add_zero, Nat.zero_add]
        refine Again.mk' ((a.length - (i + 1)) + (b.length - (j))) (by omega) (hQ _ _ _ ⟨i + 1, j, [⟨k, n, i, 1, emp⟩], _, rfl, by omega, by omega, rfl, by rw [trim_lockT]; exact hYl, ?_, ?_⟩)
        · exact (DoneG.new hM (r := ⟨k, n, i, 1, emp⟩) (q := 0) rfl).trim (by rw [plus_size]; omega) (boundL_le.1 (Nat.le_refl _) _ (by simp))
        · rw [hF, hda, hdb, found_left]; rfl
      · have hrb : ∀ E, (Y.plus E).row b' v = some (0, 108, 5, true, rdCells fs) := fun E => by rw [rowLo hb']; exact get_row hYb
        have hff : fitsA 48 (fs.length + 1) = true := by unfold fitsA; exact decide_eq_true (by omega)
        have happ := fun new E slot => (appTo_own (e := 108) (sz := 5) (b' := 48) (H := Y.plus E) (slot := slot) (n := 1) (new := new) (hrb E) (by rw [rdCells_len]) (by show Y.lock ≤ b'; omega) hff (by omega) (by omega)).trans (by rw [putLo hb'])
        have hlb' : ltB b' (N + 1) = true := by unfold ltB; exact decide_eq_true (by omega)
        have hbN : (N == b') = false := by
          simp only [beq_eq_false_iff_ne, ne_eq]; rintro rfl; rw [hYp] at hYb; simp at hYb
        have hbN2 : (b' == N) = false := by simp only [beq_eq_false_iff_ne, ne_eq] at hbN ⊢; omega
        simp -implicitDefEqProofs only [go_sem, ↓reduceIte, Int.reduceEq, Int.reduceLT, Int.reduceLE, List.reduceReplicate, intA, setT_nil, setT_cons, hx.len, hy.len, hx.cells, hy.cells, hla, hlb, h1, h2, hrp, happ, hff, hlN, hlb', hbN, hbN2, hwi, hwj, h3, List.flatMap_cons, List.flatMap_nil, List.append_nil, List.all_cons, List.all_nil, Bool.and_self, Bool.true_or, AV.cells, AV.flat, sizeP hM, putP0 hM, putP hM, settleP0 hM, settleP hM, rowP0 hM, rowP hM, storeP0 hM hlkM, storeP hM hlkM, ↓boolP_bool, ↓iteB_true, ↓iteB_false, List.length_nil, List.length_cons, Nat.add_zero, Nat.zero_add]
        rw [show rdCells fs ++ [AV.v (Value.int IntKind.i64 k), AV.v (Value.int IntKind.i64 n), AV.v (Value.int IntKind.i64 ↑i), AV.v (Value.int IntKind.u8 1), AV.v (Value.string ⟨#[]⟩)] = rdCells (fs ++ [⟨k, n, i, 1, emp⟩]) from (rdCells_append fs [⟨k, n, i, 1, emp⟩]).symm]
        have hZ := DoneG.more (fs := fs) (v := v) hb' (⟨k, n, i, 1, emp⟩)
        have hZs : (Y.put b' (.cells (v + 1) 0 108 5 true (rdCells (fs ++ [⟨k, n, i, 1, emp⟩])))).size = N + 1 := by rw [put_sizeI _ (by omega)]; exact hM
        have hZl : (Y.put b' (.cells (v + 1) 0 108 5 true (rdCells (fs ++ [⟨k, n, i, 1, emp⟩])))).lock = 0 := hYl
        generalize Y.put b' _ = Z at *
        rw [settleP0 hZs, List.drop_zero, if_pos (by rfl), List.take_zero, plus_nil]
        refine Again.mk' ((a.length - (i + 1)) + (b.length - (j))) (by omega) (hQ _ _ _ ⟨i + 1, j, fs ++ [⟨k, n, i, 1, emp⟩], _, rfl, by omega, by omega, rfl, by rw [trim_lockT]; exact hZl, ?_, ?_⟩)
        · exact hZ.trim (by omega) (boundL_le.1 (Nat.le_refl _) _ (by simp))
        · rw [hF, hda, hdb, found_left, List.append_assoc]; rfl
    · have h1' := of_decide_eq_true h1
      have h2' := of_decide_eq_true h2
      have h3 : decide ((j : Int) = (b.length : Int)) = false := decide_eq_false (by omega)
      obtain ⟨w, hw, hda⟩ := drop_atF (l := a) (i := i) (by omega)
      obtain ⟨w2, hw2, hdb⟩ := drop_atF (l := b) (i := j) (by omega)
      have hxi := hx.idx (strs_get hw)
      have hyi := hy.idx (strs_get hw2)
      have hwi := wrap_succ i (by omega)
      have hwj := wrap_succ j (by omega)
      simp -implicitDefEqProofs only [go_sem, ↓reduceIte, Int.reduceEq, Int.reduceLT, Int.reduceLE, List.reduceReplicate, intA, setT_nil, setT_cons, hx.len, hy.len, hx.lenI, hy.lenI, hla, hlb, h1, h2, sizeP hN, putP0 hN, putP hN, settleP0 hN, settleP hN, rowP0 hN, rowP hN, storeP0 hN hlkN, storeP hN hlkN, ↓boolP_bool, ↓iteB_true, ↓iteB_false]
      refine wp_draw (by kernel_rfl) ?_
      cases h4 : decide (w = w2)
      · have ht1 := (tab109_sl a b).idx (tab109_at (a := a) (b := b) (r := i + 1) (by omega))
        have ht0 := (tab109_sl a b).idx (tab109_at (a := a) (b := b) (r := i) (by omega))
        have hr1 : SlOf 1 (row109 a b (i + 1)) (.vs 1 (row109 a b (i + 1)) none) := Or.inr ⟨none, rfl⟩
        have hr0 : SlOf 1 (row109 a b i) (.vs 1 (row109 a b i) none) := Or.inr ⟨none, rfl⟩
        have hr11 := hr1.idx (row109_at (a := a) (b := b) (r := i + 1) (k := j + 1) (by omega))
        have hr10 := hr1.idx (row109_at (a := a) (b := b) (r := i + 1) (k := j) (by omega))
        have hr01 := hr0.idx (row109_at (a := a) (b := b) (r := i) (k := j + 1) (by omega))
        unfold intA at hr11 hr10 hr01
        have hcv : ∀ z l c, AV.cells (.vs z l c) = [.vs z l c] := fun _ _ _ => rfl
        have hne := of_decide_eq_false h4
        simp -implicitDefEqProofs only [go_sem, ↓reduceIte, Int.reduceEq, Int.reduceLT, Int.reduceLE, List.reduceReplicate, intA, setT_nil, setT_cons, hx.len, hy.len, hx.lenI, hy.lenI, hla, hlb, h1, h2, hwi, hwj, hxi, hyi, h4, ht1, ht0, hr11, hr10, hr01, hcv, min_two, ↓boolP_bool, ↓iteB_true, ↓iteB_false]
        refine wp_draw (by kernel_rfl) ?_
        cases h5 : decide (((distL (a.drop (i + 1)) (b.drop (j + 1)) : Nat) : Int) ≤ ((min (distL (a.drop (i + 1)) (b.drop j)) (distL (a.drop i) (b.drop (j + 1))) : Nat) : Int))
        · have h5p := of_decide_eq_false h5
          simp -implicitDefEqProofs only [go_sem, ↓reduceIte, Int.reduceEq, Int.reduceLT, Int.reduceLE, List.reduceReplicate, intA, setT_nil, setT_cons, hx.len, hy.len, hx.lenI, hy.lenI, hla, hlb, h1, h2, hwi, hwj, hxi, hyi, h4, ht1, ht0, hr11, hr10, hr01, hcv, min_two,h5, ↓boolP_bool, ↓iteB_true, ↓iteB_false]
          refine wp_draw (by kernel_rfl) ?_
          cases h6 : decide (((distL (a.drop (i + 1)) (b.drop j) : Nat) : Int) ≤ ((distL (a.drop i) (b.drop (j + 1)) : Nat) : Int))
          · have h6p := of_decide_eq_false h6
            rw [hda, hdb] at h5p h6p
            simp -implicitDefEqProofs only [go_sem, ↓reduceIte, Int.reduceEq, Int.reduceLT, Int.reduceLE, List.reduceReplicate, intA, setT_nil, setT_cons, hx.len, hy.len, hx.lenI, hy.lenI, hla, hlb, h1, h2, hwi, hwj, hxi, hyi, h4, ht1, ht0, hr11, hr10, hr01, hcv, min_two,h5, h6, h3, ↓boolP_bool, ↓iteB_true, ↓iteB_false]
            generalize hY : X.plus [some (AObj.cells 0 0 26 1 false [AV.v (Value.int IntKind.i64 k), AV.v (Value.int IntKind.i64 n), AV.v (Value.int IntKind.i64 ↑i)])] = Y
            have hM : Y.size = N + 1 := by rw [← hY, plus_size, hN]; rfl
            have hYl : Y.lock = 0 := by rw [← hY]; exact hXl
            have hYD : DoneG Y fs out := by rw [← hY]; exact hD.plus _
            have hYp : Y.get N = some (AObj.cells 0 0 26 1 false [AV.v (Value.int IntKind.i64 k), AV.v (Value.int IntKind.i64 n), AV.v (Value.int IntKind.i64 ↑i)]) := by rw [← hY]; exact plus_at hN _ 0
            have hrp : ∀ E, (Y.plus E).row N 0 = some (0, 26, 1, false, [AV.v (Value.int IntKind.i64 k), AV.v (Value.int IntKind.i64 n), AV.v (Value.int IntKind.i64 ↑i)]) := fun E => by rw [rowLo (by omega)]; exact get_row hYp
            have hlkM : Y.lock ≤ N + 1 := by omega
            have hlN : ltB N (N + 1) = true := by unfold ltB; exact decide_eq_true (by omega)
            have hwi := wrap_succ i (by omega)
            have hwj := wrap_succ j (by omega)
            clear hY
            rw [← plus_nil Y]
            rcases hYD with ⟨rfl, rfl⟩ | ⟨b', v, hb', rfl, hYb, hnn⟩
            · have hff : fitsA 48 1 = true := by decide
              refine wp_drawX [([], [], false), ([], [], false), ([], [], false), ([], [], false), ([], [], false), ([1], [], false), ([], [], false), ([], [], false), ([], [7], false), ([], [], false)] (by kernel_rfl) (by kernel_rfl) ?_
              simp -implicitDefEqProofs only [go_sem, ↓reduceIte, Int.reduceEq, Int.reduceLT, Int.reduceLE, List.reduceReplicate, intA, setT_nil, setT_cons, hx.len, hy.len, hx.cells, hy.cells, hla, hlb, h1, h2, hrp, hff, hlN, hwi, hwj, hyi, List.flatMap_cons, List.flatMap_nil, List.append_nil, List.all_cons, List.all_nil, Bool.and_self, Bool.true_or, AV.cells, AV.flat, sizeP hM, putP0 hM, putP hM, settleP0 hM, settleP hM, rowP0 hM, rowP hM, storeP0 hM hlkM, storeP hM hlkM, ↓boolP_bool, ↓iteB_true, ↓iteB_false, List.length_nil, List.length_cons, Nat.add_zero, Nat.zero_add]
              refine Again.mk' ((a.length - (i)) + (b.length - (j + 1))) (by omega) (hQ _ _ _ ⟨i, j + 1, [⟨k, n, i, 2, w2⟩], _, rfl, by omega, by omega, rfl, by rw [trim_lockT]; exact hYl, ?_, ?_⟩)
              · exact (DoneG.new hM (r := ⟨k, n, i, 2, w2⟩) (q := 8) rfl).trim (by rw [plus_size]; omega) (boundL_le.1 (Nat.le_refl _) _ (by simp))
              · rw [hF, hda, hdb, found_put hne (by omega) (by omega), ← hda]; rfl
            · have hrb : ∀ E, (Y.plus E).row b' v = some (0, 108, 5, true, rdCells fs) := fun E => by rw [rowLo hb']; exact get_row hYb
              have hff : fitsA 48 (fs.length + 1) = true := by unfold fitsA; exact decide_eq_true (by omega)
              have happ := fun new E slot => (appTo_own (e := 108) (sz := 5) (b' := 48) (H := Y.plus E) (slot := slot) (n := 1) (new := new) (hrb E) (by rw [rdCells_len]) (by show Y.lock ≤ b'; omega) hff (by omega) (by omega)).trans (by rw [putLo hb'])
              have hlb' : ltB b' (N + 1) = true := by unfold ltB; exact decide_eq_true (by omega)
              have hbN : (N == b') = false := by
                simp only [beq_eq_false_iff_ne, ne_eq]; rintro rfl; rw [hYp] at hYb; simp at hYb
              have hbN2 : (b' == N) = false := by simp only [beq_eq_false_iff_ne, ne_eq] at hbN ⊢; omega
              refine wp_drawX [([], [], false), ([], [], false), ([], [], false), ([], [], false), ([], [], false), ([1], [], false), ([], [], false), ([], [], false), ([], [7], false), ([], [], false)] (by kernel_rfl) (by kernel_rfl) ?_
              simp -implicitDefEqProofs only [go_sem, ↓reduceIte, Int.reduceEq, Int.reduceLT, Int.reduceLE, List.reduceReplicate, intA, setT_nil, setT_cons, hx.len, hy.len, hx.cells, hy.cells, hla, hlb, h1, h2, hrp, happ, hff, hlN, hlb', hbN, hbN2, hwi, hwj, hyi, List.flatMap_cons, List.flatMap_nil, List.append_nil, List.all_cons, List.all_nil, Bool.and_self, Bool.true_or, AV.cells, AV.flat, sizeP hM, putP0 hM, putP hM, settleP0 hM, settleP hM, rowP0 hM, rowP hM, storeP0 hM hlkM, storeP hM hlkM, ↓boolP_bool, ↓iteB_true, ↓iteB_false, List.length_nil, List.length_cons, Nat.add_zero, Nat.zero_add]
              rw [show rdCells fs ++ [AV.v (Value.int IntKind.i64 k), AV.v (Value.int IntKind.i64 n), AV.v (Value.int IntKind.i64 ↑i), AV.v (Value.int IntKind.u8 2), AV.v (Value.string w2)] = rdCells (fs ++ [⟨k, n, i, 2, w2⟩]) from (rdCells_append fs [⟨k, n, i, 2, w2⟩]).symm]
              have hZ := DoneG.more (fs := fs) (v := v) hb' (⟨k, n, i, 2, w2⟩)
              have hZs : (Y.put b' (.cells (v + 1) 0 108 5 true (rdCells (fs ++ [⟨k, n, i, 2, w2⟩])))).size = N + 1 := by rw [put_sizeI _ (by omega)]; exact hM
              have hZl : (Y.put b' (.cells (v + 1) 0 108 5 true (rdCells (fs ++ [⟨k, n, i, 2, w2⟩])))).lock = 0 := hYl
              generalize Y.put b' _ = Z at *
              rw [settleP0 hZs, List.drop_zero, if_pos (by rfl), List.take_zero, plus_nil]
              refine Again.mk' ((a.length - (i)) + (b.length - (j + 1))) (by omega) (hQ _ _ _ ⟨i, j + 1, fs ++ [⟨k, n, i, 2, w2⟩], _, rfl, by omega, by omega, rfl, by rw [trim_lockT]; exact hZl, ?_, ?_⟩)
              · exact hZ.trim (by omega) (boundL_le.1 (Nat.le_refl _) _ (by simp))
              · rw [hF, hda, hdb, found_put hne (by omega) (by omega), ← hda, List.append_assoc]; rfl
          · have h6p := of_decide_eq_true h6
            rw [hda, hdb] at h5p h6p
            simp -implicitDefEqProofs only [go_sem, ↓reduceIte, Int.reduceEq, Int.reduceLT, Int.reduceLE, List.reduceReplicate, intA, setT_nil, setT_cons, hx.len, hy.len, hx.lenI, hy.lenI, hla, hlb, h1, h2, hwi, hwj, hxi, hyi, h4, ht1, ht0, hr11, hr10, hr01, hcv, min_two,h5, h6, h3, ↓boolP_bool, ↓iteB_true, ↓iteB_false]
            generalize hY : X.plus [some (AObj.cells 0 0 26 1 false [AV.v (Value.int IntKind.i64 k), AV.v (Value.int IntKind.i64 n), AV.v (Value.int IntKind.i64 ↑i)])] = Y
            have hM : Y.size = N + 1 := by rw [← hY, plus_size, hN]; rfl
            have hYl : Y.lock = 0 := by rw [← hY]; exact hXl
            have hYD : DoneG Y fs out := by rw [← hY]; exact hD.plus _
            have hYp : Y.get N = some (AObj.cells 0 0 26 1 false [AV.v (Value.int IntKind.i64 k), AV.v (Value.int IntKind.i64 n), AV.v (Value.int IntKind.i64 ↑i)]) := by rw [← hY]; exact plus_at hN _ 0
            have hrp : ∀ E, (Y.plus E).row N 0 = some (0, 26, 1, false, [AV.v (Value.int IntKind.i64 k), AV.v (Value.int IntKind.i64 n), AV.v (Value.int IntKind.i64 ↑i)]) := fun E => by rw [rowLo (by omega)]; exact get_row hYp
            have hlkM : Y.lock ≤ N + 1 := by omega
            have hlN : ltB N (N + 1) = true := by unfold ltB; exact decide_eq_true (by omega)
            have hwi := wrap_succ i (by omega)
            have hwj := wrap_succ j (by omega)
            clear hY
            rw [← plus_nil Y]
            rcases hYD with ⟨rfl, rfl⟩ | ⟨b', v, hb', rfl, hYb, hnn⟩
            · have hff : fitsA 48 1 = true := by decide
              simp -implicitDefEqProofs only [go_sem, ↓reduceIte, Int.reduceEq, Int.reduceLT, Int.reduceLE, List.reduceReplicate, intA, setT_nil, setT_cons, hx.len, hy.len, hx.cells, hy.cells, hla, hlb, h1, h2, hrp, hff, hlN, hwi, hwj, hyi, List.flatMap_cons, List.flatMap_nil, List.append_nil, List.all_cons, List.all_nil, Bool.and_self, Bool.true_or, AV.cells, AV.flat, sizeP hM, putP0 hM, putP hM, settleP0 hM, settleP hM, rowP0 hM, rowP hM, storeP0 hM hlkM, storeP hM hlkM, ↓boolP_bool, ↓iteB_true, ↓iteB_false, List.length_nil, List.length_cons, Nat.add_zero, Nat.zero_add]
              refine Again.mk' ((a.length - (i + 1)) + (b.length - (j))) (by omega) (hQ _ _ _ ⟨i + 1, j, [⟨k, n, i, 1, emp⟩], _, rfl, by omega, by omega, rfl, by rw [trim_lockT]; exact hYl, ?_, ?_⟩)
              · exact (DoneG.new hM (r := ⟨k, n, i, 1, emp⟩) (q := 0) rfl).trim (by rw [plus_size]; omega) (boundL_le.1 (Nat.le_refl _) _ (by simp))
              · rw [hF, hda, hdb, found_leave hne (by omega) (by omega), ← hdb]; rfl
            · have hrb : ∀ E, (Y.plus E).row b' v = some (0, 108, 5, true, rdCells fs) := fun E => by rw [rowLo hb']; exact get_row hYb
              have hff : fitsA 48 (fs.length + 1) = true := by unfold fitsA; exact decide_eq_true (by omega)
              have happ := fun new E slot => (appTo_own (e := 108) (sz := 5) (b' := 48) (H := Y.plus E) (slot := slot) (n := 1) (new := new) (hrb E) (by rw [rdCells_len]) (by show Y.lock ≤ b'; omega) hff (by omega) (by omega)).trans (by rw [putLo hb'])
              have hlb' : ltB b' (N + 1) = true := by unfold ltB; exact decide_eq_true (by omega)
              have hbN : (N == b') = false := by
                simp only [beq_eq_false_iff_ne, ne_eq]; rintro rfl; rw [hYp] at hYb; simp at hYb
              have hbN2 : (b' == N) = false := by simp only [beq_eq_false_iff_ne, ne_eq] at hbN ⊢; omega
              simp -implicitDefEqProofs only [go_sem, ↓reduceIte, Int.reduceEq, Int.reduceLT, Int.reduceLE, List.reduceReplicate, intA, setT_nil, setT_cons, hx.len, hy.len, hx.cells, hy.cells, hla, hlb, h1, h2, hrp, happ, hff, hlN, hlb', hbN, hbN2, hwi, hwj, hyi, List.flatMap_cons, List.flatMap_nil, List.append_nil, List.all_cons, List.all_nil, Bool.and_self, Bool.true_or, AV.cells, AV.flat, sizeP hM, putP0 hM, putP hM, settleP0 hM, settleP hM, rowP0 hM, rowP hM, storeP0 hM hlkM, storeP hM hlkM, ↓boolP_bool, ↓iteB_true, ↓iteB_false, List.length_nil, List.length_cons, Nat.add_zero, Nat.zero_add]
              rw [show rdCells fs ++ [AV.v (Value.int IntKind.i64 k), AV.v (Value.int IntKind.i64 n), AV.v (Value.int IntKind.i64 ↑i), AV.v (Value.int IntKind.u8 1), AV.v (Value.string ⟨#[]⟩)] = rdCells (fs ++ [⟨k, n, i, 1, emp⟩]) from (rdCells_append fs [⟨k, n, i, 1, emp⟩]).symm]
              have hZ := DoneG.more (fs := fs) (v := v) hb' (⟨k, n, i, 1, emp⟩)
              have hZs : (Y.put b' (.cells (v + 1) 0 108 5 true (rdCells (fs ++ [⟨k, n, i, 1, emp⟩])))).size = N + 1 := by rw [put_sizeI _ (by omega)]; exact hM
              have hZl : (Y.put b' (.cells (v + 1) 0 108 5 true (rdCells (fs ++ [⟨k, n, i, 1, emp⟩])))).lock = 0 := hYl
              generalize Y.put b' _ = Z at *
              rw [settleP0 hZs, List.drop_zero, if_pos (by rfl), List.take_zero, plus_nil]
              refine Again.mk' ((a.length - (i + 1)) + (b.length - (j))) (by omega) (hQ _ _ _ ⟨i + 1, j, fs ++ [⟨k, n, i, 1, emp⟩], _, rfl, by omega, by omega, rfl, by rw [trim_lockT]; exact hZl, ?_, ?_⟩)
              · exact hZ.trim (by omega) (boundL_le.1 (Nat.le_refl _) _ (by simp))
              · rw [hF, hda, hdb, found_leave hne (by omega) (by omega), ← hdb, List.append_assoc]; rfl
        · have h5p := of_decide_eq_true h5
          rw [hda, hdb] at h5p
          simp -implicitDefEqProofs only [go_sem, ↓reduceIte, Int.reduceEq, Int.reduceLT, Int.reduceLE, List.reduceReplicate, intA, setT_nil, setT_cons, hx.len, hy.len, hx.lenI, hy.lenI, hla, hlb, h1, h2, hwi, hwj, hxi, hyi, h4, ht1, ht0, hr11, hr10, hr01, hcv, min_two,h5, ↓boolP_bool, ↓iteB_true, ↓iteB_false]
          generalize hY : X.plus [some (AObj.cells 0 0 26 1 false [AV.v (Value.int IntKind.i64 k), AV.v (Value.int IntKind.i64 n), AV.v (Value.int IntKind.i64 ↑i)])] = Y
          have hM : Y.size = N + 1 := by rw [← hY, plus_size, hN]; rfl
          have hYl : Y.lock = 0 := by rw [← hY]; exact hXl
          have hYD : DoneG Y fs out := by rw [← hY]; exact hD.plus _
          have hYp : Y.get N = some (AObj.cells 0 0 26 1 false [AV.v (Value.int IntKind.i64 k), AV.v (Value.int IntKind.i64 n), AV.v (Value.int IntKind.i64 ↑i)]) := by rw [← hY]; exact plus_at hN _ 0
          have hrp : ∀ E, (Y.plus E).row N 0 = some (0, 26, 1, false, [AV.v (Value.int IntKind.i64 k), AV.v (Value.int IntKind.i64 n), AV.v (Value.int IntKind.i64 ↑i)]) := fun E => by rw [rowLo (by omega)]; exact get_row hYp
          have hlkM : Y.lock ≤ N + 1 := by omega
          have hlN : ltB N (N + 1) = true := by unfold ltB; exact decide_eq_true (by omega)
          have hwi := wrap_succ i (by omega)
          have hwj := wrap_succ j (by omega)
          clear hY
          rw [← plus_nil Y]
          rcases hYD with ⟨rfl, rfl⟩ | ⟨b', v, hb', rfl, hYb, hnn⟩
          · have hff : fitsA 48 1 = true := by decide
            refine wp_drawX [([], [], false), ([], [], false), ([], [], false), ([], [], false), ([], [], false), ([1], [], false), ([], [], false), ([], [], false), ([], [7], false), ([], [], false)] (by kernel_rfl) (by kernel_rfl) ?_
            simp -implicitDefEqProofs only [go_sem, ↓reduceIte, Int.reduceEq, Int.reduceLT, Int.reduceLE, List.reduceReplicate, intA, setT_nil, setT_cons, hx.len, hy.len, hx.cells, hy.cells, hla, hlb, h1, h2, hrp, hff, hlN, hwi, hwj, hyi, List.flatMap_cons, List.flatMap_nil, List.append_nil, List.all_cons, List.all_nil, Bool.and_self, Bool.true_or, AV.cells, AV.flat, sizeP hM, putP0 hM, putP hM, settleP0 hM, settleP hM, rowP0 hM, rowP hM, storeP0 hM hlkM, storeP hM hlkM, ↓boolP_bool, ↓iteB_true, ↓iteB_false, List.length_nil, List.length_cons, Nat.add_zero, Nat.zero_add]
            refine Again.mk' ((a.length - (i + 1)) + (b.length - (j + 1))) (by omega) (hQ _ _ _ ⟨i + 1, j + 1, [⟨k, n, i, 3, w2⟩], _, rfl, by omega, by omega, rfl, by rw [trim_lockT]; exact hYl, ?_, ?_⟩)
            · exact (DoneG.new hM (r := ⟨k, n, i, 3, w2⟩) (q := 8) rfl).trim (by rw [plus_size]; omega) (boundL_le.1 (Nat.le_refl _) _ (by simp))
            · rw [hF, hda, hdb, found_other hne (by omega)]; rfl
          · have hrb : ∀ E, (Y.plus E).row b' v = some (0, 108, 5, true, rdCells fs) := fun E => by rw [rowLo hb']; exact get_row hYb
            have hff : fitsA 48 (fs.length + 1) = true := by unfold fitsA; exact decide_eq_true (by omega)
            have happ := fun new E slot => (appTo_own (e := 108) (sz := 5) (b' := 48) (H := Y.plus E) (slot := slot) (n := 1) (new := new) (hrb E) (by rw [rdCells_len]) (by show Y.lock ≤ b'; omega) hff (by omega) (by omega)).trans (by rw [putLo hb'])
            have hlb' : ltB b' (N + 1) = true := by unfold ltB; exact decide_eq_true (by omega)
            have hbN : (N == b') = false := by
              simp only [beq_eq_false_iff_ne, ne_eq]; rintro rfl; rw [hYp] at hYb; simp at hYb
            have hbN2 : (b' == N) = false := by simp only [beq_eq_false_iff_ne, ne_eq] at hbN ⊢; omega
            refine wp_drawX [([], [], false), ([], [], false), ([], [], false), ([], [], false), ([], [], false), ([1], [], false), ([], [], false), ([], [], false), ([], [7], false), ([], [], false)] (by kernel_rfl) (by kernel_rfl) ?_
            simp -implicitDefEqProofs only [go_sem, ↓reduceIte, Int.reduceEq, Int.reduceLT, Int.reduceLE, List.reduceReplicate, intA, setT_nil, setT_cons, hx.len, hy.len, hx.cells, hy.cells, hla, hlb, h1, h2, hrp, happ, hff, hlN, hlb', hbN, hbN2, hwi, hwj, hyi, List.flatMap_cons, List.flatMap_nil, List.append_nil, List.all_cons, List.all_nil, Bool.and_self, Bool.true_or, AV.cells, AV.flat, sizeP hM, putP0 hM, putP hM, settleP0 hM, settleP hM, rowP0 hM, rowP hM, storeP0 hM hlkM, storeP hM hlkM, ↓boolP_bool, ↓iteB_true, ↓iteB_false, List.length_nil, List.length_cons, Nat.add_zero, Nat.zero_add]
            rw [show rdCells fs ++ [AV.v (Value.int IntKind.i64 k), AV.v (Value.int IntKind.i64 n), AV.v (Value.int IntKind.i64 ↑i), AV.v (Value.int IntKind.u8 3), AV.v (Value.string w2)] = rdCells (fs ++ [⟨k, n, i, 3, w2⟩]) from (rdCells_append fs [⟨k, n, i, 3, w2⟩]).symm]
            have hZ := DoneG.more (fs := fs) (v := v) hb' (⟨k, n, i, 3, w2⟩)
            have hZs : (Y.put b' (.cells (v + 1) 0 108 5 true (rdCells (fs ++ [⟨k, n, i, 3, w2⟩])))).size = N + 1 := by rw [put_sizeI _ (by omega)]; exact hM
            have hZl : (Y.put b' (.cells (v + 1) 0 108 5 true (rdCells (fs ++ [⟨k, n, i, 3, w2⟩])))).lock = 0 := hYl
            generalize Y.put b' _ = Z at *
            rw [settleP0 hZs, List.drop_zero, if_pos (by rfl), List.take_zero, plus_nil]
            refine Again.mk' ((a.length - (i + 1)) + (b.length - (j + 1))) (by omega) (hQ _ _ _ ⟨i + 1, j + 1, fs ++ [⟨k, n, i, 3, w2⟩], _, rfl, by omega, by omega, rfl, by rw [trim_lockT]; exact hZl, ?_, ?_⟩)
            · exact hZ.trim (by omega) (boundL_le.1 (Nat.le_refl _) _ (by simp))
            · rw [hF, hda, hdb, found_other hne (by omega), List.append_assoc]; rfl
      · have heq := of_decide_eq_true h4
        subst heq
        simp -implicitDefEqProofs only [go_sem, ↓reduceIte, Int.reduceEq, Int.reduceLT, Int.reduceLE, List.reduceReplicate, intA, setT_nil, setT_cons, hx.len, hy.len, hx.lenI, hy.lenI, hla, hlb, h1, h2, hwi, hwj, hxi, hyi, h4, ↓boolP_bool, ↓iteB_true, ↓iteB_false]
        refine Again.mk' ((a.length - (i + 1)) + (b.length - (j + 1))) (by omega) (hQ _ _ _ ⟨i + 1, j + 1, fs, _, rfl, by omega, by omega, rfl, by rw [trim_lockT]; exact hXl, ?_, ?_⟩)
        · exact (hD.plus _).trim (by rw [plus_size]; omega) (boundL_le.1 (Nat.le_refl _) _ (by simp))
        · rw [hF, hda, hdb, found_same]
end Go.Ev
namespace Go.Ev
open Go.Proofs
set_option maxRecDepth 100000
set_option linter.unusedSimpArgs false
attribute [local irreducible] Wp WpS
theorem great_dims {t : Txt} (h : greatT t = false) : t.length ≤ 10 ∧ ∀ c ∈ t, c.2.length ≤ 15 ∧ ∀ w ∈ c.2, w.length ≤ 15 := by
  unfold greatT at h
  rw [Bool.or_eq_false_iff] at h
  have h1 := of_decide_eq_false h.1
  refine ⟨by omega, fun c hc => ?_⟩
  have h2 := List.any_eq_false.1 h.2 c hc
  have h2 : greatC c = false := by simpa using h2
  unfold greatC at h2
  rw [Bool.or_eq_false_iff] at h2
  have h3 := of_decide_eq_false h2.1
  refine ⟨by omega, fun w hw => ?_⟩
  have h5 := List.any_eq_false.1 h2.2 w hw
  have h6 : greatL w = false := by simpa using h5
  unfold greatL at h6
  rw [Bool.or_eq_false_iff] at h6
  have := of_decide_eq_false h6.1
  omega
theorem foundC_split (k : Nat) : ∀ (ls ms : List Line) (n i : Nat) (a c : Line), ls[i]? = some a → ms[i]? = some c → foundC k (n + i) (ls.drop i) (ms.drop i) = foundL k ((n + i : Nat) : Int) 0 a c ++ foundC k (n + i + 1) (ls.drop (i + 1)) (ms.drop (i + 1))
  | a' :: ls, c' :: ms, n, 0, a, c, h1, h2 => by
    simp at h1 h2; subst h1; subst h2
    rw [List.drop_zero, List.drop_zero, foundC]; rfl
  | a' :: ls, c' :: ms, n, i + 1, a, c, h1, h2 => by
    have := foundC_split k ls ms (n + 1) i a c (by simpa using h1) (by simpa using h2)
    rw [show n + 1 + i = n + (i + 1) by omega] at this
    exact this
  | [], _, _, _, _, _, h1, _ => by simp at h1
  | _ :: _, [], _, _, _, _, _, h2 => by simp at h2
theorem foundT_split : ∀ (t u : Txt) (n i : Nat) (a c : Chap), t[i]? = some a → u[i]? = some c → foundT (n + i) (t.drop i) (u.drop i) = foundC (n + i) 0 a.2 c.2 ++ foundT (n + i + 1) (t.drop (i + 1)) (u.drop (i + 1))
  | a' :: ls, c' :: ms, n, 0, a, c, h1, h2 => by
    simp at h1 h2; subst h1; subst h2
    rw [List.drop_zero, List.drop_zero, foundT]; rfl
  | a' :: ls, c' :: ms, n, i + 1, a, c, h1, h2 => by
    have := foundT_split ls ms (n + 1) i a c (by simpa using h1) (by simpa using h2)
    rw [show n + 1 + i = n + (i + 1) by omega] at this
    exact this
  | [], _, _, _, _, _, h1, _ => by simp at h1
  | _ :: _, [], _, _, _, _, _, h2 => by simp at h2
theorem rdCells_bd (f : List Rd) : boundL (rdCells f) = 0 := by
  refine Nat.le_zero.1 (boundL_le.2 fun x hx => ?_)
  obtain ⟨r, -, hr⟩ := List.mem_flatMap.1 hx
  have : boundL (rdV r).cells = 0 := rfl
  exact Nat.le_trans (boundL_le.1 (Nat.le_refl _) x hr) (Nat.le_of_eq this)
theorem rdCells_fl (f : List Rd) : (rdCells f).all AV.flat = true := by
  rw [List.all_eq_true]
  intro x hx
  obtain ⟨r, -, hr⟩ := List.mem_flatMap.1 hx
  have h : (rdV r).cells.all AV.flat = true := rfl
  exact List.all_eq_true.1 h x hr
theorem ofV_cells (H : Heap) (g : List Rd) : cellsFrom H 5 (ofV g) = some (g.length, rdCells g) := by
  cases g with
  | nil => rfl
  | cons r g =>
    show cellsFrom H 5 (.vs 5 ((r :: g).map rdV) none) = _
    rw [cells_vs', if_pos rfl, List.length_map]
    unfold rdCells
    rw [List.flatMap_map]
theorem ofV_one (g : List Rd) : (ofV g).cells = [ofV g] ∧ (ofV g).flat = true ∧ objsOf (ofV g) = [] := by cases g <;> exact ⟨rfl, rfl, rfl⟩
theorem DoneG.newL {Y : Heap} {M : Nat} (hM : Y.size = M) {g : List Rd} (hg : g ≠ []) {E : List (Option AObj)} {q : Nat} (hE : E[q]? = some (some (.cells 0 0 108 5 true (rdCells g)))) : DoneG (Y.plus E) g (.sl (M + q) 0 0 g.length none) := by
  have hk := (List.getElem?_eq_some_iff.1 hE).1
  exact Or.inr ⟨M + q, 0, by rw [plus_size, hM]; omega, rfl, by rw [plus_at hM, hE]; rfl, hg⟩
theorem DoneG.moreL {Y : Heap} {fs g : List Rd} {b v : Nat} (hb : b < Y.size) (hg : g ≠ []) : DoneG (Y.put b (.cells (v + 1) 0 108 5 true (rdCells (fs ++ g)))) (fs ++ g) (.sl b (v + 1) 0 (fs.length + g.length) none) :=
  Or.inr ⟨b, v + 1, by rw [put_sizeI _ hb]; exact hb, by rw [List.length_append], put_get_eq _ (by omega), by simp [hg]⟩
def St67 (X : Heap) (ch cu : AV) (fs : List Rd) (out : AV) : Prop := X.lock = 0 ∧ 2 ≤ X.size ∧ X.get 0 = some (.cells 0 0 24 1 false [ch]) ∧ X.get 1 = some (.cells 0 0 24 1 false [cu]) ∧ DoneG X fs out
theorem St67.trim {X : Heap} {ch cu : AV} {fs : List Rd} {out : AV} (h : St67 X ch cu fs out) {N : Nat} (h2 : 2 ≤ N) (hN : N ≤ X.size) {vs : List AV} {ms : List Nat} (hv : bound out ≤ boundL vs) : St67 (X.trim N vs ms) ch cu fs out :=
  ⟨by rw [trim_lockT]; exact h.1, Nat.le_trans h2 (trim_szT hN), by rw [trim_getT (by omega)]; exact h.2.2.1, by rw [trim_getT (by omega)]; exact h.2.2.2.1, h.2.2.2.2.trim hN hv⟩
theorem St67.plus {X : Heap} {ch cu : AV} {fs gs : List Rd} {out out' : AV} (h : St67 X ch cu fs out) (E : List (Option AObj)) (hd : DoneG (X.plus E) gs out') : St67 (X.plus E) ch cu gs out' :=
  ⟨h.1, by rw [plus_size]; have := h.2.1; omega, by rw [plus_get _ (by have := h.2.1; omega)]; exact h.2.2.1, by rw [plus_get _ (by have := h.2.1; omega)]; exact h.2.2.2.1, hd⟩
def Out67 (t u : Txt) (ch cu : AV) : Inv := fun μ A X => ∃ k fs out, k + μ = t.length ∧ A = ⟨50, [(0, .agg [ch]), (1, .agg [cu]), (2, .ptr 0 0 0), (3, .ptr 1 0 0), (4, .v (.slice none 0 0)), (5, out), (6, intA k)], []⟩ ∧ St67 X ch cu fs out ∧ fs.length ≤ k * 600 ∧ foundT 0 t u = fs ++ foundT k (t.drop k) (u.drop k)
def In67 (t u : Txt) (ls ms : List Line) (ch cu : AV) (k N : Nat) : Inv := fun μ A X => ∃ j fs out, j + μ = ls.length ∧ N ≤ X.size ∧ A = ⟨50, [(0, .agg [ch]), (1, .agg [cu]), (2, .ptr 0 0 0), (3, .ptr 1 0 0), (4, .v (.slice none 0 0)), (5, out), (6, intA k), (12, .v (.bool true)), (7, intA j)], []⟩ ∧ St67 X ch cu fs out ∧ fs.length ≤ k * 600 + j * 40 ∧ foundT 0 t u = fs ++ (foundC k j (ls.drop j) (ms.drop j) ++ foundT (k + 1) (t.drop (k + 1)) (u.drop (k + 1)))
set_option maxHeartbeats 4000000 in
theorem ansF67 {e : Exts} (he : Quiet e) (t u : Txt) (hgt : greatT t = false) (hgu : greatT u = false) (ch cu : AV) (xs us : List AV) (hch : SlOf 2 xs ch) (hall : All2 ChapA t xs) (hcu : SlOf 2 us cu) (halu : All2 ChapA u us) (hs : shapeT t = shapeT u) : Ans (Cx e) 67 [.agg [ch], .agg [cu]] (ofV (foundT 0 t u)) := by
  have hgd := great_dims hgt
  have hgdu := great_dims hgu
  have htu : t.length = u.length := by have := congrArg List.length hs; simpa [shapeT] using this
  unfold Ans
  rw [fn_step (fn_67 e) (show Try.f67.body = some _ from rfl)]
  simp -implicitDefEqProofs only [Try.f67, go_sem, ↓reduceIte, Int.reduceEq, Int.reduceLT, Int.reduceLE, List.reduceReplicate, intA, setT_nil, setT_cons, hch.cells, hch.flat, hch.bound, hch.len, hcu.cells, hcu.flat, hcu.bound]
  refine Lp_ruleQ (P := Out67 t u ch cu) ?_ t.length _ _ ⟨0, [], _, Nat.zero_add _, rfl, ⟨rfl, Nat.le_refl _, rfl, rfl, Or.inl ⟨rfl, rfl⟩⟩, Nat.zero_le _, rfl⟩
  rintro Q KK hQ hKK μ _ X ⟨k, fs, out, hk, rfl, hSt, hfl, hF⟩
  have hXl := hSt.1
  have hXs := hSt.2.1
  have hrE0 : ∀ E, (X.plus E).row 0 0 = some (0, 24, 1, false, [ch]) := fun E => by rw [rowLo (by omega)]; exact get_row hSt.2.2.1
  have hrE1 : ∀ E, (X.plus E).row 1 0 = some (0, 24, 1, false, [cu]) := fun E => by rw [rowLo (by omega)]; exact get_row hSt.2.2.2.1
  generalize hN : X.size = N at *
  have hlkN : X.lock ≤ N := by omega
  have hlen := hall.1
  have hlenu := halu.1
  rw [← plus_nil X]
  cases μ with
  | zero =>
    obtain rfl : k = t.length := by omega
    simp -implicitDefEqProofs only [go_sem, ↓reduceIte, Int.reduceEq, Int.reduceLT, Int.reduceLE, List.reduceReplicate, intA, setT_nil, setT_cons, hrE0, hch.len, hch.cells, ← hlen, Int.lt_irrefl, ↓boolP_bool, ↓iteB_true, ↓iteB_false]
    rw [plus_nil, trim_self hN]
    refine hKK _ _ _ ?_
    simp -implicitDefEqProofs only [go_sem, ↓reduceIte, Int.reduceEq, Int.reduceLT, Int.reduceLE, List.reduceReplicate, intA, setT_nil, setT_cons]
    rw [List.drop_length, show foundT t.length [] (u.drop t.length) = [] by simp [foundT], List.append_nil] at hF
    rw [hF]
    show freezeV { X with lock := 0 } 1000000 _ = some _
    have hX0 : ({ X with lock := 0 } : Heap) = X := by cases X; simp only at hXl; subst hXl; rfl
    rw [hX0]
    exact hSt.2.2.2.2.freeze hXl
  | succ μ =>
    obtain ⟨c, hc⟩ := at_lt t k (by omega)
    obtain ⟨d, hd⟩ := at_lt u k (by omega)
    obtain ⟨y, hy, l, rfl, lxs, hl, hls⟩ := hall.get hc
    obtain ⟨y', hy', l', rfl, lxs', hl', hls'⟩ := halu.get hd
    have hix := hch.idx hy
    have hixu := hcu.idx hy'
    have hlt : (k : Int) < ((t.length : Nat) : Int) := by omega
    have hlsl := hls.1
    have hlsu := hls'.1
    have hcd : c.2.length = d.2.length := by
      have h1 := congrArg (·[k]?) hs
      simp only [shapeT, List.getElem?_map, hc, hd, Option.map_some, Option.some.injEq, Prod.mk.injEq] at h1
      exact h1.2
    have hcl := (hgd.2 c (List.mem_of_getElem? hc)).1
    simp -implicitDefEqProofs only [go_sem, ↓reduceIte, Int.reduceEq, Int.reduceLT, Int.reduceLE, List.reduceReplicate, intA, setT_nil, setT_cons, hrE0, hch.len, hch.cells, ← hlen, hlt, ↓boolP_bool, ↓iteB_true, ↓iteB_false]
    rw [plus_nil]
    have hF2 := foundT_split t u 0 k c d hc hd
    rw [Nat.zero_add] at hF2
    refine Lp_ruleQ (P := In67 t u c.2 d.2 ch cu k N) ?_ c.2.length _ _ ⟨0, fs, out, Nat.zero_add _, by omega, rfl, hSt, by omega, by rw [hF, hF2]; rfl⟩
    clear hF hfl hSt hrE0 hrE1
    rintro Q2 K2 hQ2 hK2 μ2 _ Y ⟨j, fs, out, hj, hNM, rfl, hSt, hfl, hF⟩
    have hYl := hSt.1
    have hYs := hSt.2.1
    have hrE0 : ∀ E, (Y.plus E).row 0 0 = some (0, 24, 1, false, [ch]) := fun E => by rw [rowLo (by omega)]; exact get_row hSt.2.2.1
    have hrE1 : ∀ E, (Y.plus E).row 1 0 = some (0, 24, 1, false, [cu]) := fun E => by rw [rowLo (by omega)]; exact get_row hSt.2.2.2.1
    generalize hM : Y.size = M at *
    have hlkM : Y.lock ≤ M := by omega
    rw [← plus_nil Y]
    cases μ2 with
    | zero =>
      obtain rfl : j = c.2.length := by omega
      simp -implicitDefEqProofs only [go_sem, ↓reduceIte, Int.reduceEq, Int.reduceLT, Int.reduceLE, List.reduceReplicate, intA, setT_nil, setT_cons, hrE0, hch.len, hch.cells, hix, hl.cells, hl.len, ← hlsl, Int.lt_irrefl, ↓boolP_bool, ↓iteB_true, ↓iteB_false]
      rw [plus_nil, trim_self hM]
      refine hK2 _ _ _ ?_
      simp -implicitDefEqProofs only [go_sem, ↓reduceIte, Int.reduceEq, Int.reduceLT, Int.reduceLE, List.reduceReplicate, intA, setT_nil, setT_cons, wrap_succ k (show k + 1 < 2 ^ 63 by omega)]
      refine Again.mk' μ (by omega) (hQ _ _ _ ⟨k + 1, fs, out, by omega, rfl, hSt.trim hXs (by omega) (boundL_le.1 (Nat.le_refl _) _ (by simp)), by omega, ?_⟩)
      rw [hF, List.drop_length, show foundC k c.2.length [] (d.2.drop c.2.length) = [] by simp [foundC], List.nil_append]
    | succ μ2 =>
      obtain ⟨a, ha⟩ := at_lt c.2 j (by omega)
      obtain ⟨b, hb⟩ := at_lt d.2 j (by omega)
      obtain ⟨lx, hlx0, hlx⟩ := hls.get ha
      obtain ⟨ly, hly0, hly⟩ := hls'.get hb
      have hltj : (j : Int) < ((c.2.length : Nat) : Int) := by omega
      have hjx := hl.idx hlx0
      have hjxu := hl'.idx hly0
      have hlx : SlOf 1 (strs a) lx := hlx
      have hly : SlOf 1 (strs b) ly := hly
      have hal : a.length ≤ 15 := (hgd.2 c (List.mem_of_getElem? hc)).2 a (List.mem_of_getElem? ha)
      have hbl : b.length ≤ 15 := (hgdu.2 d (List.mem_of_getElem? hd)).2 b (List.mem_of_getElem? hb)
      have hwj := wrap_succ j (by omega)
      have h94 := fun me dd => (ansF94 he a b lx ly hlx hly (by omega) (by omega) k j).callI (me := me) (d := dd) (ext_94 he) (pure_94 e me dd) (by simp only [boundL_cons, boundL_nil, hlx.bound, hly.bound]; rfl)
      have hsp := foundC_split k c.2 d.2 0 j a b ha hb
      rw [Nat.zero_add] at hsp
      generalize hg : foundL (k : Int) (j : Int) 0 a b = g at *
      have hgn : g.length ≤ 30 := by rw [← hg, found_len]; have := dist_bd a b; omega
      have hgc := (ofV_one g).1
      have hgo := (ofV_one g).2.2
      have hl0 : ltB 0 M = true := by unfold ltB; exact decide_eq_true (by omega)
      have hl1 : ltB 1 M = true := by unfold ltB; exact decide_eq_true (by omega)
      unfold intA at h94
      simp -implicitDefEqProofs only [go_sem, ↓reduceIte, Int.reduceEq, Int.reduceLT, Int.reduceLE, List.reduceReplicate, intA, setT_nil, setT_cons, hrE0, hch.len, hch.cells, hix, hl.cells, hl.len, ← hlsl, hltj, ↓boolP_bool, ↓iteB_true, ↓iteB_false]
      refine wp_drawX [([], [], false), ([], [], false), ([], [], false), ([], [], false), ([], [], false), ([], [], false), ([], [], false), ([], [], false), ([], [], false), ([], [], false), ([], [], false), ([2, 6, 9], [], false), ([], [], false), ([], [], false), ([], [], false), ([2, 6, 9], [], false), ([], [], false), ([], [], false), ([2, 6, 9], [], false), ([], [], false), ([], [], false), ([], [], false), ([], [], false), ([], [], false)] (by kernel_rfl) (by kernel_rfl) ?_
      obtain ⟨-, -, hg0, hg1, hD⟩ := hSt
      rcases hD with ⟨rfl, rfl⟩ | ⟨b', v, hb', rfl, hYb, hnn⟩
      · by_cases hgl : g = []
        · subst hgl
          simp -implicitDefEqProofs only [go_sem, ↓reduceIte, Int.reduceEq, Int.reduceLT, Int.reduceLE, List.reduceReplicate, intA, setT_nil, setT_cons, hrE0, hrE1, hch.len, hch.cells, hcu.len, hcu.cells, hl.len, hl.cells, hl'.len, hl'.cells, hix, hixu, hjx, hjxu, hlx.cells, hly.cells, hlx.bound, hly.bound, hltj, hwj, h94, ofV_cells, hgc, hgo, rdCells_fl, rdCells_bd, hl0, hl1, List.length_nil, List.all_nil, List.flatMap_cons, List.flatMap_nil, List.append_nil, List.all_cons, List.all_nil, Bool.and_self, Bool.true_or, Bool.not_false, sizeP hM, putP0 hM, putP hM, settleP0 hM, settleP hM, rowP0 hM, rowP hM, storeP0 hM hlkM, storeP hM hlkM, ↓boolP_bool, ↓iteB_true, ↓iteB_false]
          rw [plus_nil]
          refine Again.mk' μ2 (by omega) (hQ2 _ _ _ ⟨j + 1, [], _, by omega, by rw [trim_self hM]; omega, rfl, by rw [trim_self hM]; exact ⟨hYl, by omega, hg0, hg1, Or.inl ⟨rfl, rfl⟩⟩, Nat.zero_le _, ?_⟩)
          rw [hF, hsp]; simp
        · have hgn0 : (g.length = 0) = False := eq_false (by simp [hgl])
          have hff : fitsA 48 g.length = true := by unfold fitsA; exact decide_eq_true (by omega)
          simp -implicitDefEqProofs only [go_sem, ↓reduceIte, Int.reduceEq, Int.reduceLT, Int.reduceLE, List.reduceReplicate, intA, setT_nil, setT_cons, hrE0, hrE1, hch.len, hch.cells, hcu.len, hcu.cells, hl.len, hl.cells, hl'.len, hl'.cells, hix, hixu, hjx, hjxu, hlx.cells, hly.cells, hlx.bound, hly.bound, hltj, hwj, h94, ofV_cells, hgc, hgo, rdCells_fl, rdCells_bd, hl0, hl1, hgn0, hff, List.flatMap_cons, List.flatMap_nil, List.append_nil, List.all_cons, List.all_nil, Bool.and_self, Bool.true_or, Bool.not_false, sizeP hM, putP0 hM, putP hM, settleP0 hM, settleP hM, rowP0 hM, rowP hM, storeP0 hM hlkM, storeP hM hlkM, ↓boolP_bool, ↓iteB_true, ↓iteB_false]
          have hD' := DoneG.newL hM hgl (E := [none, none, none, none, none, none, none, none, none, none, none, none, none, none, none, none, none, none, none, none, none, none, some (.cells 0 0 108 5 true (rdCells g)), none]) (q := 22) rfl
          have hSt' := (show St67 Y ch cu [] _ from ⟨hYl, by omega, hg0, hg1, Or.inl ⟨rfl, rfl⟩⟩).plus _ hD'
          have hpl := plus_size (H := Y) (E := [none, none, none, none, none, none, none, none, none, none, none, none, none, none, none, none, none, none, none, none, none, none, some (AObj.cells 0 0 108 5 true (rdCells g)), none])
          generalize Y.plus _ = Z at *
          refine Again.mk' μ2 (by omega) (hQ2 _ _ _ ⟨j + 1, g, _, by omega, Nat.le_trans hNM (trim_szT (by omega)), rfl, hSt'.trim (by omega) (by omega) (boundL_le.1 (Nat.le_refl _) _ (by simp)), by omega, ?_⟩)
          rw [hF, hsp]; simp
      · have hrb : ∀ E, (Y.plus E).row b' v = some (0, 108, 5, true, rdCells fs) := fun E => by rw [rowLo (by omega)]; exact get_row hYb
        have hlb' : ltB b' M = true := by unfold ltB; exact decide_eq_true (by omega)
        by_cases hgl : g = []
        · subst hgl
          simp -implicitDefEqProofs only [go_sem, ↓reduceIte, Int.reduceEq, Int.reduceLT, Int.reduceLE, List.reduceReplicate, intA, setT_nil, setT_cons, hrE0, hrE1, hch.len, hch.cells, hcu.len, hcu.cells, hl.len, hl.cells, hl'.len, hl'.cells, hix, hixu, hjx, hjxu, hlx.cells, hly.cells, hlx.bound, hly.bound, hltj, hwj, h94, ofV_cells, hgc, hgo, rdCells_fl, rdCells_bd, hl0, hl1, hrb, hlb', appTo_none, List.length_nil, List.all_nil, List.flatMap_cons, List.flatMap_nil, List.append_nil, List.all_cons, List.all_nil, Bool.and_self, Bool.true_or, Bool.not_false, sizeP hM, putP0 hM, putP hM, settleP0 hM, settleP hM, rowP0 hM, rowP hM, storeP0 hM hlkM, storeP hM hlkM, ↓boolP_bool, ↓iteB_true, ↓iteB_false]
          rw [plus_nil]
          refine Again.mk' μ2 (by omega) (hQ2 _ _ _ ⟨j + 1, fs, _, by omega, by rw [trim_self hM]; omega, rfl, by rw [trim_self hM]; exact ⟨hYl, by omega, hg0, hg1, Or.inr ⟨b', v, by omega, rfl, hYb, hnn⟩⟩, by omega, ?_⟩)
          rw [hF, hsp]; simp
        · have hgn0 : (g.length = 0) = False := eq_false (by simp [hgl])
          have hgpos : 0 < g.length := List.length_pos_iff.2 hgl
          have hff : fitsA 48 (fs.length + g.length) = true := by unfold fitsA; exact decide_eq_true (by omega)
          have happ := fun E slot => (appTo_own (e := 108) (sz := 5) (b' := 48) (H := Y.plus E) (slot := slot) (n := g.length) (new := rdCells g) (hrb E) (by rw [rdCells_len]) (by show Y.lock ≤ b'; omega) hff hgpos (by omega)).trans (by rw [putLo (by omega)])
          simp -implicitDefEqProofs only [go_sem, ↓reduceIte, Int.reduceEq, Int.reduceLT, Int.reduceLE, List.reduceReplicate, intA, setT_nil, setT_cons, hrE0, hrE1, hch.len, hch.cells, hcu.len, hcu.cells, hl.len, hl.cells, hl'.len, hl'.cells, hix, hixu, hjx, hjxu, hlx.cells, hly.cells, hlx.bound, hly.bound, hltj, hwj, h94, ofV_cells, hgc, hgo, rdCells_fl, rdCells_bd, hl0, hl1, hrb, hlb', happ, hgn0, hff, List.flatMap_cons, List.flatMap_nil, List.append_nil, List.all_cons, List.all_nil, Bool.and_self, Bool.true_or, Bool.not_false, sizeP hM, putP0 hM, putP hM, settleP0 hM, settleP hM, rowP0 hM, rowP hM, storeP0 hM hlkM, storeP hM hlkM, ↓boolP_bool, ↓iteB_true, ↓iteB_false]
          have hb0 : b' ≠ 0 := by rintro rfl; rw [hg0] at hYb; simp at hYb
          have hb1 : b' ≠ 1 := by rintro rfl; rw [hg1] at hYb; simp at hYb
          rw [← rdCells_append]
          have hZ := DoneG.moreL (fs := fs) (v := v) hb' hgl
          have hZs : (Y.put b' (.cells (v + 1) 0 108 5 true (rdCells (fs ++ g)))).size = M := by rw [put_sizeI _ (by omega)]; exact hM
          have hZl : (Y.put b' (.cells (v + 1) 0 108 5 true (rdCells (fs ++ g)))).lock = 0 := hYl
          have hZ0 := (put_get_ne (H := Y) (c := 0) (.cells (v + 1) 0 108 5 true (rdCells (fs ++ g))) (b := b') (by omega) (by omega)).trans hg0
          have hZ1 := (put_get_ne (H := Y) (c := 1) (.cells (v + 1) 0 108 5 true (rdCells (fs ++ g))) (b := b') (by omega) (by omega)).trans hg1
          generalize Y.put b' _ = Z at *
          rw [none_end hZs rfl]
          refine Again.mk' μ2 (by omega) (hQ2 _ _ _ ⟨j + 1, fs ++ g, _, by omega, by omega, rfl, ⟨hZl, by omega, hZ0, hZ1, hZ⟩, by rw [List.length_append]; omega, ?_⟩)
          rw [hF, hsp]; simp
end Go.Ev
namespace Go.Ev
open Go.Proofs
set_option maxRecDepth 100000
set_option linter.unusedSimpArgs false
attribute [local irreducible] Wp WpS
def twoR (t u : Txt) : Int := if textB t = false then 10 else if textB u = false then 10 else if alikeB t u = false then 8 else 0
section
variable {e : Exts} (he : Quiet e) (t u : Txt) (ht : Fits t) (hu : Fits u) (ch cu : AV) (xs us : List AV) (hch : SlOf 2 xs ch) (hall : All2 ChapA t xs) (hcu : SlOf 2 us cu) (halu : All2 ChapA u us)
include he ht hu hch hall hcu halu
set_option maxHeartbeats 4000000 in
theorem ansF66 : Ans (Cx e) 66 [.agg [ch], .agg [cu]] (intA (twoR t u)) := by
  unfold Ans
  rw [fn_step (fn_66 e) (show Try.f66.body = some _ from rfl)]
  have b1 : boundL [AV.agg [ch]] = 0 := by simp only [boundL_cons, bound_agg, hch.bound, boundL_nil]; rfl
  have b2 : boundL [AV.agg [cu]] = 0 := by simp only [boundL_cons, bound_agg, hcu.bound, boundL_nil]; rfl
  have b3 : boundL [AV.agg [ch], AV.agg [cu]] = 0 := by simp only [boundL_cons, bound_agg, hch.bound, hcu.bound, boundL_nil]; rfl
  have c1 := fun me d H => (ans39 he t ht _ ⟨ch, rfl, xs, hch, hall⟩).call (ext_42 he) (pure_42 e me d) b1 H
  have c2 := fun me d H => (ans39 he u hu _ ⟨cu, rfl, us, hcu, halu⟩).call (ext_42 he) (pure_42 e me d) b2 H
  have c3 := fun me d H => (ans24 (e := e) t u ht _ _ ⟨ch, rfl, xs, hch, hall⟩ ⟨cu, rfl, us, hcu, halu⟩).call (ext_93 he) (pure_93 e me d) b3 H
  unfold twoR
  cases h1 : textB t
  · rw [h1] at c1
    simp -implicitDefEqProofs only [Try.f66, go_sem, ↓reduceIte, Int.reduceEq, Int.reduceLT, Int.reduceLE, List.reduceReplicate, intA, setT_nil, setT_cons, hch.cells, hch.flat, hch.bound, hcu.cells, hcu.flat, hcu.bound, c1, ↓boolP_bool, ↓iteB_true, ↓iteB_false, Bool.not_false, Bool.not_true]
  · rw [h1] at c1
    cases h2 : textB u
    · rw [h2] at c2
      simp -implicitDefEqProofs only [Try.f66, go_sem, ↓reduceIte, Int.reduceEq, Int.reduceLT, Int.reduceLE, List.reduceReplicate, intA, setT_nil, setT_cons, hch.cells, hch.flat, hch.bound, hcu.cells, hcu.flat, hcu.bound, c1, c2, ↓boolP_bool, ↓iteB_true, ↓iteB_false, Bool.not_false, Bool.not_true]
    · rw [h2] at c2
      cases h3 : alikeB t u
      · rw [h3] at c3
        simp -implicitDefEqProofs only [Try.f66, go_sem, ↓reduceIte, Int.reduceEq, Int.reduceLT, Int.reduceLE, List.reduceReplicate, intA, setT_nil, setT_cons, hch.cells, hch.flat, hch.bound, hcu.cells, hcu.flat, hcu.bound, c1, c2, c3, ↓boolP_bool, ↓iteB_true, ↓iteB_false, Bool.not_false, Bool.not_true]
      · rw [h3] at c3
        simp -implicitDefEqProofs only [Try.f66, go_sem, ↓reduceIte, Int.reduceEq, Int.reduceLT, Int.reduceLE, List.reduceReplicate, intA, setT_nil, setT_cons, hch.cells, hch.flat, hch.bound, hcu.cells, hcu.flat, hcu.bound, c1, c2, c3, ↓boolP_bool, ↓iteB_true, ↓iteB_false, Bool.not_false, Bool.not_true]
end
def apartR (t u : Txt) : AV := if twoR t u = 0 then .tup [intA (apartT t u), intA 0] else .tup [intA 0, intA (twoR t u)]
def findR (t u : Txt) (id : Int) : AV :=
  if twoR t u = 0 then (if withinB 0 9999 [id] = true then (if (foundT 0 t u).length ≤ 20 then .tup [.agg [intA id, ofV (foundT 0 t u)], intA 0] else .tup [.agg [intA 0, .v (.slice none 0 0)], intA 4]) else .tup [.agg [intA 0, .v (.slice none 0 0)], intA 2])
  else .tup [.agg [intA 0, .v (.slice none 0 0)], intA (twoR t u)]
theorem twoR_shape {t u : Txt} (h : twoR t u = 0) : textB t = true ∧ textB u = true ∧ alikeB t u = true := by
  unfold twoR at h
  cases h1 : textB t <;> cases h2 : textB u <;> cases h3 : alikeB t u <;> simp_all
set_option maxHeartbeats 4000000 in
theorem ansF39 {e : Exts} (he : Quiet e) (t u : Txt) (ht : Fits t) (hu : Fits u) (hgt : greatT t = false) (hgu : greatT u = false) (ch cu : AV) (xs us : List AV) (hch : SlOf 2 xs ch) (hall : All2 ChapA t xs) (hcu : SlOf 2 us cu) (halu : All2 ChapA u us) :
    Ans (Cx e) 39 [.agg [ch], .agg [cu]] (apartR t u) := by
  unfold Ans
  rw [fn_step (fn_39 e) (show Try.f39.body = some _ from rfl)]
  have b3 : boundL [AV.agg [ch], AV.agg [cu]] = 0 := by simp only [boundL_cons, bound_agg, hch.bound, hcu.bound, boundL_nil]; rfl
  have c1 := fun me d H => (ansF66 he t u ht hu ch cu xs us hch hall hcu halu).call (ext_66 he) (pure_66 e me d) b3 H
  unfold apartR
  by_cases h0 : twoR t u = 0
  · obtain ⟨h1, h2, h3⟩ := twoR_shape h0
    have hs : shapeT t = shapeT u := of_decide_eq_true h3
    have c2 := fun me d H => (ansF67 he t u hgt hgu ch cu xs us hch hall hcu halu hs).call (ext_67 he) (pure_67 e me d) b3 H
    have hln : slLen (ofV (foundT 0 t u)) = some (intA (apartT t u)) := by
      rw [← foundT_len]
      cases foundT 0 t u with
      | nil => rfl
      | cons r l => show some (intA (((r :: l).map rdV).length : Nat)) = _; rw [List.length_map]
    rw [h0] at c1
    rw [if_pos h0]
    unfold intA at c1 hln
    simp -implicitDefEqProofs only [Try.f39, go_sem, ↓reduceIte, Int.reduceEq, Int.reduceLT, Int.reduceLE, List.reduceReplicate, intA, setT_nil, setT_cons, hch.cells, hch.flat, hch.bound, hcu.cells, hcu.flat, hcu.bound, c1, c2, hln, ofV_bound, ↓boolP_bool, ↓iteB_true, ↓iteB_false, Bool.not_false, Bool.not_true]
    rfl
  · rw [if_neg h0]
    have hd : decide (twoR t u = 0) = false := decide_eq_false h0
    unfold intA at c1
    simp -implicitDefEqProofs only [Try.f39, go_sem, ↓reduceIte, Int.reduceEq, Int.reduceLT, Int.reduceLE, List.reduceReplicate, intA, setT_nil, setT_cons, hch.cells, hch.flat, hch.bound, hcu.cells, hcu.flat, hcu.bound, c1, hd, ↓boolP_bool, ↓iteB_true, ↓iteB_false, Bool.not_false, Bool.not_true]
    rfl
set_option maxHeartbeats 4000000 in
theorem ansF37 {e : Exts} (he : Quiet e) (t u : Txt) (ht : Fits t) (hu : Fits u) (hgt : greatT t = false) (hgu : greatT u = false) (ch cu : AV) (xs us : List AV) (hch : SlOf 2 xs ch) (hall : All2 ChapA t xs) (hcu : SlOf 2 us cu) (halu : All2 ChapA u us) (id : Int) :
    Ans (Cx e) 37 [.agg [ch], .agg [cu], intA id] (findR t u id) := by
  unfold Ans
  rw [fn_step (fn_37 e) (show Try.f37.body = some _ from rfl)]
  have b3 : boundL [AV.agg [ch], AV.agg [cu]] = 0 := by simp only [boundL_cons, bound_agg, hch.bound, hcu.bound, boundL_nil]; rfl
  have c1 := fun me d H => (ansF66 he t u ht hu ch cu xs us hch hall hcu halu).call (ext_66 he) (pure_66 e me d) b3 H
  unfold findR
  by_cases h0 : twoR t u = 0
  · obtain ⟨h1, h2, h3⟩ := twoR_shape h0
    have hs : shapeT t = shapeT u := of_decide_eq_true h3
    have c2 := fun me d H => (ansF67 he t u hgt hgu ch cu xs us hch hall hcu halu hs).call (ext_67 he) (pure_67 e me d) b3 H
    have hln : slLen (ofV (foundT 0 t u)) = some (intA ((foundT 0 t u).length : Nat)) := by
      cases foundT 0 t u with
      | nil => rfl
      | cons r l => show some (intA (((r :: l).map rdV).length : Nat)) = _; rw [List.length_map]
    have hoc := (ofV_one (foundT 0 t u)).1
    have hof := (ofV_one (foundT 0 t u)).2.1
    have hob := ofV_bound (foundT 0 t u)
    rw [h0] at c1
    rw [if_pos h0]
    unfold intA at c1 hln
    generalize foundT 0 t u = l at *
    cases hid : withinB 0 9999 [id]
    · have c3 := fun me d H => call43 he id 0 9999 me d H
      rw [hid] at c3
      rw [if_neg (by simp)]
      simp -implicitDefEqProofs only [Try.f37, go_sem, ↓reduceIte, Int.reduceEq, Int.reduceLT, Int.reduceLE, List.reduceReplicate, intA, setT_nil, setT_cons, hch.cells, hch.flat, hch.bound, hcu.cells, hcu.flat, hcu.bound, c1, c3, ↓boolP_bool, ↓iteB_true, ↓iteB_false, Bool.not_false, Bool.not_true]
      rfl
    · have c3 := fun me d H => call43 he id 0 9999 me d H
      rw [hid] at c3
      rw [if_pos rfl]
      cases hlt : decide ((l.length : Int) > 20)
      · rw [if_pos (by have := of_decide_eq_false hlt; omega)]
        simp -implicitDefEqProofs only [Try.f37, go_sem, ↓reduceIte, Int.reduceEq, Int.reduceLT, Int.reduceLE, List.reduceReplicate, intA, setT_nil, setT_cons, hch.cells, hch.flat, hch.bound, hcu.cells, hcu.flat, hcu.bound, c1, c2, c3, hln, hlt, hoc, hof, hob, ↓boolP_bool, ↓iteB_true, ↓iteB_false, Bool.not_false, Bool.not_true]
        cases l <;> rfl
      · rw [if_neg (by have := of_decide_eq_true hlt; omega)]
        simp -implicitDefEqProofs only [Try.f37, go_sem, ↓reduceIte, Int.reduceEq, Int.reduceLT, Int.reduceLE, List.reduceReplicate, intA, setT_nil, setT_cons, hch.cells, hch.flat, hch.bound, hcu.cells, hcu.flat, hcu.bound, c1, c2, c3, hln, hlt, hoc, hof, hob, ↓boolP_bool, ↓iteB_true, ↓iteB_false, Bool.not_false, Bool.not_true]
        rfl
  · rw [if_neg h0]
    have hd : decide (twoR t u = 0) = false := decide_eq_false h0
    unfold intA at c1
    simp -implicitDefEqProofs only [Try.f37, go_sem, ↓reduceIte, Int.reduceEq, Int.reduceLT, Int.reduceLE, List.reduceReplicate, intA, setT_nil, setT_cons, hch.cells, hch.flat, hch.bound, hcu.cells, hcu.flat, hcu.bound, c1, hd, ↓boolP_bool, ↓iteB_true, ↓iteB_false, Bool.not_false, Bool.not_true]
    rfl
end Go.Ev
namespace Go.Ev
open Go.Proofs
set_option maxRecDepth 100000
set_option linter.unusedSimpArgs false
attribute [local irreducible] Wp WpS
theorem neqRd (x y : Operand) (r : Rd) : binA Try.prog .neq 108 x y (.agg [.v (.int .i64 r.ch), .v (.int .i64 r.ln), .v (.int .i64 r.wd), .v (.int .u8 r.kind), .v (.string r.word)]) (.agg [.v (.int .i64 r.ch), .v (.int .i64 r.ln), .v (.int .i64 r.wd), .v (.int .u8 r.kind), .v (.string r.word)]) = some (.v (.bool false)) := by
  have := (bin_struct (P := Try.prog) (t := 108) (us := [.int .i64 r.ch, .int .i64 r.ln, .int .i64 r.wd, .int .u8 r.kind, .string r.word]) (ws := [.int .i64 r.ch, .int .i64 r.ln, .int .i64 r.wd, .int .u8 r.kind, .string r.word]) (n := 5) (by kernel_rfl) (by decide) (by kernel_rfl) (by kernel_rfl) x y).2
  rw [show eqCells [.int .i64 r.ch, .int .i64 r.ln, .int .i64 r.wd, .int .u8 r.kind, .string r.word] [.int .i64 r.ch, .int .i64 r.ln, .int .i64 r.wd, .int .u8 r.kind, .string r.word] = true by simp [eqCells, eqCell]] at this
  exact this
set_option maxHeartbeats 4000000 in
theorem ansF35 {e : Exts} (id : Int) (l : List Rd) (hl : l.length < 2 ^ 62) : Ans (Cx e) 35 [.agg [intA id, ofV l], .agg [intA id, ofV l]] (.v (.bool true)) := by
  unfold Ans
  rw [fn_step (fn_35 e) (show Try.f35.body = some _ from rfl)]
  have hx : SlOf 5 (l.map rdV) (ofV l) := ofV_rds l
  have hln : (l.map rdV).length = l.length := List.length_map ..
  simp -implicitDefEqProofs only [Try.f35, go_sem, ↓reduceIte, Int.reduceEq, Int.reduceLT, Int.reduceLE, List.reduceReplicate, intA, setT_nil, setT_cons, hx.len, hx.cells, hx.flat, hx.bound, hln, ofV_bound, ↓boolP_bool, ↓iteB_true, ↓iteB_false]
  refine Lp_ruleQ (P := fun μ A X => ∃ j, j + μ = l.length ∧ A = ⟨38, [(0, .agg [intA id, ofV l]), (1, .agg [intA id, ofV l]), (2, .ptr 0 0 0), (3, .ptr 1 0 0), (4, .v (.bool false)), (19, .v (.bool false)), (5, intA j)], []⟩ ∧ X = ⟨[some (.cells 0 0 62 1 false [intA id, ofV l]), some (.cells 0 0 62 1 false [intA id, ofV l])], 0⟩) ?_ l.length _ _ ⟨0, Nat.zero_add _, rfl, rfl⟩
  rintro Q KK hQ hKK μ _ _ ⟨j, hj, rfl, rfl⟩
  cases μ with
  | zero =>
    obtain rfl : j = l.length := by omega
    simp -implicitDefEqProofs only [go_sem, ↓reduceIte, Int.reduceEq, Int.reduceLT, Int.reduceLE, List.reduceReplicate, intA, setT_nil, setT_cons, hx.len, hx.cells, hx.flat, hx.bound, hln, ofV_bound, Int.lt_irrefl, trim_at, ↓boolP_bool, ↓iteB_true, ↓iteB_false]
    refine hKK _ _ _ ?_
    simp -implicitDefEqProofs only [go_sem, ↓reduceIte, Int.reduceEq, Int.reduceLT, Int.reduceLE, List.reduceReplicate, intA, setT_nil, setT_cons]
  | succ μ =>
    obtain ⟨r, hr⟩ : ∃ r, l[j]? = some r := ⟨l[j]'(by omega), List.getElem?_eq_getElem (by omega)⟩
    have hix := hx.idx (j := j) (y := rdV r) (by rw [List.getElem?_map, hr]; rfl)
    have hlt : (j : Int) < ((l.length : Nat) : Int) := by omega
    have hwj := wrap_succ j (by omega)
    have hrc : (rdV r).cells = [.v (.int .i64 r.ch), .v (.int .i64 r.ln), .v (.int .i64 r.wd), .v (.int .u8 r.kind), .v (.string r.word)] := rfl
    simp -implicitDefEqProofs only [go_sem, ↓reduceIte, Int.reduceEq, Int.reduceLT, Int.reduceLE, List.reduceReplicate, intA, setT_nil, setT_cons, hx.len, hx.cells, hx.flat, hx.bound, hln, hlt, ofV_bound, ↓boolP_bool, ↓iteB_true, ↓iteB_false]
    refine wp_draw (by kernel_rfl) ?_
    simp -implicitDefEqProofs only [go_sem, ↓reduceIte, Int.reduceEq, Int.reduceLT, Int.reduceLE, List.reduceReplicate, intA, setT_nil, setT_cons, hx.len, hx.cells, hx.flat, hx.bound, hln, hlt, hix, hrc, neqRd, List.take_succ_cons, List.take_zero, hwj, ofV_bound, ↓boolP_bool, ↓iteB_true, ↓iteB_false]
    exact Again.mk' μ (by omega) (hQ _ _ _ ⟨j + 1, by omega, rfl, rfl⟩)
end Go.Ev
namespace Go.Ev
open Go.Proofs
set_option maxRecDepth 100000
set_option linter.unusedSimpArgs false
attribute [local irreducible] Wp WpS
end Go.Ev
namespace Go.Ev
open Go.Proofs
set_option maxRecDepth 100000
set_option linter.unusedSimpArgs false
attribute [local irreducible] Wp WpS
end Go.Ev
namespace Go.Ev
open Go.Proofs
set_option maxRecDepth 100000
set_option linter.unusedSimpArgs false
attribute [local irreducible] Wp WpS
theorem MB.drop {B : Nat} {base : Fm} {H : Heap} {ds : List ByteArray} {out : AV} (h : MB B base H ds out) : MB B base H [] (.v (.slice none 0 0)) := ⟨h.lock, h.size, h.base, Or.inl ⟨rfl, rfl⟩⟩
theorem MB.sub {B B' : Nat} {base base' : Fm} {H : Heap} {ds : List ByteArray} {out : AV} (h : MB B base H ds out) (hB : B' ≤ B) (hb : ∀ p ∈ base', p ∈ base) : MB B' base' H ds out := ⟨h.lock, Nat.le_trans hB h.size, fun p hp => h.base p (hb p hp), h.done⟩
theorem MB.lay {B : Nat} {base : Fm} {H : Heap} {ds : List ByteArray} {out : AV} (h : MB B base H ds out) {N : Nat} (hN : H.size = N) (o : AObj) (E : List (Option AObj)) : MB (N + 1) (base ++ [(N, o)]) (H.plus (some o :: E)) ds out := by
  refine ⟨h.lock, by rw [plus_size, hN, List.length_cons]; omega, fun p hp => ?_, h.done.plus _⟩
  rcases List.mem_append.1 hp with hp | hp
  · exact h.base.plus _ p hp
  · obtain rfl := List.mem_singleton.1 hp
    rw [plus_get_hi _ (by omega), hN, Nat.sub_self]; rfl
theorem Stay.lay {B N : Nat} {base : Fm} (h : Stay B base) (hB : B ≤ N) {o : AObj} (ho : ∀ v m e sz cs, o ≠ .cells v m e sz true cs) : Stay (N + 1) (base ++ [(N, o)]) := by
  intro p hp
  rcases List.mem_append.1 hp with hp | hp
  · exact ⟨by have := (h p hp).1; omega, (h p hp).2⟩
  · obtain rfl := List.mem_singleton.1 hp
    exact ⟨Nat.lt_succ_self _, ho⟩
end Go.Ev
namespace Go.Ev
open Go.Proofs
set_option maxRecDepth 100000
set_option linter.unusedSimpArgs false
attribute [local irreducible] Wp WpS
@[go_sem] theorem nilCk_ptr (b w k : Nat) : nilCk (.ptr b w k) = some (.ptr b w k) := rfl
/-! ### a line of two texts, and the fewest readings -/
def prC (lx ly : AV) (tb : List Int) : List AV := lx :: ly :: tb.map intA
theorem prC_0 (lx ly : AV) (tb : List Int) : (prC lx ly tb)[0]? = some lx := rfl
theorem prC_1 (lx ly : AV) (tb : List Int) : (prC lx ly tb)[1]? = some ly := rfl
theorem prC_len (lx ly : AV) (tb : List Int) : (prC lx ly tb).length = tb.length + 2 := by simp [prC]
theorem prC_get (lx ly : AV) {tb : List Int} {k : Nat} {v : Int} (h : tb[k]? = some v) : (prC lx ly tb)[2 + k]? = some (.v (.int .i64 v)) := by
  unfold prC
  rw [show 2 + k = k + 2 by omega]
  simp [h, intA]
theorem prC_set (lx ly : AV) {tb : List Int} {k : Nat} (h : k < tb.length) (v : Int) : splice (2 + k) [.v (.int .i64 v)] (prC lx ly tb) = prC lx ly (tb.set k v) := by
  unfold splice prC
  apply List.ext_getElem?
  intro i
  match i with
  | 0 => rw [show 2 + k = (k + 1) + 1 by omega]; rfl
  | 1 => rw [show 2 + k = k + 2 by omega]; rfl
  | i + 2 =>
    rw [show 2 + k = k + 2 by omega]
    simp only [List.take_succ_cons, List.cons_append, List.getElem?_cons_succ, List.length_cons, List.length_nil, List.drop_succ_cons, Nat.zero_add]
    rw [List.map_set, List.append_assoc]
    have hk : ((tb.map intA).take k).length = k := by rw [List.length_take, List.length_map]; omega
    rw [List.getElem?_set]
    by_cases h1 : i < k
    · rw [if_neg (by omega), List.getElem?_append_left (by omega), List.getElem?_take_of_lt h1]
    · by_cases h2 : i = k
      · subst h2
        rw [if_pos rfl, List.getElem?_append_right (by omega), hk, Nat.sub_self, if_pos (by simpa using h)]; rfl
      · rw [if_neg (by omega), List.getElem?_append_right (by omega), hk, show i - k = (i - k - 1) + 1 by omega]
        show (List.drop (k + 1) (tb.map intA))[i - k - 1]? = _
        rw [List.getElem?_drop, show k + 1 + (i - k - 1) = i by omega]
theorem prC_cells (lx ly : AV) (tb : List Int) (h1 : lx.flat = true) (h2 : ly.flat = true) : (prC lx ly tb).all AV.flat = true := by
  unfold prC
  rw [List.all_cons, List.all_cons, h1, h2]
  simp only [List.all_map, Bool.true_and]
  exact List.all_eq_true.2 fun _ _ => rfl
theorem arP (b v k n s i : Nat) (h : i < n) : arIdx n s (.ptr b v k) (.v (.int .i64 (i : Int))) = some (.ptr b v (k + i * s)) := by
  show (if 0 ≤ (i : Int) ∧ (i : Int) < (n : Int) then some (AV.ptr b v (k + (i : Int).toNat * s)) else none) = _
  rw [if_pos (by omega), Int.toNat_natCast]
def sameB (a c : Line) (i j : Nat) : Bool := match a[i]?, c[j]? with
  | some s, some u => decide (s = u)
  | _, _ => false
theorem sameB_some {a c : Line} {i j : Nat} {s u : ByteArray} (h1 : a[i]? = some s) (h2 : c[j]? = some u) : sameB a c i j = decide (s = u) := by unfold sameB; rw [h1, h2]
theorem sameB_left {a c : Line} {i j : Nat} (h : ¬ i < a.length) : sameB a c i j = false := by unfold sameB; rw [List.getElem?_eq_none_iff.2 (by omega)]
theorem sameB_right {a c : Line} {i j : Nat} (h : ¬ j < c.length) : sameB a c i j = false := by unfold sameB; rw [List.getElem?_eq_none_iff.2 (show c.length ≤ j by omega)]; cases a[i]? <;> rfl
/-- a pair in memory -/
structure PrH (X : Heap) (b : Nat) (lx ly : AV) (a c : Line) (tb : List Int) : Prop where
  lt : b < X.size
  row : ∃ m g, X.row b 0 = some (m, 124, 1, g, prC lx ly tb)
  left : SlOf 1 (strs a) lx
  right : SlOf 1 (strs c) ly
  len : tb.length = 144
theorem PrH.lock {X : Heap} {b : Nat} {lx ly : AV} {a c : Line} {tb : List Int} (h : PrH X b lx ly a c tb) (k : Nat) : PrH { X with lock := k } b lx ly a c tb := ⟨h.lt, h.row, h.left, h.right, h.len⟩
theorem PrH.plus {X : Heap} {b : Nat} {lx ly : AV} {a c : Line} {tb : List Int} (h : PrH X b lx ly a c tb) (E : List (Option AObj)) : PrH (X.plus E) b lx ly a c tb := by
  obtain ⟨m, g, hr⟩ := h.row
  exact ⟨by have := h.lt; rw [plus_size]; omega, ⟨m, g, by rw [rowLo h.lt]; exact hr⟩, h.left, h.right, h.len⟩
set_option maxHeartbeats 2000000 in
theorem fn74 {e : Exts} {X : Heap} {b : Nat} {lx ly : AV} {a c : Line} {tb : List Int} (h : PrH X b lx ly a c tb) (i j : Nat) : Fn' (Cx e) 91 [.ptr b 0 0, intA i, intA j] X (fun v _ => v = .v (.bool (sameB a c i j))) := by
  obtain ⟨N, hN⟩ : ∃ N, X.size = N := ⟨_, rfl⟩
  obtain ⟨m, g, hr0⟩ := h.row
  have hb := h.lt
  have hr : ∀ E, (X.plus E).row b 0 = some (m, 124, 1, g, prC lx ly tb) := fun E => by rw [rowLo hb]; exact hr0
  have hlt : ltB b N = true := by unfold ltB; simp; omega
  have hl := h.left
  have hl2 := h.right
  rw [fn_step (fn_91 e) (show Try.f91.body = some _ from rfl), ← plus_nil X]
  simp -implicitDefEqProofs only [Try.f91, go_sem, ↓reduceIte, Int.reduceEq, Int.reduceLT, Int.reduceLE, List.reduceReplicate, intA, setT_nil, setT_cons, ↓boolP_bool, ↓iteB_true, ↓iteB_false, sizeP hN, settleP0 hN, settleP hN, List.length_nil, Nat.add_zero]
  refine wp_drawX [([], [], false), ([], [], false), ([], [], false), ([], [], false), ([], [], false), ([], [], false), ([], [], false), ([], [], false), ([], [], false), ([], [], false), ([], [], false), ([], [], false), ([], [], false), ([], [], false), ([], [], false), ([], [], false), ([], [], false), ([], [], false), ([], [], false), ([], [], false), ([], [], false), ([], [], false), ([], [], false), ([], [], false), ([], [], false), ([], [], false), ([], [], false), ([20, 23], [], false), ([], [], false), ([], [], false), ([20, 23], [], false), ([], [], false), ([], [], false), ([], [], false)] (by kernel_rfl) (by kernel_rfl) ?_
  by_cases h1 : (i : Int) < (a.length : Int)
  · by_cases h2 : (j : Int) < (c.length : Int)
    · obtain ⟨s, hs⟩ := at_lt a i (by omega)
      obtain ⟨u, hu⟩ := at_lt c j (by omega)
      simp -implicitDefEqProofs only [go_sem, ↓reduceIte, Int.reduceEq, Int.reduceLT, Int.reduceLE, List.reduceReplicate, intA, setT_nil, setT_cons, ↓boolP_bool, ↓iteB_true, ↓iteB_false, hr, prC_0, prC_1, hlt, hl.len, hl2.len, strs_len, h1, h2, hl.lenI, hl2.lenI, hl.idx (strs_get hs), hl2.idx (strs_get hu), hl.objs, hl2.objs, bin_seq, sizeP hN, settleP0 hN, settleP hN, List.length_nil, Nat.add_zero]
      show AV.v (.bool (decide (s = u))) = _
      rw [sameB_some hs hu]
    · simp -implicitDefEqProofs only [go_sem, ↓reduceIte, Int.reduceEq, Int.reduceLT, Int.reduceLE, List.reduceReplicate, intA, setT_nil, setT_cons, ↓boolP_bool, ↓iteB_true, ↓iteB_false, hr, prC_0, prC_1, hlt, hl.len, hl2.len, strs_len, h1, h2, hl.lenI, hl2.lenI, hl.objs, hl2.objs, bin_seq, sizeP hN, settleP0 hN, settleP hN, List.length_nil, Nat.add_zero]
      show AV.v (.bool false) = _
      rw [sameB_right (by omega)]
  · simp -implicitDefEqProofs only [go_sem, ↓reduceIte, Int.reduceEq, Int.reduceLT, Int.reduceLE, List.reduceReplicate, intA, setT_nil, setT_cons, ↓boolP_bool, ↓iteB_true, ↓iteB_false, hr, prC_0, prC_1, hlt, hl.len, hl2.len, strs_len, h1, hl.lenI, hl2.lenI, hl.objs, hl2.objs, bin_seq, sizeP hN, settleP0 hN, settleP hN, List.length_nil, Nat.add_zero]
    show AV.v (.bool false) = _
    rw [sameB_left (by omega)]
theorem callP74 {e : Exts} (he : Quiet e) {X : Heap} {b : Nat} {lx ly : AV} {a c : Line} {tb : List Int} (h : PrH X b lx ly a c tb) (i j : Nat) (me : FuncId) (d : Option Tmp) : callA (Cx e) (lim (Cx e)) me 91 d [.ptr b 0 0, .v (.int .i64 i), .v (.int .i64 j)] X = some (.v (.bool (sameB a c i j)), X) := by
  refine callA_still (ext_91 he) (pure_91 _ _ _) rfl (fun h0 => ?_) (fn74 (h.lock _) i j)
  have : Nat.max (b + 1) (Nat.max 0 (Nat.max 0 0)) = 0 := h0
  have h1 := Nat.le_max_left (b + 1) (Nat.max 0 (Nat.max 0 0))
  have h2 : b + 1 ≤ 0 := this ▸ h1
  omega
def atT (tb : List Int) (i j : Nat) : Int := (tb[i * 12 + j]?).getD 0
theorem atT_get {tb : List Int} (h : tb.length = 144) {i j : Nat} (hi : i < 12) (hj : j < 12) : tb[i * 12 + j]? = some (atT tb i j) := by
  unfold atT
  rw [List.getElem?_eq_getElem (by omega)]; rfl
theorem prT (lx ly : AV) {tb : List Int} (h : tb.length = 144) {i j : Nat} (hi : i < 12) (hj : j < 12) : (prC lx ly tb)[2 + i * 12 + j]? = some (.v (.int .i64 (atT tb i j))) := by
  rw [Nat.add_assoc]; exact prC_get lx ly (atT_get h hi hj)
theorem mm3 (x y z : Int) : minmaxA false (.v (.int .i64 x)) [.v (.int .i64 y), .v (.int .i64 z)] = some (.v (.int .i64 (min (min x y) z))) := by
  have h2 : ∀ u w : Int, minmax2 false (.v (.int .i64 u)) (.v (.int .i64 w)) = some (.v (.int .i64 (min u w))) := by
    intro u w
    unfold minmax2
    simp only [Bool.false_eq_true, if_false]
    by_cases h : w < u
    · simp [h, Int.min_def]; try omega
    · simp [h, Int.min_def]; try omega
  unfold minmaxA
  rw [h2]
  simp only
  unfold minmaxA
  rw [h2]; rfl
theorem impure_92 (e : Exts) (h : FuncId) (d : Option Tmp) : (Cx e).pure h 108 d = false := by simp [Cx, pureF, impF]
def newT (a c : Line) (tb : List Int) (i j : Nat) : Int := if sameB a c i j then atT tb (i + 1) (j + 1) else 1 + min (min (atT tb (i + 1) (j + 1)) (atT tb (i + 1) j)) (atT tb i (j + 1))
def fillT (a c : Line) (tb : List Int) (i j : Nat) : List Int := if i = a.length ∧ j = c.length then tb else tb.set (i * 12 + j) (newT a c tb i j)
theorem callA_rawAll {C : Cfg} {f : FuncId} {args : List AV} {H : Heap} {w : AV} {Q : Heap → Prop} (hx : C.ext f = none) (hp : ∀ me d, C.pure me f d = false) (h : Fn' C f args H (rawT H w Q)) : ∃ Y, (∀ (me : FuncId) (d : Option Tmp), callA C (lim C) me f d args H = some (w, Y)) ∧ Q Y := by
  unfold Fn' at h
  rw [bindO_iff] at h
  obtain ⟨o, h1, h2⟩ := h
  cases o with
  | ret v H' =>
    obtain ⟨rfl, hQ⟩ := h2
    refine ⟨_, fun me d => ?_, hQ⟩
    have hk : callKind C me f d args = 0 := by unfold callKind; rw [hp]; rfl
    unfold callA callB
    rw [hx]
    simp only [hk, h1]
  | _ => exact h2.elim
set_option maxHeartbeats 4000000 in
theorem call92 {e : Exts} (he : Quiet e) {X : Heap} {b : Nat} {lx ly : AV} {a c : Line} {tb : List Int} (h : PrH X b lx ly a c tb) (hlb : X.lock ≤ b) (i j : Nat) (hi : i ≤ a.length) (hj : j ≤ c.length) (ha : a.length ≤ 10) (hc : c.length ≤ 10) (hv : ∀ v ∈ tb, 0 ≤ v ∧ v < 2 ^ 32) :
    ∃ Y, (∀ (me : FuncId) (d : Option Tmp), callA (Cx e) (lim (Cx e)) me 108 d [.ptr b 0 0, .v (.int .i64 i), .v (.int .i64 j)] X = some (.tup [], Y)) ∧ PrH Y b lx ly a c (fillT a c tb i j) ∧ Y.size = X.size ∧ Y.lock = X.lock ∧ ∀ b', b' ≠ b → Y.get b' = X.get b' := by
  refine callA_rawAll (ext_108 he) (fun _ _ => impure_92 _ _ _) ?_
  obtain ⟨N, hN⟩ : ∃ N, X.size = N := ⟨_, rfl⟩
  obtain ⟨m, g, hr0⟩ := h.row
  have hb := h.lt
  have hr : ∀ E, (X.plus E).row b 0 = some (m, 124, 1, g, prC lx ly tb) := fun E => by rw [rowLo hb]; exact hr0
  have hlt : ltB b N = true := by unfold ltB; simp; omega
  have hl := h.left
  have hl2 := h.right
  have hw1 := wrap_succ i (by omega)
  have hw2 := wrap_succ j (by omega)
  have h74 := fun me d E => callP74 he (h.plus E) i j me d
  have hlkX : X.lock ≤ N := by omega
  generalize hKK : (rawT X (.tup []) fun Y => PrH Y b lx ly a c (fillT a c tb i j) ∧ Y.size = X.size ∧ Y.lock = X.lock ∧ ∀ b', b' ≠ b → Y.get b' = X.get b') = KK
  rw [fn_step (fn_108 e) (show Try.f108.body = some _ from rfl), ← plus_nil X]
  simp only [Try.f108]
  by_cases hend : i = a.length ∧ j = c.length
  · have hq : fillT a c tb i j = tb := by unfold fillT; rw [if_pos hend]
    obtain ⟨rfl, rfl⟩ := hend
    simp -implicitDefEqProofs only [go_sem, ↓reduceIte, Int.reduceEq, Int.reduceLT, Int.reduceLE, List.reduceReplicate, intA, setT_nil, setT_cons, ↓boolP_bool, ↓iteB_true, ↓iteB_false, hr, prC_0, prC_1, hl.len, hl2.len, strs_len, decide_true, sizeP hN, settleP0 hN, settleP hN, List.length_nil, Nat.add_zero]
    rw [← hKK, hq]
    refine ⟨rfl, ?_⟩
    rw [plus_nil, trim_whole (Nat.le_refl _)]
    exact ⟨h, rfl, rfl, fun _ _ => rfl⟩
  · have hq : fillT a c tb i j = tb.set (i * 12 + j) (newT a c tb i j) := by unfold fillT; rw [if_neg hend]
    have hlen := h.len
    have hst : ∀ (w : Int) E, storeCells (X.plus E) b 0 (2 + i * 12 + j) [.v (.int .i64 w)] = some ((X.put b (.cells 0 (Nat.max m 0) 124 1 g (prC lx ly (tb.set (i * 12 + j) w)))).plus E) := by
      intro w E
      have := storeLoK (X := X) (b := b) (v := 0) (k := 2 + i * 12 + j) (x := .v (.int .i64 w)) hb hlb hr0 (by rw [prC_len, hlen]; omega) rfl E
      rw [this]
      rw [show splice (2 + i * 12 + j) [AV.v (.int .i64 w)] (prC lx ly tb) = prC lx ly (tb.set (i * 12 + j) w) by rw [Nat.add_assoc]; exact prC_set lx ly (by omega) w]
      rfl
    have hNp : ∀ o, (X.put b o).size = N := fun o => by rw [put_sizeI _ hb]; exact hN
    have hszp : ∀ o E, ((X.put b o).plus E).size = N + E.length := fun o E => sizeP (hNp o) E
    have hstp : ∀ o E k, settleH (N + k) ((X.put b o).plus E) = if (E.drop k).all Option.isNone = true then (X.put b o).plus (E.take k) else (X.put b o).plus E := fun o E k => settleP (hNp o) E k
    have hstp0 : ∀ o E, settleH N ((X.put b o).plus E) = if (E.drop 0).all Option.isNone = true then (X.put b o).plus (E.take 0) else (X.put b o).plus E := fun o E => settleP0 (hNp o) E
    have hfin : ∀ w, w = newT a c tb i j → AtO KK (.tup []) ((X.put b (.cells 0 (Nat.max m 0) 124 1 g (prC lx ly (tb.set (i * 12 + j) w)))).plus []) := by
      rintro w rfl
      rw [← hKK, hq]
      refine ⟨rfl, ?_⟩
      rw [plus_nil, trim_whole (by rw [hNp, hN]; exact Nat.le_refl _)]
      exact ⟨⟨by rw [hNp]; omega, ⟨_, _, row_put_same hb⟩, hl, hl2, by rw [List.length_set]; exact hlen⟩, by rw [hNp, hN], rfl, fun b' hb' => put_get_ne _ (by omega) hb'⟩
    have hA : 0 ≤ atT tb (i + 1) (j + 1) ∧ atT tb (i + 1) (j + 1) < 2 ^ 32 := hv _ (List.mem_of_getElem? (atT_get hlen (i := i + 1) (j := j + 1) (by omega) (by omega)))
    have hB : 0 ≤ atT tb (i + 1) j ∧ atT tb (i + 1) j < 2 ^ 32 := hv _ (List.mem_of_getElem? (atT_get hlen (i := i + 1) (j := j) (by omega) (by omega)))
    have hC : 0 ≤ atT tb i (j + 1) ∧ atT tb i (j + 1) < 2 ^ 32 := hv _ (List.mem_of_getElem? (atT_get hlen (i := i) (j := j + 1) (by omega) (by omega)))
    have pA := prT lx ly hlen (i := i + 1) (j := j + 1) (by omega) (by omega)
    have pB := prT lx ly hlen (i := i + 1) (j := j) (by omega) (by omega)
    have pC := prT lx ly hlen (i := i) (j := j + 1) (by omega) (by omega)
    have rI := fun v k => arP b v k 12 12 i (by omega)
    have rI1 := fun v k => arP b v k 12 12 (i + 1) (by omega)
    have rJ := fun v k => arP b v k 12 1 j (by omega)
    have rJ1 := fun v k => arP b v k 12 1 (j + 1) (by omega)
    cases hs : sameB a c i j
    · rw [hs] at h74
      have hnew : newT a c tb i j = 1 + min (min (atT tb (i + 1) (j + 1)) (atT tb (i + 1) j)) (atT tb i (j + 1)) := by unfold newT; rw [hs]; rfl
      have hwr : IntKind.i64.wrap (1 + min (min (atT tb (i + 1) (j + 1)) (atT tb (i + 1) j)) (atT tb i (j + 1))) = 1 + min (min (atT tb (i + 1) (j + 1)) (atT tb (i + 1) j)) (atT tb i (j + 1)) := wrap_in _ (by omega) (by omega)
      cases d1 : decide ((i : Int) = (a.length : Int))
      · simp -implicitDefEqProofs only [go_sem, ↓reduceIte, Int.reduceEq, Int.reduceLT, Int.reduceLE, List.reduceReplicate, intA, setT_nil, setT_cons, ↓boolP_bool, ↓iteB_true, ↓iteB_false, hr, prC_0, prC_1, hl.len, hl2.len, strs_len, d1, h74, rI, rI1, rJ, rJ1, Nat.mul_one, Nat.zero_add, pA, pB, pC, mm3, hw1, hw2, hlt, hst, hszp, hstp, hstp0, sizeP hN, settleP0 hN, settleP hN, List.length_nil, Nat.add_zero]
        refine wp_drawX [([], [], false), ([], [], false), ([], [], false), ([], [], false), ([], [], false), ([], [], false), ([], [], false), ([], [], false), ([], [], false), ([], [], false), ([], [], false), ([], [], false), ([], [], false), ([], [], false), ([], [], false), ([], [], false), ([], [], false), ([], [], false), ([], [], false), ([], [], false), ([], [], false), ([12], [], false), ([], [], false), ([], [], false), ([], [], false), ([], [], false), ([], [], false), ([], [], false), ([], [], false), ([], [], false), ([12, 21], [], false), ([], [], false), ([], [], false), ([], [], false), ([], [], false), ([], [], false), ([], [], false), ([], [], false)] (by kernel_rfl) (by kernel_rfl) ?_
        simp -implicitDefEqProofs only [go_sem, ↓reduceIte, Int.reduceEq, Int.reduceLT, Int.reduceLE, List.reduceReplicate, intA, setT_nil, setT_cons, ↓boolP_bool, ↓iteB_true, ↓iteB_false, hr, prC_0, prC_1, hl.len, hl2.len, strs_len, hwr, rI, rI1, rJ, rJ1, Nat.mul_one, Nat.zero_add, pA, pB, pC, mm3, hw1, hw2, hlt, hst, hszp, hstp, hstp0, sizeP hN, settleP0 hN, settleP hN, List.length_nil, Nat.add_zero]
        exact hfin _ hnew.symm
      · cases d2 : decide ((j : Int) = (c.length : Int))
        · simp -implicitDefEqProofs only [go_sem, ↓reduceIte, Int.reduceEq, Int.reduceLT, Int.reduceLE, List.reduceReplicate, intA, setT_nil, setT_cons, ↓boolP_bool, ↓iteB_true, ↓iteB_false, hr, prC_0, prC_1, hl.len, hl2.len, strs_len, d1, d2, h74, rI, rI1, rJ, rJ1, Nat.mul_one, Nat.zero_add, pA, pB, pC, mm3, hw1, hw2, hlt, hst, hszp, hstp, hstp0, sizeP hN, settleP0 hN, settleP hN, List.length_nil, Nat.add_zero]
          refine wp_drawX [([], [], false), ([], [], false), ([], [], false), ([], [], false), ([], [], false), ([], [], false), ([], [], false), ([], [], false), ([], [], false), ([], [], false), ([], [], false), ([], [], false), ([], [], false), ([], [], false), ([], [], false), ([], [], false), ([], [], false), ([], [], false), ([], [], false), ([], [], false), ([], [], false), ([12], [], false), ([], [], false), ([], [], false), ([], [], false), ([], [], false), ([], [], false), ([], [], false), ([], [], false), ([], [], false), ([12, 21], [], false), ([], [], false), ([], [], false), ([], [], false), ([], [], false), ([], [], false), ([], [], false), ([], [], false)] (by kernel_rfl) (by kernel_rfl) ?_
          simp -implicitDefEqProofs only [go_sem, ↓reduceIte, Int.reduceEq, Int.reduceLT, Int.reduceLE, List.reduceReplicate, intA, setT_nil, setT_cons, ↓boolP_bool, ↓iteB_true, ↓iteB_false, hr, prC_0, prC_1, hl.len, hl2.len, strs_len, hwr, rI, rI1, rJ, rJ1, Nat.mul_one, Nat.zero_add, pA, pB, pC, mm3, hw1, hw2, hlt, hst, hszp, hstp, hstp0, sizeP hN, settleP0 hN, settleP hN, List.length_nil, Nat.add_zero]
          exact hfin _ hnew.symm
        · exact absurd ⟨by have := of_decide_eq_true d1; omega, by have := of_decide_eq_true d2; omega⟩ hend
    · rw [hs] at h74
      have hnew : newT a c tb i j = atT tb (i + 1) (j + 1) := by unfold newT; rw [hs]; rfl
      have hil : i < a.length := by
        by_cases h1 : i < a.length
        · exact h1
        · rw [sameB_left h1] at hs; cases hs
      have d1 : decide ((i : Int) = (a.length : Int)) = false := decide_eq_false (by omega)
      simp -implicitDefEqProofs only [go_sem, ↓reduceIte, Int.reduceEq, Int.reduceLT, Int.reduceLE, List.reduceReplicate, intA, setT_nil, setT_cons, ↓boolP_bool, ↓iteB_true, ↓iteB_false, hr, prC_0, prC_1, hl.len, hl2.len, strs_len, d1, h74, rI, rI1, rJ, rJ1, Nat.mul_one, Nat.zero_add, pA, pB, pC, mm3, hw1, hw2, hlt, hst, hszp, hstp, hstp0, sizeP hN, settleP0 hN, settleP hN, List.length_nil, Nat.add_zero]
      refine wp_drawX [([], [], false), ([], [], false), ([], [], false), ([], [], false), ([], [], false), ([], [], false), ([], [], false), ([], [], false), ([], [], false), ([], [], false), ([], [], false), ([], [], false), ([], [], false), ([], [], false), ([], [], false), ([], [], false), ([], [], false), ([], [], false)] (by kernel_rfl) (by kernel_rfl) ?_
      simp -implicitDefEqProofs only [go_sem, ↓reduceIte, Int.reduceEq, Int.reduceLT, Int.reduceLE, List.reduceReplicate, intA, setT_nil, setT_cons, ↓boolP_bool, ↓iteB_true, ↓iteB_false, hr, prC_0, prC_1, hl.len, hl2.len, strs_len, rI, rI1, rJ, rJ1, Nat.mul_one, Nat.zero_add, pA, pB, pC, mm3, hw1, hw2, hlt, hst, hszp, hstp, hstp0, sizeP hN, settleP0 hN, settleP hN, List.length_nil, Nat.add_zero]
      exact hfin _ hnew.symm
end Go.Ev
namespace Go.Ev
open Go.Proofs
set_option maxRecDepth 100000
set_option linter.unusedSimpArgs false
/-! ### what the table holds -/
theorem atT_set {tb : List Int} (h : tb.length = 144) {i j p q : Nat} (hi : i < 12) (hj : j < 12) (hp : p < 12) (hq : q < 12) (v : Int) : atT (tb.set (i * 12 + j) v) p q = if p = i ∧ q = j then v else atT tb p q := by
  unfold atT
  rw [List.getElem?_set]
  by_cases e : p = i ∧ q = j
  · obtain ⟨rfl, rfl⟩ := e
    rw [if_pos rfl, if_pos (by omega), if_pos ⟨rfl, rfl⟩]; rfl
  · rw [if_neg (by omega), if_neg e]
theorem dist_sum (xs ys : Line) : distL xs ys ≤ xs.length + ys.length := by
  induction xs, ys using distL.induct with
  | case1 ys => rw [distL_nil]; omega
  | case2 xs h => rw [distL_nilr]; omega
  | case3 xs y ys ih => rw [distL_same]; simp only [List.length_cons]; omega
  | case4 x xs y ys h i1 i2 i3 => rw [distL_ne h]; simp only [List.length_cons] at *; omega
/-- rows above i are done, and of row i the columns from r on -/
structure TabOK (a c : Line) (tb : List Int) (i : Int) (r : Nat) : Prop where
  len : tb.length = 144
  at' : ∀ p q : Nat, p < 12 → q < 12 → atT tb p q = if p ≤ a.length ∧ q ≤ c.length ∧ (i < (p : Int) ∨ ((p : Int) = i ∧ r ≤ q) ∨ (p = a.length ∧ q = c.length)) then (distL (a.drop p) (c.drop q) : Int) else 21
theorem TabOK.small {a c : Line} {tb : List Int} {i : Int} {r : Nat} (h : TabOK a c tb i r) (ha : a.length ≤ 10) (hc : c.length ≤ 10) : ∀ v ∈ tb, 0 ≤ v ∧ v < 2 ^ 32 := by
  intro v hv
  obtain ⟨k, hk⟩ := List.getElem?_of_mem hv
  have hl := (List.getElem?_eq_some_iff.1 hk).1
  rw [h.len] at hl
  have h1 := h.at' (k / 12) (k % 12) (by omega) (by omega)
  have h2 : atT tb (k / 12) (k % 12) = v := by
    unfold atT; rw [show k / 12 * 12 + k % 12 = k by omega, hk]; rfl
  rw [h2] at h1
  have := dist_sum (a.drop (k / 12)) (c.drop (k % 12))
  simp only [List.length_drop] at this
  split at h1 <;> omega
theorem TabOK.next {a c : Line} {tb : List Int} {i : Int} (h : TabOK a c tb (i + 1) 0) : TabOK a c tb i (c.length + 1) := by
  refine ⟨h.len, fun p q hp hq => ?_⟩
  rw [h.at' p q hp hq]
  by_cases e : p ≤ a.length ∧ q ≤ c.length ∧ (i + 1 < (p : Int) ∨ ((p : Int) = i + 1 ∧ 0 ≤ q) ∨ (p = a.length ∧ q = c.length))
  · rw [if_pos e, if_pos (by omega)]
  · rw [if_neg e, if_neg (by omega)]
theorem drop_at {l : Line} {i : Nat} (h : i < l.length) : ∃ x, l[i]? = some x ∧ l.drop i = x :: l.drop (i + 1) := ⟨l[i], List.getElem?_eq_getElem h, List.drop_eq_getElem_cons h⟩
theorem TabOK.fill {a c : Line} {tb : List Int} {i r : Nat} (h : TabOK a c tb i (r + 1)) (ha : a.length ≤ 10) (hc : c.length ≤ 10) (hi : i ≤ a.length) (hr : r ≤ c.length) : TabOK a c (fillT a c tb i r) i r := by
  have key : (i = a.length ∧ r = c.length) ∨ newT a c tb i r = (distL (a.drop i) (c.drop r) : Int) := by
    by_cases hil : i < a.length
    · obtain ⟨x, hx1, hx2⟩ := drop_at hil
      by_cases hrl : r < c.length
      · obtain ⟨y, hy1, hy2⟩ := drop_at hrl
        have e1 := h.at' (i + 1) (r + 1) (by omega) (by omega)
        have e2 := h.at' (i + 1) r (by omega) (by omega)
        have e3 := h.at' i (r + 1) (by omega) (by omega)
        rw [if_pos (by omega)] at e1 e2 e3
        right
        unfold newT
        rw [sameB_some hx1 hy1]
        by_cases e : x = y
        · subst e; rw [hx2, hy2, distL_same]; simp only [decide_true, if_true]; exact e1
        · rw [decide_eq_false e, e1, e2, e3]
          simp only [Bool.false_eq_true, if_false]
          conv => rhs; rw [hx2, hy2, distL_ne e]
          rw [hy2, hx2]; omega
      · obtain rfl : r = c.length := by omega
        have e1 := h.at' (i + 1) (c.length + 1) (by omega) (by omega)
        have e2 := h.at' (i + 1) c.length (by omega) (by omega)
        have e3 := h.at' i (c.length + 1) (by omega) (by omega)
        rw [if_neg (by omega)] at e1 e3
        rw [if_pos (by omega)] at e2
        right
        unfold newT
        rw [sameB_right (Nat.lt_irrefl _), e1, e2, e3]
        simp only [Bool.false_eq_true, if_false]
        rw [List.drop_length, distL_nilr, distL_nilr, List.length_drop, List.length_drop]; omega
    · obtain rfl : i = a.length := by omega
      by_cases hrl : r < c.length
      · have e1 := h.at' (a.length + 1) (r + 1) (by omega) (by omega)
        have e2 := h.at' (a.length + 1) r (by omega) (by omega)
        have e3 := h.at' a.length (r + 1) (by omega) (by omega)
        rw [if_neg (by omega)] at e1 e2
        rw [if_pos (by omega)] at e3
        right
        unfold newT
        rw [sameB_left (Nat.lt_irrefl _), e1, e2, e3]
        simp only [Bool.false_eq_true, if_false]
        rw [List.drop_length, distL_nil, distL_nil, List.length_drop, List.length_drop]; omega
      · exact Or.inl ⟨rfl, by omega⟩
  unfold fillT
  by_cases hend : i = a.length ∧ r = c.length
  · rw [if_pos hend]
    refine ⟨h.len, fun p q hp hq => ?_⟩
    rw [h.at' p q hp hq]
    by_cases e : p ≤ a.length ∧ q ≤ c.length ∧ ((i : Int) < (p : Int) ∨ ((p : Int) = i ∧ r + 1 ≤ q) ∨ (p = a.length ∧ q = c.length))
    · rw [if_pos e, if_pos (by omega)]
    · rw [if_neg e, if_neg (by omega)]
  · rw [if_neg hend]
    have hn := key.resolve_left hend
    refine ⟨by rw [List.length_set]; exact h.len, fun p q hp hq => ?_⟩
    rw [atT_set h.len (by omega) (by omega) hp hq, hn]
    by_cases e : p = i ∧ q = r
    · obtain ⟨rfl, rfl⟩ := e
      rw [if_pos ⟨rfl, rfl⟩, if_pos (by omega)]
    · rw [if_neg e, h.at' p q hp hq]
      by_cases e2 : p ≤ a.length ∧ q ≤ c.length ∧ ((i : Int) < (p : Int) ∨ ((p : Int) = i ∧ r + 1 ≤ q) ∨ (p = a.length ∧ q = c.length))
      · rw [if_pos e2, if_pos (by omega)]
      · rw [if_neg e2, if_neg (by omega)]
/-- the table as it is laid first -/
def tab0N (n : Nat) : List Int := List.replicate n 21 ++ List.replicate (144 - n) 0
theorem tab0_len {n : Nat} (h : n ≤ 144) : (tab0N n).length = 144 := by unfold tab0N; simp; omega
theorem tab0_set {n : Nat} (h : n < 144) : (tab0N n).set n 21 = tab0N (n + 1) := by
  unfold tab0N
  rw [List.set_append, if_neg (by simp), List.length_replicate, Nat.sub_self, show 144 - n = (144 - (n + 1)) + 1 by omega, List.replicate_succ, List.set_cons_zero, List.replicate_succ']
  simp
theorem tab0_end : tab0N 144 = List.replicate 144 21 := by unfold tab0N; simp
theorem TabOK.start (a c : Line) (ha : a.length ≤ 10) (hc : c.length ≤ 10) : TabOK a c ((List.replicate 144 (21 : Int)).set (a.length * 12 + c.length) 0) a.length (c.length + 1) := by
  refine ⟨by rw [List.length_set, List.length_replicate], fun p q hp hq => ?_⟩
  rw [atT_set (List.length_replicate ..) (by omega) (by omega) hp hq]
  by_cases e : p = a.length ∧ q = c.length
  · obtain ⟨rfl, rfl⟩ := e
    rw [if_pos ⟨rfl, rfl⟩, if_pos (by omega), List.drop_length, List.drop_length, distL_nil]; rfl
  · rw [if_neg e, if_neg (by omega)]
    unfold atT
    rw [List.getElem?_replicate, if_pos (by omega)]; rfl
/-- the whole table -/
def fullT (a c : Line) (p q : Nat) : Int := if p ≤ a.length ∧ q ≤ c.length then (distL (a.drop p) (c.drop q) : Int) else 21
theorem TabOK.full {a c : Line} {tb : List Int} (h : TabOK a c tb (-1) 0) {p q : Nat} (hp : p < 12) (hq : q < 12) : atT tb p q = fullT a c p q := by
  rw [h.at' p q hp hq]
  unfold fullT
  by_cases e : p ≤ a.length ∧ q ≤ c.length
  · rw [if_pos e, if_pos (by omega)]
  · rw [if_neg e, if_neg (by omega)]
end Go.Ev
namespace Go.Ev
open Go.Proofs
set_option maxRecDepth 100000
set_option linter.unusedSimpArgs false
attribute [local irreducible] Wp WpS
theorem freezeL_cl (H : Heap) : ∀ (l : List AV) (n : Nat), l.length < n → (∀ x ∈ l, (∃ y, x = .v y) ∨ ∃ s ys c, x = .vs s ys c) → freezeL H n l = some l
  | [], n, h, _ => by
    obtain ⟨n, rfl⟩ : ∃ k, n = k + 1 := ⟨n - 1, by omega⟩
    unfold freezeL; rfl
  | x :: r, n, h, hx => by
    obtain ⟨n, rfl⟩ : ∃ k, n = k + 1 := ⟨n - 1, by simp only [List.length_cons] at h; omega⟩
    simp only [List.length_cons] at h
    have ih := freezeL_cl H r n (by omega) fun y hy => hx y (List.mem_cons_of_mem _ hy)
    obtain ⟨n, rfl⟩ : ∃ k, n = k + 1 := ⟨n - 1, by omega⟩
    unfold freezeL
    have h1 : freezeV H (n + 1) x = some x := by
      rcases hx x (List.mem_cons_self ..) with ⟨y, rfl⟩ | ⟨s, ys, c, rfl⟩ <;> rfl
    rw [h1, ih]
theorem SlOf.closed {sz : Nat} {xs : List AV} {x : AV} (h : SlOf sz xs x) : (∃ y, x = .v y) ∨ ∃ s ys c, x = .vs s ys c := by
  rcases h with ⟨rfl, -⟩ | ⟨cap, rfl⟩
  · exact Or.inl ⟨_, rfl⟩
  · exact Or.inr ⟨_, _, _, rfl⟩
theorem freeze_prC {a c : Line} {lx ly : AV} (hl : SlOf 1 (strs a) lx) (hl2 : SlOf 1 (strs c) ly) {tb : List Int} (h : tb.length = 144) (H : Heap) : freezeV H 1000000 (.agg (prC lx ly tb)) = some (.agg (prC lx ly tb)) := by
  show (freezeL H 999999 (prC lx ly tb)).map AV.agg = _
  rw [freezeL_cl H (prC lx ly tb) 999999 (by rw [prC_len]; omega) fun x hx => ?_]
  · rfl
  · unfold prC at hx
    rcases List.mem_cons.1 hx with rfl | hx
    · exact hl.closed
    · rcases List.mem_cons.1 hx with rfl | hx
      · exact hl2.closed
      · obtain ⟨z, -, rfl⟩ := List.mem_map.1 hx
        exact Or.inl ⟨_, rfl⟩
def zT : List Int := List.replicate 144 0
theorem zero104 : zeroT Try.prog 124 = some (.agg (prC (.v (.slice none 0 0)) (.v (.slice none 0 0)) zT)) := zero_124
theorem spl_0 {xs cs : List AV} (h : xs.length = cs.length) : splice 0 xs cs = xs := by
  unfold splice; rw [List.take_zero, List.nil_append, Nat.zero_add, h, List.drop_length, List.append_nil]
theorem build104 {x y : AV} (hx : x.cells = [x]) (hy : y.cells = [y]) : buildA Try.prog 124 [(0, x), (1, y)] = some (.agg (prC x y zT)) := by
  rw [build_124]
  simp only [fillA_cons, List.getElem?_cons_zero, List.getElem?_cons_succ, fill1_some, hx, hy, List.length_cons, List.length_nil]
  rfl
theorem prC_part (lx ly : AV) {tb : List Int} (h : tb.length = 144) : ((prC lx ly tb).drop 0).take 146 = prC lx ly tb := by
  rw [List.drop_zero, List.take_of_length_le (by rw [prC_len]; omega)]
structure MPy (H : Heap) (lx ly : AV) (a c : Line) (tb : List Int) : Prop where
  lock : H.lock = 0
  size : H.size = 2
  zero : H.get 0 = some (.cells 0 0 124 1 false (prC (.v (.slice none 0 0)) (.v (.slice none 0 0)) zT))
  pr : PrH H 1 lx ly a c tb
def startT (a c : Line) : List Int := (List.replicate 144 (21 : Int)).set (a.length * 12 + c.length) 0
theorem prC_bound {a c : Line} {lx ly : AV} (hl : SlOf 1 (strs a) lx) (hl2 : SlOf 1 (strs c) ly) (tb : List Int) : boundL (prC lx ly tb) = 0 := by
  unfold prC
  rw [boundL_cons, boundL_cons, hl.bound, hl2.bound]
  have : boundL (tb.map intA) = 0 := by
    induction tb with
    | nil => rfl
    | cons x r ih => rw [List.map_cons, boundL_cons, ih]; rfl
  rw [this]; rfl
set_option maxHeartbeats 4000000 in
theorem ans73 {e : Exts} (he : Quiet e) (a c : Line) (lx ly : AV) (hl : SlOf 1 (strs a) lx) (hl2 : SlOf 1 (strs c) ly) (ha : a.length ≤ 10) (hc : c.length ≤ 10) : ∃ tb, TabOK a c tb (-1) 0 ∧ Ans (Cx e) 90 [lx, ly] (.agg (prC lx ly tb)) := by
  have key : ∃ v, (∃ tb, TabOK a c tb (-1) 0 ∧ v = .agg (prC lx ly tb)) ∧ Ans (Cx e) 90 [lx, ly] v := by
    refine ans_of_P ?_
    have hz : zT.length = 144 := List.length_replicate ..
    have f0 := prC_cells (.v (.slice none 0 0)) (.v (.slice none 0 0)) zT rfl rfl
    have f1 := prC_cells lx ly zT hl.flat hl2.flat
    have n1 : (prC lx ly zT).length = 146 := by rw [prC_len, hz]
    have n0 : (prC (.v (.slice none 0 0)) (.v (.slice none 0 0)) zT).length = 146 := by rw [prC_len, hz]
    have b1 := prC_bound hl hl2 zT
    have d0 : (prC (.v (.slice none 0 0)) (.v (.slice none 0 0)) zT).drop 146 = [] := List.drop_of_length_le (by omega)
    rw [fn_step (fn_90 e) (show Try.f90.body = some _ from rfl)]
    simp -implicitDefEqProofs only [Try.f90, go_sem, ↓reduceIte, Int.reduceEq, Int.reduceLT, Int.reduceLE, List.reduceReplicate, intA, setT_nil, setT_cons, ↓boolP_bool, ↓iteB_true, ↓iteB_false, zero104, build104 hl.cells hl2.cells, f0, f1, n0, n1, b1, d0]
    refine Lp_rule (P := fun μ a' H => ∃ p : Nat, p + μ = 12 ∧ a' = ⟨49, [(0, lx), (1, ly), (4, .ptr 0 0 0), (5, .ptr 1 0 0), (13, intA p)], []⟩ ∧ H = ⟨[some (.cells 0 0 124 1 false (prC (.v (.slice none 0 0)) (.v (.slice none 0 0)) zT)), some (.cells 0 0 124 1 false (prC lx ly (tab0N (p * 12))))], 0⟩) ?_ 12 _ _ ⟨0, by omega, rfl, rfl⟩
    rintro μ _ _ ⟨p, hp, rfl, rfl⟩
    by_cases hlt : (p : Int) < 12
    · have hw := wrap_succ p (by omega)
      simp -implicitDefEqProofs only [go_sem, ↓reduceIte, Int.reduceEq, Int.reduceLT, Int.reduceLE, List.reduceReplicate, intA, setT_nil, setT_cons, ↓boolP_bool, ↓iteB_true, ↓iteB_false, hlt]
      refine Lp_rule (P := fun μ a' H => ∃ q : Nat, q + μ = 12 ∧ a' = ⟨49, [(0, lx), (1, ly), (4, .ptr 0 0 0), (5, .ptr 1 0 0), (13, intA p), (14, .v (.bool true)), (6, intA p), (16, intA q)], []⟩ ∧ H = ⟨[some (.cells 0 0 124 1 false (prC (.v (.slice none 0 0)) (.v (.slice none 0 0)) zT)), some (.cells 0 0 124 1 false (prC lx ly (tab0N (p * 12 + q))))], 0⟩) ?_ 12 _ _ ⟨0, by omega, rfl, rfl⟩
      rintro μ2 _ _ ⟨q, hq, rfl, rfl⟩
      by_cases hltq : (q : Int) < 12
      · have hwq := wrap_succ q (by omega)
        have rI := fun v k => arP 1 v k 12 12 p (by omega)
        have rJ := fun v k => arP 1 v k 12 1 q (by omega)
        have hle : 2 + p * 12 + q + 1 ≤ (prC lx ly (tab0N (p * 12 + q))).length := by rw [prC_len, tab0_len (by omega)]; omega
        have hsp : (prC lx ly (tab0N (p * 12 + q))).take (2 + p * 12 + q) ++ [AV.v (.int .i64 21)] ++ (prC lx ly (tab0N (p * 12 + q))).drop (2 + p * 12 + q + 1) = prC lx ly (tab0N (p * 12 + q + 1)) := by
          show splice (2 + p * 12 + q) [AV.v (.int .i64 21)] (prC lx ly (tab0N (p * 12 + q))) = _
          rw [Nat.add_assoc, prC_set lx ly (by rw [tab0_len (by omega)]; omega), tab0_set (by omega)]
        simp -implicitDefEqProofs only [go_sem, ↓reduceIte, Int.reduceEq, Int.reduceLT, Int.reduceLE, List.reduceReplicate, intA, setT_nil, setT_cons, ↓boolP_bool, ↓iteB_true, ↓iteB_false, hltq, rI, rJ, Nat.mul_one, Nat.zero_add, hle, hsp, hwq, trim_at]
        exact ⟨μ2 - 1, by omega, q + 1, by omega, rfl, rfl⟩
      · simp -implicitDefEqProofs only [go_sem, ↓reduceIte, Int.reduceEq, Int.reduceLT, Int.reduceLE, List.reduceReplicate, intA, setT_nil, setT_cons, ↓boolP_bool, ↓iteB_true, ↓iteB_false, hltq, hw, trim_at]
        obtain rfl : q = 12 := by omega
        exact ⟨μ - 1, by omega, p + 1, by omega, rfl, by rw [show p * 12 + 12 = (p + 1) * 12 by omega]⟩
    · obtain rfl : p = 12 := by omega
      have rI := fun v k => arP 1 v k 12 12 a.length (by omega)
      have rJ := fun v k => arP 1 v k 12 1 c.length (by omega)
      have hle : 2 + a.length * 12 + c.length + 1 ≤ (prC lx ly (tab0N 144)).length := by rw [prC_len, tab0_len (by omega)]; omega
      have hsp : (prC lx ly (tab0N 144)).take (2 + a.length * 12 + c.length) ++ [AV.v (.int .i64 0)] ++ (prC lx ly (tab0N 144)).drop (2 + a.length * 12 + c.length + 1) = prC lx ly (startT a c) := by
        show splice (2 + a.length * 12 + c.length) [AV.v (.int .i64 0)] (prC lx ly (tab0N 144)) = _
        rw [Nat.add_assoc, prC_set lx ly (by rw [tab0_len (by omega)]; omega), tab0_end]; rfl
      have hst : TabOK a c (startT a c) a.length (c.length + 1) := TabOK.start a c ha hc
      simp -implicitDefEqProofs only [go_sem, ↓reduceIte, Int.reduceEq, Int.reduceLT, Int.reduceLE, List.reduceReplicate, intA, setT_nil, setT_cons, ↓boolP_bool, ↓iteB_true, ↓iteB_false, hlt, hl.len, hl2.len, strs_len, trim_at, rI, rJ, Nat.mul_one, Nat.zero_add, hle, hsp]
      generalize startT a c = tb0 at hst
      refine Lp_rule (P := fun μ a' H => ∃ (R : Nat) (tb : List Int), R = μ ∧ R ≤ a.length + 1 ∧ a' = ⟨49, [(0, lx), (1, ly), (4, .ptr 0 0 0), (5, .ptr 1 0 0), (13, intA 12), (8, intA ((R : Int) - 1))], []⟩ ∧ MPy H lx ly a c tb ∧ TabOK a c tb ((R : Int) - 1) (c.length + 1)) ?_ (a.length + 1) _ _ ⟨a.length + 1, tb0, rfl, Nat.le_refl _, by rw [show ((a.length + 1 : Nat) : Int) - 1 = a.length by omega]; rfl, ⟨rfl, rfl, rfl, ⟨Nat.lt_succ_self 1, ⟨0, false, rfl⟩, hl, hl2, hst.len⟩⟩, by rw [show ((a.length + 1 : Nat) : Int) - 1 = a.length by omega]; exact hst⟩
      rintro μ _ H ⟨R, tb, rfl, hR, rfl, hM, hT⟩
      obtain ⟨m, g, hrow⟩ := hM.pr.row
      cases R with
      | zero =>
        have hneg : ¬ (0 : Int) ≤ ((0 : Nat) : Int) - 1 := by omega
        have hT0 : TabOK a c tb (-1) 0 := by
          have h1 : TabOK a c tb (-1) (c.length + 1) := hT
          refine ⟨h1.len, fun p q hp hq => ?_⟩
          rw [h1.at' p q hp hq]
          by_cases e : p ≤ a.length ∧ q ≤ c.length ∧ ((-1 : Int) < (p : Int) ∨ ((p : Int) = -1 ∧ c.length + 1 ≤ q) ∨ (p = a.length ∧ q = c.length))
          · rw [if_pos e, if_pos (by omega)]
          · rw [if_neg e, if_neg (by omega)]
        have hsz := hM.size
        have hl0 := hM.lock
        have hlen := hM.pr.len
        have hL : (prC lx ly tb).length = 146 := by rw [prC_len, hlen]
        have hpart : ∀ m g, rowPart Try.prog 124 0 (some (m, 124, 1, g, prC lx ly tb)) = some (.agg (prC lx ly tb)) := fun m g => by
          show partOf Try.prog 124 (prC lx ly tb) 0 = _
          rw [part_124, if_pos (by omega), prC_part lx ly hlen]
        have hsc : storeCells H 0 0 0 (prC lx ly tb) = some (H.put 0 (.cells 0 (Nat.max 0 0) 124 1 false (prC lx ly tb))) := by
          unfold storeCells
          rw [get_row hM.zero]
          simp only
          rw [if_pos ⟨by omega, by omega, prC_cells lx ly tb hl.flat hl2.flat⟩, spl_0 (by omega), prC_bound hl hl2]
        have hps : (H.put 0 (.cells 0 (Nat.max 0 0) 124 1 false (prC lx ly tb))).size = H.size := put_sizeI _ (by omega)
        have hset : settleH H.size (H.put 0 (.cells 0 (Nat.max 0 0) 124 1 false (prC lx ly tb))) = H.put 0 (.cells 0 (Nat.max 0 0) 124 1 false (prC lx ly tb)) := by rw [← hps, settle_same]
        have hrow0 : (H.put 0 (.cells 0 (Nat.max 0 0) 124 1 false (prC lx ly tb))).row 0 0 = some (Nat.max 0 0, 124, 1, false, prC lx ly tb) := row_put_same (by omega)
        simp -implicitDefEqProofs only [go_sem, ↓reduceIte, Int.reduceEq, Int.reduceLT, Int.reduceLE, List.reduceReplicate, intA, setT_nil, setT_cons, ↓boolP_bool, ↓iteB_true, ↓iteB_false, hneg]
        rw [hrow, hpart]
        simp only [bindO_some, cells_agg, hL, if_true, hsc, hset, hrow0, hpart, consO_some, oneOf_one]
        exact ⟨_, ⟨tb, hT0, rfl⟩, freeze_prC hl hl2 hlen _⟩
      | succ i =>
        have hpos : (0 : Int) ≤ ((i + 1 : Nat) : Int) - 1 := by omega
        have hii : ((i + 1 : Nat) : Int) - 1 = (i : Int) := by omega
        rw [hii] at hT hpos ⊢
        simp -implicitDefEqProofs only [go_sem, ↓reduceIte, Int.reduceEq, Int.reduceLT, Int.reduceLE, List.reduceReplicate, intA, setT_nil, setT_cons, ↓boolP_bool, ↓iteB_true, ↓iteB_false, hpos, hl2.len, strs_len]
        refine Lp_rule (P := fun μ a' H => ∃ (r : Nat) (tb : List Int), r = μ ∧ r ≤ c.length + 1 ∧ a' = ⟨49, [(0, lx), (1, ly), (4, .ptr 0 0 0), (5, .ptr 1 0 0), (13, .v (.int .i64 12)), (8, intA i), (36, .v (.bool true)), (9, intA ((r : Int) - 1))], []⟩ ∧ MPy H lx ly a c tb ∧ TabOK a c tb i r) ?_ (c.length + 1) _ _ ⟨c.length + 1, tb, rfl, Nat.le_refl _, by rw [show ((c.length + 1 : Nat) : Int) - 1 = c.length by omega]; rfl, hM, hT⟩
        rintro μ2 _ G ⟨r, tb2, rfl, hr, rfl, hM2, hT2⟩
        have hG := hM2.size
        have hwi : IntKind.i64.wrap ((i : Int) - 1) = (i : Int) - 1 := wrap_in _ (by omega) (by omega)
        cases r with
        | zero =>
          have hneg : ¬ (0 : Int) ≤ ((0 : Nat) : Int) - 1 := by omega
          simp -implicitDefEqProofs only [go_sem, ↓reduceIte, Int.reduceEq, Int.reduceLT, Int.reduceLE, List.reduceReplicate, intA, setT_nil, setT_cons, ↓boolP_bool, ↓iteB_true, ↓iteB_false, hneg, hwi]
          rw [trim_whole (by rw [hM.size, hG]; exact Nat.le_refl _)]
          refine ⟨i, Nat.lt_succ_self i, i, tb2, rfl, by omega, rfl, hM2, TabOK.next ?_⟩
          rw [show (i : Int) - 1 + 1 = i by omega]; exact hT2
        | succ q =>
          have hpq : (0 : Int) ≤ ((q + 1 : Nat) : Int) - 1 := by omega
          have hqq : ((q + 1 : Nat) : Int) - 1 = (q : Int) := by omega
          have hwq : IntKind.i64.wrap ((q : Int) - 1) = (q : Int) - 1 := wrap_in _ (by omega) (by omega)
          rw [hqq] at hpq ⊢
          obtain ⟨Y, h92, hY1, hY2, hY3, hY4⟩ : ∃ Y, (∀ (me : FuncId) (d : Option Tmp), callA (Cx e) (lim (Cx e)) me 108 d [.ptr 1 0 0, .v (.int .i64 i), .v (.int .i64 q)] G = some (.tup [], Y)) ∧ PrH Y 1 lx ly a c (fillT a c tb2 i q) ∧ Y.size = G.size ∧ Y.lock = G.lock ∧ ∀ b', b' ≠ 1 → Y.get b' = G.get b' :=
            call92 he hM2.pr (by rw [hM2.lock]; omega) i q (by omega) (by omega) ha hc (hT2.small ha hc)
          simp -implicitDefEqProofs only [go_sem, ↓reduceIte, Int.reduceEq, Int.reduceLT, Int.reduceLE, List.reduceReplicate, intA, setT_nil, setT_cons, ↓boolP_bool, ↓iteB_true, ↓iteB_false, hpq, h92, hwq]
          rw [← hY2, settle_size, trim_whole (Nat.le_refl _)]
          exact ⟨q, Nat.lt_succ_self q, q, _, rfl, by omega, rfl, ⟨hY3.trans hM2.lock, hY2.trans hG, (hY4 0 (by decide)).trans hM2.zero, hY1⟩, hT2.fill ha hc (by omega) (by omega)⟩
  obtain ⟨v, ⟨tb, h1, rfl⟩, h2⟩ := key
  exact ⟨tb, h1, h2⟩
end Go.Ev
namespace Go.Ev
open Go.Proofs
set_option maxRecDepth 100000
set_option linter.unusedSimpArgs false
attribute [local irreducible] Wp WpS
theorem mm2 (x y : Int) : minmaxA false (.v (.int .i64 x)) [.v (.int .i64 y)] = some (.v (.int .i64 (min x y))) := by
  unfold minmaxA minmax2
  simp only [Bool.false_eq_true, if_false]
  by_cases h : y < x
  · simp [h, Int.min_def, minmaxA]; try omega
  · simp [h, Int.min_def, minmaxA]; try omega
def kindT (tb : List Int) (i j : Nat) : Int := if atT tb (i + 1) (j + 1) ≤ min (atT tb (i + 1) j) (atT tb i (j + 1)) then 3 else if atT tb (i + 1) j ≤ atT tb i (j + 1) then 1 else 2
set_option maxHeartbeats 4000000 in
theorem fn75 {e : Exts} {X : Heap} {b : Nat} {lx ly : AV} {a c : Line} {tb : List Int} (h : PrH X b lx ly a c tb) (i j : Nat) (hi : i < 11) (hj : j < 11) : Fn' (Cx e) 92 [.ptr b 0 0, intA i, intA j] X (fun v _ => v = .v (.int .u8 (kindT tb i j))) := by
  obtain ⟨N, hN⟩ : ∃ N, X.size = N := ⟨_, rfl⟩
  obtain ⟨m, g, hr0⟩ := h.row
  have hb := h.lt
  have hr : ∀ E, (X.plus E).row b 0 = some (m, 124, 1, g, prC lx ly tb) := fun E => by rw [rowLo hb]; exact hr0
  have hlt : ltB b N = true := by unfold ltB; simp; omega
  have hlen := h.len
  have hw1 := wrap_succ i (by omega)
  have hw2 := wrap_succ j (by omega)
  have pA := prT lx ly hlen (i := i + 1) (j := j + 1) (by omega) (by omega)
  have pB := prT lx ly hlen (i := i + 1) (j := j) (by omega) (by omega)
  have pC := prT lx ly hlen (i := i) (j := j + 1) (by omega) (by omega)
  have rI := fun v k => arP b v k 12 12 i (by omega)
  have rI1 := fun v k => arP b v k 12 12 (i + 1) (by omega)
  have rJ := fun v k => arP b v k 12 1 j (by omega)
  have rJ1 := fun v k => arP b v k 12 1 (j + 1) (by omega)
  rw [fn_step (fn_92 e) (show Try.f92.body = some _ from rfl), ← plus_nil X]
  simp -implicitDefEqProofs only [Try.f92, go_sem, ↓reduceIte, Int.reduceEq, Int.reduceLT, Int.reduceLE, List.reduceReplicate, intA, setT_nil, setT_cons, ↓boolP_bool, ↓iteB_true, ↓iteB_false, sizeP hN, settleP0 hN, settleP hN, List.length_nil, Nat.add_zero]
  refine wp_drawX [([], [], false), ([], [], false), ([], [], false), ([], [], false), ([], [], false), ([], [], false), ([], [], false), ([], [], false), ([], [], false), ([], [], false), ([], [], false), ([], [], false), ([], [], false), ([], [], false), ([], [], false), ([], [], false), ([], [], false), ([], [], false), ([9], [], false), ([], [], false), ([], [], false), ([], [], false), ([], [], false), ([], [], false), ([], [], false), ([], [], false), ([], [], false), ([9, 18], [], false), ([], [], false), ([], [], false), ([], [], false)] (by kernel_rfl) (by kernel_rfl) ?_
  by_cases k1 : atT tb (i + 1) (j + 1) ≤ min (atT tb (i + 1) j) (atT tb i (j + 1))
  · have hk : kindT tb i j = 3 := by unfold kindT; rw [if_pos k1]
    simp -implicitDefEqProofs only [go_sem, ↓reduceIte, Int.reduceEq, Int.reduceLT, Int.reduceLE, List.reduceReplicate, intA, setT_nil, setT_cons, ↓boolP_bool, ↓iteB_true, ↓iteB_false, hr, hlt, rI, rI1, rJ, rJ1, Nat.mul_one, Nat.zero_add, pA, pB, pC, mm2, hw1, hw2, k1, sizeP hN, settleP0 hN, settleP hN, List.length_nil, Nat.add_zero]
    rw [hk]; rfl
  · by_cases k2 : atT tb (i + 1) j ≤ atT tb i (j + 1)
    · have hk : kindT tb i j = 1 := by unfold kindT; rw [if_neg k1, if_pos k2]
      simp -implicitDefEqProofs only [go_sem, ↓reduceIte, Int.reduceEq, Int.reduceLT, Int.reduceLE, List.reduceReplicate, intA, setT_nil, setT_cons, ↓boolP_bool, ↓iteB_true, ↓iteB_false, hr, hlt, rI, rI1, rJ, rJ1, Nat.mul_one, Nat.zero_add, pA, pB, pC, mm2, hw1, hw2, k1, k2, sizeP hN, settleP0 hN, settleP hN, List.length_nil, Nat.add_zero]
      rw [hk]; rfl
    · have hk : kindT tb i j = 2 := by unfold kindT; rw [if_neg k1, if_neg k2]
      simp -implicitDefEqProofs only [go_sem, ↓reduceIte, Int.reduceEq, Int.reduceLT, Int.reduceLE, List.reduceReplicate, intA, setT_nil, setT_cons, ↓boolP_bool, ↓iteB_true, ↓iteB_false, hr, hlt, rI, rI1, rJ, rJ1, Nat.mul_one, Nat.zero_add, pA, pB, pC, mm2, hw1, hw2, k1, k2, sizeP hN, settleP0 hN, settleP hN, List.length_nil, Nat.add_zero]
      rw [hk]; rfl
theorem callP75 {e : Exts} (he : Quiet e) {X : Heap} {b : Nat} {lx ly : AV} {a c : Line} {tb : List Int} (h : PrH X b lx ly a c tb) (i j : Nat) (hi : i < 11) (hj : j < 11) (me : FuncId) (d : Option Tmp) : callA (Cx e) (lim (Cx e)) me 92 d [.ptr b 0 0, .v (.int .i64 i), .v (.int .i64 j)] X = some (.v (.int .u8 (kindT tb i j)), X) := by
  refine callA_still (ext_92 he) (pure_92 _ _ _) rfl (fun h0 => ?_) (fn75 (h.lock _) i j hi hj)
  have : Nat.max (b + 1) (Nat.max 0 (Nat.max 0 0)) = 0 := h0
  have h1 := Nat.le_max_left (b + 1) (Nat.max 0 (Nat.max 0 0))
  have h2 : b + 1 ≤ 0 := this ▸ h1
  omega
end Go.Ev
namespace Go.Ev
open Go.Proofs
set_option maxRecDepth 100000
set_option linter.unusedSimpArgs false
attribute [local irreducible] Wp WpS
/-- readings so far, and where they lie -/
def DoneF (H : Heap) (fs : List Rd) (out : AV) : Prop :=
  (fs = [] ∧ out = .v (.slice none 0 0)) ∨ ∃ b v, H.lock ≤ b ∧ b < H.size ∧ out = .sl b v 0 fs.length none ∧ H.row b v = some (0, 108, 5, true, rdCells fs) ∧ fs ≠ []
structure M53 (H : Heap) (L b : Nat) (lx ly : AV) (a c : Line) (tb : List Int) (k n : Int) (fs : List Rd) (out : AV) : Prop where
  lock : H.lock = L
  size : L + 1 ≤ H.size
  lt : b < L
  place : ∃ w m, H.get L = some (.cells 0 m 26 1 false [.v (.int .i64 k), .v (.int .i64 n), .v (.int .i64 w)])
  pr : PrH H b lx ly a c tb
  done : DoneF H fs out
theorem M53.plus {H : Heap} {L b : Nat} {lx ly : AV} {a c : Line} {tb : List Int} {k n : Int} {fs : List Rd} {out : AV} (h : M53 H L b lx ly a c tb k n fs out) (E : List (Option AObj)) : M53 (H.plus E) L b lx ly a c tb k n fs out := by
  obtain ⟨w, m, hp⟩ := h.place
  refine ⟨h.lock, by have := h.size; rw [plus_size]; omega, h.lt, ⟨w, m, (plus_get E (by have := h.size; omega)).trans hp⟩, h.pr.plus E, ?_⟩
  rcases h.done with hd | ⟨b', v, h1, h2, h3, h4, h5⟩
  · exact Or.inl hd
  · exact Or.inr ⟨b', v, h1, by rw [plus_size]; omega, h3, by rw [rowLo h2]; exact h4, h5⟩
theorem PrH.trim {X : Heap} {b : Nat} {lx ly : AV} {a c : Line} {tb : List Int} (h : PrH X b lx ly a c tb) {n : Nat} (hn : b < n) (vs : List AV) (ms : List Nat) : PrH (X.trim n vs ms) b lx ly a c tb := by
  obtain ⟨m, g, hr⟩ := h.row
  by_cases h2 : n ≤ X.size
  · exact ⟨Nat.lt_of_lt_of_le hn (trim_size' h2), ⟨m, g, get_row ((trim_lo hn).trans (row_of_get hr))⟩, h.left, h.right, h.len⟩
  · rw [trim_whole (by omega)]; exact h
theorem M53.trim {H : Heap} {L b : Nat} {lx ly : AV} {a c : Line} {tb : List Int} {k n : Int} {fs : List Rd} {out : AV} (h : M53 H L b lx ly a c tb k n fs out) {N : Nat} (hn : L + 1 ≤ N) (vs : List AV) (ms : List Nat) (hv : bound out ≤ boundL vs) : M53 (H.trim N vs ms) L b lx ly a c tb k n fs out := by
  by_cases hn2 : N ≤ H.size
  · obtain ⟨w, m, hp⟩ := h.place
    refine ⟨trim_lock.trans h.lock, Nat.le_trans hn (trim_size' hn2), h.lt, ⟨w, m, (trim_lo (by omega)).trans hp⟩, h.pr.trim (by have := h.lt; omega) vs ms, ?_⟩
    rcases h.done with hd | ⟨b', v, h1, h2, rfl, h4, hnn⟩
    · exact Or.inl hd
    · unfold Heap.trim
      split
      · rename_i hq
        rw [Bool.and_eq_true, Bool.and_eq_true, Bool.and_eq_true, Nat.ble_eq] at hq
        have h5 := hq.1.1.1
        have hb : b' < N := by simp only [bound] at hv; omega
        have hg := (takeH_get (H := H) hb).trans (row_of_get h4)
        exact Or.inr ⟨b', v, h1, get_size hg, rfl, get_row hg, hnn⟩
      · exact Or.inr ⟨b', v, h1, h2, rfl, h4, hnn⟩
  · rw [trim_whole (by omega)]; exact h
theorem M53.more {H : Heap} {L b : Nat} {lx ly : AV} {a c : Line} {tb : List Int} {k n : Int} {fs : List Rd} {b' v : Nat} (h : M53 H L b lx ly a c tb k n fs (.sl b' v 0 fs.length none)) (hb1 : H.lock ≤ b') (hb : b' < H.size) (hr : H.row b' v = some (0, 108, 5, true, rdCells fs)) (r : Rd) : M53 (H.put b' (.cells (v + 1) 0 108 5 true (rdCells (fs ++ [r])))) L b lx ly a c tb k n (fs ++ [r]) (.sl b' (v + 1) 0 (fs.length + 1) none) := by
  obtain ⟨w, m, hp⟩ := h.place
  obtain ⟨mb, gb, hrb⟩ := h.pr.row
  have hg := row_of_get hr
  have h1 : L ≠ b' := by
    rintro rfl
    rw [hp] at hg; simp at hg
  have h2 : b ≠ b' := by
    rintro rfl
    have := row_of_get hrb
    rw [this] at hg; simp at hg
  refine ⟨h.lock, by rw [put_sizeI _ hb]; exact h.size, h.lt, ⟨w, m, (put_get_ne _ (by omega) h1).trans hp⟩, ⟨by rw [put_sizeI _ hb]; exact h.pr.lt, ⟨mb, gb, get_row ((put_get_ne _ (by omega) h2).trans (row_of_get hrb))⟩, h.pr.left, h.pr.right, h.pr.len⟩, Or.inr ⟨b', v + 1, hb1, by rw [put_sizeI _ hb]; exact hb, by rw [List.length_append]; rfl, row_put_same hb, by simp⟩⟩
theorem M53.new {H : Heap} {L b : Nat} {lx ly : AV} {a c : Line} {tb : List Int} {k n : Int} {fs : List Rd} {out : AV} (h : M53 H L b lx ly a c tb k n fs out) {N : Nat} (hN : H.size = N) (E : List (Option AObj)) (q : Nat) (r : Rd) (hE : E[q]? = some (some (.cells 0 0 108 5 true (rdCells [r])))) : M53 (H.plus E) L b lx ly a c tb k n [r] (.sl (N + q) 0 0 1 none) := by
  have hk := (List.getElem?_eq_some_iff.1 hE).1
  have h1 := h.plus E
  refine ⟨h1.lock, h1.size, h1.lt, h1.place, h1.pr, Or.inr ⟨N + q, 0, ?_, by rw [plus_size]; omega, rfl, ?_, by simp⟩⟩
  · have := h.lock; have := h.size
    show H.lock ≤ _
    omega
  · rw [rowP hN, hE]; rfl
theorem M53.word {H : Heap} {L b : Nat} {lx ly : AV} {a c : Line} {tb : List Int} {k n : Int} {fs : List Rd} {out : AV} (h : M53 H L b lx ly a c tb k n fs out) (i : Int) : ∃ Z, (∀ E, storeCells (H.plus E) L 0 2 [.v (.int .i64 i)] = some (Z.plus E)) ∧ Z.size = H.size ∧ M53 Z L b lx ly a c tb k n fs out ∧ ∃ m, Z.row L 0 = some (m, 26, 1, false, [.v (.int .i64 k), .v (.int .i64 n), .v (.int .i64 i)]) := by
  obtain ⟨w, m, hp⟩ := h.place
  obtain ⟨mb, gb, hrb⟩ := h.pr.row
  have hsz := h.size
  have hLs : L < H.size := by omega
  have hbL := h.lt
  refine ⟨H.put L (.cells 0 (Nat.max m 0) 26 1 false [.v (.int .i64 k), .v (.int .i64 n), .v (.int .i64 i)]), fun E => ?_, put_sizeI _ hLs, ⟨h.lock, by rw [put_sizeI _ hLs]; exact h.size, h.lt, ⟨i, _, put_get_eq _ (by omega)⟩, ⟨by rw [put_sizeI _ hLs]; exact h.pr.lt, ⟨mb, gb, get_row ((put_get_ne _ (by omega) (by omega)).trans (row_of_get hrb))⟩, h.pr.left, h.pr.right, h.pr.len⟩, ?_⟩, _, row_put_same hLs⟩
  · rw [storeLoK (X := H) (b := L) (v := 0) (k := 2) hLs (by rw [h.lock]; exact Nat.le_refl _) (get_row hp) (by simp) rfl E]; rfl
  · rcases h.done with hd | ⟨b', v, h1, h2, rfl, h4, hnn⟩
    · exact Or.inl hd
    · have hne : b' ≠ L := by
        rintro rfl
        have := row_of_get h4
        rw [hp] at this; simp at this
      exact Or.inr ⟨b', v, h1, by rw [put_sizeI _ hLs]; exact h2, rfl, get_row ((put_get_ne _ (by omega) hne).trans (row_of_get h4)), hnn⟩
theorem freezeF {H : Heap} {fs : List Rd} {out : AV} (h : DoneF H fs out) {L : Nat} (hk : H.lock = L) : freezeV { H with lock := L } 1000000 out = some (ofV fs) := by
  rcases h with ⟨rfl, rfl⟩ | ⟨b, v, h1, h2, rfl, h4, hnn⟩
  · rfl
  · have hH : ({ H with lock := L } : Heap) = H := by cases H; simp only at hk; subst hk; rfl
    rw [hH]
    unfold freezeV
    simp only [h4]
    have hl := rdCells_len fs
    rw [if_neg (by omega), if_pos ⟨by omega, by omega⟩, if_pos trivial, List.drop_zero, List.take_of_length_le (by omega), chunk_rds]
    cases fs with
    | nil => exact absurd rfl hnn
    | cons r fs => rfl
theorem found_step {k n : Int} {a c : Line} {tb : List Int} (hT : TabOK a c tb (-1) 0) (ha : a.length ≤ 10) (hc : c.length ≤ 10) {i j : Nat} (hi : i ≤ a.length) (hj : j ≤ c.length) (hend : ¬ (i = a.length ∧ j = c.length)) :
    (sameB a c i j = true ∧ i < a.length ∧ j < c.length ∧ foundL k n i (a.drop i) (c.drop j) = foundL k n (i + 1) (a.drop (i + 1)) (c.drop (j + 1))) ∨
    (sameB a c i j = false ∧ kindT tb i j = 3 ∧ i < a.length ∧ ∃ y, c[j]? = some y ∧ foundL k n i (a.drop i) (c.drop j) = ⟨k, n, i, 3, y⟩ :: foundL k n (i + 1) (a.drop (i + 1)) (c.drop (j + 1))) ∨
    (sameB a c i j = false ∧ kindT tb i j = 1 ∧ i < a.length ∧ foundL k n i (a.drop i) (c.drop j) = ⟨k, n, i, 1, emp⟩ :: foundL k n (i + 1) (a.drop (i + 1)) (c.drop j)) ∨
    (sameB a c i j = false ∧ kindT tb i j = 2 ∧ ∃ y, c[j]? = some y ∧ foundL k n i (a.drop i) (c.drop j) = ⟨k, n, i, 2, y⟩ :: foundL k n i (a.drop i) (c.drop (j + 1))) := by
  have e1 := hT.full (p := i + 1) (q := j + 1) (by omega) (by omega)
  have e2 := hT.full (p := i + 1) (q := j) (by omega) (by omega)
  have e3 := hT.full (p := i) (q := j + 1) (by omega) (by omega)
  unfold fullT at e1 e2 e3
  have hkd : kindT tb i j = if atT tb (i + 1) (j + 1) ≤ min (atT tb (i + 1) j) (atT tb i (j + 1)) then 3 else if atT tb (i + 1) j ≤ atT tb i (j + 1) then 1 else 2 := rfl
  by_cases hil : i < a.length
  · obtain ⟨x, hx1, hx2⟩ := drop_at hil
    by_cases hjl : j < c.length
    · obtain ⟨y, hy1, hy2⟩ := drop_at hjl
      rw [if_pos (by omega)] at e1 e2 e3
      rw [sameB_some hx1 hy1, hx2, hy2]
      rw [e1, e2, e3] at hkd
      rw [hy2] at hkd
      rw [hx2] at hkd
      by_cases e : x = y
      · subst e
        exact Or.inl ⟨decide_eq_true rfl, hil, hjl, found_same ..⟩
      · right
        rw [decide_eq_false e]
        by_cases k1 : distL (a.drop (i + 1)) (c.drop (j + 1)) ≤ min (distL (a.drop (i + 1)) (y :: c.drop (j + 1))) (distL (x :: a.drop (i + 1)) (c.drop (j + 1)))
        · rw [if_pos (by omega)] at hkd
          exact Or.inl ⟨rfl, hkd, hil, y, hy1, found_other e k1⟩
        · rw [if_neg (by omega)] at hkd
          by_cases k2 : distL (a.drop (i + 1)) (y :: c.drop (j + 1)) ≤ distL (x :: a.drop (i + 1)) (c.drop (j + 1))
          · rw [if_pos (by omega)] at hkd
            exact Or.inr (Or.inl ⟨rfl, hkd, hil, found_leave e k1 k2⟩)
          · rw [if_neg (by omega)] at hkd
            exact Or.inr (Or.inr ⟨rfl, hkd, y, hy1, found_put e k1 k2⟩)
    · obtain rfl : j = c.length := by omega
      rw [if_neg (by omega)] at e1 e3
      rw [if_pos (by omega)] at e2
      rw [e1, e2, e3, List.drop_length, distL_nilr, List.length_drop] at hkd
      rw [if_neg (by omega), if_pos (by omega)] at hkd
      right; right; left
      rw [sameB_right (Nat.lt_irrefl _), hx2, List.drop_length]
      exact ⟨rfl, hkd, hil, found_left ..⟩
  · obtain rfl : i = a.length := by omega
    have hjl : j < c.length := by omega
    obtain ⟨y, hy1, hy2⟩ := drop_at hjl
    rw [if_neg (by omega)] at e1 e2
    rw [if_pos (by omega)] at e3
    rw [e1, e2, e3, List.drop_length, distL_nil, List.length_drop] at hkd
    rw [if_neg (by omega), if_neg (by omega)] at hkd
    right; right; right
    rw [sameB_left (Nat.lt_irrefl _), hy2, List.drop_length]
    exact ⟨rfl, hkd, y, hy1, found_right ..⟩
theorem fitsA5 : fitsA 48 1 = true := by decide
set_option maxHeartbeats 4000000 in
theorem fn53 {e : Exts} (he : Quiet e) {X : Heap} {b : Nat} {lx ly : AV} {a c : Line} {tb : List Int} (h : PrH X b lx ly a c tb) (hlk : X.lock = X.size) (ha : a.length ≤ 10) (hc : c.length ≤ 10) (hT : TabOK a c tb (-1) 0) (k n w : Int) : Fn' (Cx e) 65 [.ptr b 0 0, .agg [intA k, intA n, intA w]] X (fun v H' => freezeV { H' with lock := X.size } 1000000 v = some (ofV (foundL k n 0 a c))) := by
  obtain ⟨N, hN⟩ : ∃ N, X.size = N := ⟨_, rfl⟩
  have hlkN : X.lock ≤ N := by omega
  generalize hKK : (fun v H' => freezeV { H' with lock := X.size } 1000000 v = some (ofV (foundL k n 0 a c)) : PostO) = KK
  rw [fn_step (fn_65 e) (show Try.f65.body = some _ from rfl), ← plus_nil X]
  simp -implicitDefEqProofs only [Try.f65, go_sem, ↓reduceIte, Int.reduceEq, Int.reduceLT, Int.reduceLE, List.reduceReplicate, intA, setT_nil, setT_cons, ↓boolP_bool, ↓iteB_true, ↓iteB_false, sizeP hN, putP0 hN, putP hN, settleP0 hN, settleP hN, List.length_nil, Nat.add_zero]
  refine Lp_rule (P := fun μ a' H => ∃ (i j : Nat) (fs : List Rd) (out : AV), i ≤ a.length ∧ j ≤ c.length ∧ μ = (a.length - i) + (c.length - j) ∧ fs ++ foundL k n i (a.drop i) (c.drop j) = foundL k n 0 a c ∧ fs.length ≤ i + j ∧ a' = ⟨87, [(0, .ptr b 0 0), (1, .agg [.v (.int .i64 k), .v (.int .i64 n), .v (.int .i64 w)]), (3, .ptr N 0 0), (4, .v (.slice none 0 0)), (5, out), (6, intA i), (7, intA j)], []⟩ ∧ M53 H N b lx ly a c tb k n fs out) ?_ (a.length + c.length) _ _ ⟨0, 0, [], _, Nat.zero_le _, Nat.zero_le _, by omega, rfl, Nat.le_refl _, rfl, hlk.trans hN, by rw [plus_size]; simp; omega, by have := h.lt; omega, ⟨w, 0, by rw [plus_get_hi _ (by omega), hN, Nat.sub_self]; rfl⟩, h.plus _, Or.inl ⟨rfl, rfl⟩⟩
  rintro μ _ Y ⟨i, j, fs, out, hi, hj, rfl, hfs, hfl, rfl, hM⟩
  obtain ⟨N1, hN1⟩ : ∃ N1, Y.size = N1 := ⟨_, rfl⟩
  have hlk1 : Y.lock ≤ N1 := by have := hM.lock; have := hM.size; omega
  have hNN : N + 1 ≤ N1 := by have := hM.size; omega
  obtain ⟨mb, gb, hrb0⟩ := hM.pr.row
  have hblt := hM.pr.lt
  have hrb : ∀ E, (Y.plus E).row b 0 = some (mb, 124, 1, gb, prC lx ly tb) := fun E => by rw [rowLo hblt]; exact hrb0
  have hl := h.left
  have hl2 := h.right
  have hw1 := wrap_succ i (by omega)
  have hw2 := wrap_succ j (by omega)
  have h74 := fun me d E => callP74 he (hM.pr.plus E) i j me d
  rw [← plus_nil Y]
  by_cases hend : i = a.length ∧ j = c.length
  · have d1 : ((i : Int) < (a.length : Int)) = False := by simp; omega
    have d2 : ((j : Int) < (c.length : Int)) = False := by simp; omega
    simp -implicitDefEqProofs only [go_sem, ↓reduceIte, Int.reduceEq, Int.reduceLT, Int.reduceLE, List.reduceReplicate, intA, setT_nil, setT_cons, ↓boolP_bool, ↓iteB_true, ↓iteB_false, hrb, prC_0, prC_1, hl.len, hl2.len, strs_len, d1, d2, sizeP hN1, putP0 hN1, putP hN1, settleP0 hN1, settleP hN1, List.length_nil, Nat.add_zero]
    obtain ⟨rfl, rfl⟩ := hend
    have hM2 := (hM.plus []).trim hNN [AV.ptr b 0 0, .agg [.v (.int .i64 k), .v (.int .i64 n), .v (.int .i64 w)], .ptr N 0 0, .v (.slice none 0 0), out, .v (.int .i64 a.length), .v (.int .i64 c.length)] [] (le_boundL (by simp))
    rw [← hKK]
    show freezeV _ _ _ = _
    rw [hN]
    have hf : fs = foundL k n 0 a c := by rw [← hfs, List.drop_length, List.drop_length, found_nil, List.append_nil]
    rw [← hf]
    exact freezeF hM2.done hM2.lock
  · have hd1 : (i : Int) < (a.length : Int) ∨ ¬ (i : Int) < (a.length : Int) := Classical.em _
    obtain ⟨Z, hstZ, hZN, hMZ, mz, hzr0⟩ := hM.word i
    have hNZ : Z.size = N1 := hZN.trans hN1
    have hlkZ : Z.lock ≤ N1 := by have := hMZ.lock; omega
    have hzr : ∀ E, (Z.plus E).row N 0 = some (mz, 26, 1, false, [.v (.int .i64 k), .v (.int .i64 n), .v (.int .i64 i)]) := fun E => by rw [rowLo (by omega)]; exact hzr0
    obtain ⟨mb', gb', hrz0⟩ := hMZ.pr.row
    have hrz : ∀ E, (Z.plus E).row b 0 = some (mb', 124, 1, gb', prC lx ly tb) := fun E => by rw [rowLo (by omega)]; exact hrz0
    have hltN : ltB N N1 = true := by unfold ltB; simp; omega
    have hltb : ltB b N1 = true := by unfold ltB; have := hM.lt; simp; omega
    have h75 := fun me d E => callP75 he (hMZ.pr.plus E) i j (by omega) (by omega) me d
    rcases found_step (k := k) (n := n) hT ha hc hi hj hend with ⟨hs, hil, hjl, hfd⟩ | ⟨hs, hk, hil, y, hy, hfd⟩ | ⟨hs, hk, hil, hfd⟩ | ⟨hs, hk, y, hy, hfd⟩
    · have d1 : (i : Int) < (a.length : Int) := by omega
      rw [hs] at h74
      simp -implicitDefEqProofs only [go_sem, ↓reduceIte, Int.reduceEq, Int.reduceLT, Int.reduceLE, List.reduceReplicate, intA, setT_nil, setT_cons, ↓boolP_bool, ↓iteB_true, ↓iteB_false, hrb, prC_0, prC_1, hl.len, hl2.len, strs_len, d1, h74, hw1, hw2, sizeP hN1, putP0 hN1, putP hN1, settleP0 hN1, settleP hN1, List.length_nil, Nat.add_zero]
      exact ⟨(a.length - (i + 1)) + (c.length - (j + 1)), by omega, i + 1, j + 1, fs, out, by omega, by omega, rfl, by rw [← hfd]; exact hfs, by omega, rfl, (hM.plus _).trim hNN _ _ (le_boundL (by simp))⟩
    · have d1 : (i : Int) < (a.length : Int) := by omega
      have hjl : j < c.length := (List.getElem?_eq_some_iff.1 hy).1
      have hiy := hl2.idx (strs_get hy)
      rw [hs] at h74
      rw [hk] at h75
      simp -implicitDefEqProofs only [go_sem, ↓reduceIte, Int.reduceEq, Int.reduceLT, Int.reduceLE, List.reduceReplicate, intA, setT_nil, setT_cons, ↓boolP_bool, ↓iteB_true, ↓iteB_false, hrb, prC_0, prC_1, hl.len, hl2.len, strs_len, d1, h74, hstZ, h75, sizeP hN1, putP0 hN1, putP hN1, settleP0 hN1, settleP hN1, List.length_nil, Nat.add_zero, sizeP hNZ, putP0 hNZ, putP hNZ, settleP0 hNZ, settleP hNZ, rowP0 hNZ, rowP hNZ, storeP0 hNZ hlkZ, storeP hNZ hlkZ, List.length_nil, Nat.add_zero]
      refine wp_drawX [([], [], false), ([], [], false), ([], [], false), ([], [], false), ([], [], false), ([], [], false), ([1], [], false), ([], [], false), ([], [], false), ([1], [], false), ([], [], false), ([], [], false), ([], [11], false), ([], [], false)] (by kernel_rfl) (by kernel_rfl) ?_
      have hnxt : (fs ++ [⟨k, n, i, 3, y⟩]) ++ foundL k n (i + 1) (a.drop (i + 1)) (c.drop (j + 1)) = foundL k n 0 a c := by rw [hfd] at hfs; rw [← hfs, List.append_assoc]; rfl
      rcases hMZ.done with ⟨hd, ho⟩ | ⟨b', v, hb1, hb2, ho, hrow, hnn⟩
      · subst hd ho
        simp -implicitDefEqProofs only [go_sem, ↓reduceIte, Int.reduceEq, Int.reduceLT, Int.reduceLE, List.reduceReplicate, intA, setT_nil, setT_cons, ↓boolP_bool, ↓iteB_true, ↓iteB_false, hiy, hzr, hrz, prC_0, prC_1, hltN, hltb, hl2.objs, hw1, hw2, fitsA5, List.flatMap_cons, List.flatMap_nil, sizeP hNZ, putP0 hNZ, putP hNZ, settleP0 hNZ, settleP hNZ, rowP0 hNZ, rowP hNZ, storeP0 hNZ hlkZ, storeP hNZ hlkZ, List.length_nil, Nat.add_zero]
        exact ⟨(a.length - (i + 1)) + (c.length - (j + 1)), by omega, i + 1, j + 1, [⟨k, n, i, 3, y⟩], .sl (N1 + 12) 0 0 1 none, by omega, by omega, rfl, hnxt, by simp only [List.length_cons, List.length_nil]; omega, rfl, (hMZ.new hNZ _ 12 ⟨k, n, i, 3, y⟩ rfl).trim hNN _ _ (le_boundL (by simp))⟩
      · subst ho
        have hltb' : ltB b' N1 = true := by unfold ltB; simp; omega
        simp -implicitDefEqProofs only [go_sem, ↓reduceIte, Int.reduceEq, Int.reduceLT, Int.reduceLE, List.reduceReplicate, intA, setT_nil, setT_cons, ↓boolP_bool, ↓iteB_true, ↓iteB_false, hltb', hiy, hzr, hrz, prC_0, prC_1, hltN, hltb, hl2.objs, hw1, hw2, fitsA5, List.flatMap_cons, List.flatMap_nil, sizeP hNZ, putP0 hNZ, putP hNZ, settleP0 hNZ, settleP hNZ, rowP0 hNZ, rowP hNZ, storeP0 hNZ hlkZ, storeP hNZ hlkZ, List.length_nil, Nat.add_zero]
        have hrp : ∀ E, (Z.plus E).row b' v = some (0, 108, 5, true, rdCells fs) := fun E => by rw [rowLo hb2]; exact hrow
        have hf : fitsA 48 (fs.length + 1) = true := by unfold fitsA; exact decide_eq_true (by omega)
        have hmore := hMZ.more hb1 hb2 hrow ⟨k, n, i, 3, y⟩
        rw [appTo_own (m := 0) (e' := 108) (cs := rdCells fs) (hrp _) (by rw [rdCells_len]) hb1 hf (by omega) (by omega)]
        rw [putLo hb2, rdCells_append] at *
        change M53 (Z.put b' (.cells (v + 1) 0 108 5 true (rdCells fs ++ [.v (.int .i64 k), .v (.int .i64 n), .v (.int .i64 i), .v (.int .u8 3), .v (.string y)]))) _ _ _ _ _ _ _ _ _ _ _ at hmore
        have hNY : (Z.put b' (.cells (v + 1) 0 108 5 true (rdCells fs ++ [.v (.int .i64 k), .v (.int .i64 n), .v (.int .i64 i), .v (.int .u8 3), .v (.string y)]))).size = N1 := by rw [put_sizeI _ hb2]; exact hNZ
        change bindO (some (AV.sl b' (v + 1) 0 (fs.length + 1) none, (Z.put b' (.cells (v + 1) 0 108 5 true (rdCells fs ++ [.v (.int .i64 k), .v (.int .i64 n), .v (.int .i64 i), .v (.int .u8 3), .v (.string y)]))).plus _)) _
        generalize Z.put b' (.cells (v + 1) 0 108 5 true (rdCells fs ++ [.v (.int .i64 k), .v (.int .i64 n), .v (.int .i64 i), .v (.int .u8 3), .v (.string y)])) = Q at hmore hNY ⊢
        simp -implicitDefEqProofs only [go_sem, ↓reduceIte, Int.reduceEq, Int.reduceLT, Int.reduceLE, List.reduceReplicate, intA, setT_nil, setT_cons, ↓boolP_bool, ↓iteB_true, ↓iteB_false, hw1, hw2, sizeP hNY, settleP0 hNY, settleP hNY]
        exact ⟨(a.length - (i + 1)) + (c.length - (j + 1)), by omega, i + 1, j + 1, fs ++ [⟨k, n, i, 3, y⟩], .sl b' (v + 1) 0 (fs.length + 1) none, by omega, by omega, rfl, hnxt, by rw [List.length_append]; simp only [List.length_cons, List.length_nil]; omega, rfl, (hmore.plus _).trim hNN _ _ (le_boundL (by simp))⟩
    · have d1 : (i : Int) < (a.length : Int) := by omega
      rw [hs] at h74
      rw [hk] at h75
      have hnxt : (fs ++ [⟨k, n, i, 1, emp⟩]) ++ foundL k n (i + 1) (a.drop (i + 1)) (c.drop (j)) = foundL k n 0 a c := by rw [hfd] at hfs; rw [← hfs, List.append_assoc]; rfl
      rcases hMZ.done with ⟨hd, ho⟩ | ⟨b', v, hb1, hb2, ho, hrow, hnn⟩
      · subst hd ho
        simp -implicitDefEqProofs only [go_sem, ↓reduceIte, Int.reduceEq, Int.reduceLT, Int.reduceLE, List.reduceReplicate, intA, setT_nil, setT_cons, ↓boolP_bool, ↓iteB_true, ↓iteB_false, hzr, hrz, prC_0, prC_1, hltN, hltb, hl2.objs, hw1, hw2, fitsA5, List.flatMap_cons, List.flatMap_nil, hrb, hl.len, hl2.len, strs_len, d1, h74, hstZ, h75, sizeP hN1, settleP0 hN1, settleP hN1, sizeP hNZ, putP0 hNZ, putP hNZ, settleP0 hNZ, settleP hNZ, rowP0 hNZ, rowP hNZ, storeP0 hNZ hlkZ, storeP hNZ hlkZ, List.length_nil, Nat.add_zero]
        exact ⟨(a.length - (i + 1)) + (c.length - (j)), by omega, i + 1, j, [⟨k, n, i, 1, emp⟩], .sl (N1 + 0) 0 0 1 none, by omega, by omega, rfl, hnxt, by simp only [List.length_cons, List.length_nil]; omega, rfl, (hMZ.new hNZ _ 0 ⟨k, n, i, 1, emp⟩ rfl).trim hNN _ _ (le_boundL (by simp))⟩
      · subst ho
        have hltb' : ltB b' N1 = true := by unfold ltB; simp; omega
        simp -implicitDefEqProofs only [go_sem, ↓reduceIte, Int.reduceEq, Int.reduceLT, Int.reduceLE, List.reduceReplicate, intA, setT_nil, setT_cons, ↓boolP_bool, ↓iteB_true, ↓iteB_false, hltb', hzr, hrz, prC_0, prC_1, hltN, hltb, hl2.objs, hw1, hw2, fitsA5, List.flatMap_cons, List.flatMap_nil, hrb, hl.len, hl2.len, strs_len, d1, h74, hstZ, h75, sizeP hN1, settleP0 hN1, settleP hN1, sizeP hNZ, putP0 hNZ, putP hNZ, settleP0 hNZ, settleP hNZ, rowP0 hNZ, rowP hNZ, storeP0 hNZ hlkZ, storeP hNZ hlkZ, List.length_nil, Nat.add_zero]
        have hrp : ∀ E, (Z.plus E).row b' v = some (0, 108, 5, true, rdCells fs) := fun E => by rw [rowLo hb2]; exact hrow
        have hf : fitsA 48 (fs.length + 1) = true := by unfold fitsA; exact decide_eq_true (by omega)
        have hmore := hMZ.more hb1 hb2 hrow ⟨k, n, i, 1, emp⟩
        rw [appTo_own (m := 0) (e' := 108) (cs := rdCells fs) (hrp _) (by rw [rdCells_len]) hb1 hf (by omega) (by omega)]
        rw [putLo hb2, rdCells_append] at *
        change M53 (Z.put b' (.cells (v + 1) 0 108 5 true (rdCells fs ++ [.v (.int .i64 k), .v (.int .i64 n), .v (.int .i64 i), .v (.int .u8 1), .v (.string emp)]))) _ _ _ _ _ _ _ _ _ _ _ at hmore
        have hNY : (Z.put b' (.cells (v + 1) 0 108 5 true (rdCells fs ++ [.v (.int .i64 k), .v (.int .i64 n), .v (.int .i64 i), .v (.int .u8 1), .v (.string emp)]))).size = N1 := by rw [put_sizeI _ hb2]; exact hNZ
        change bindO (some (AV.sl b' (v + 1) 0 (fs.length + 1) none, (Z.put b' (.cells (v + 1) 0 108 5 true (rdCells fs ++ [.v (.int .i64 k), .v (.int .i64 n), .v (.int .i64 i), .v (.int .u8 1), .v (.string emp)]))).plus _)) _
        generalize Z.put b' (.cells (v + 1) 0 108 5 true (rdCells fs ++ [.v (.int .i64 k), .v (.int .i64 n), .v (.int .i64 i), .v (.int .u8 1), .v (.string emp)])) = Q at hmore hNY ⊢
        simp -implicitDefEqProofs only [go_sem, ↓reduceIte, Int.reduceEq, Int.reduceLT, Int.reduceLE, List.reduceReplicate, intA, setT_nil, setT_cons, ↓boolP_bool, ↓iteB_true, ↓iteB_false, hw1, hw2, sizeP hNY, settleP0 hNY, settleP hNY]
        exact ⟨(a.length - (i + 1)) + (c.length - (j)), by omega, i + 1, j, fs ++ [⟨k, n, i, 1, emp⟩], .sl b' (v + 1) 0 (fs.length + 1) none, by omega, by omega, rfl, hnxt, by rw [List.length_append]; simp only [List.length_cons, List.length_nil]; omega, rfl, (hmore.plus _).trim hNN _ _ (le_boundL (by simp))⟩
    · have hjl : j < c.length := (List.getElem?_eq_some_iff.1 hy).1
      have d2 : (j : Int) < (c.length : Int) := by omega
      have hiy := hl2.idx (strs_get hy)
      rw [hs] at h74
      rw [hk] at h75
      by_cases d1 : (i : Int) < (a.length : Int)
      · simp -implicitDefEqProofs only [go_sem, ↓reduceIte, Int.reduceEq, Int.reduceLT, Int.reduceLE, List.reduceReplicate, intA, setT_nil, setT_cons, ↓boolP_bool, ↓iteB_true, ↓iteB_false, hrb, prC_0, prC_1, hl.len, hl2.len, strs_len, d1, h74, hstZ, h75, sizeP hN1, putP0 hN1, putP hN1, settleP0 hN1, settleP hN1, List.length_nil, Nat.add_zero, sizeP hNZ, putP0 hNZ, putP hNZ, settleP0 hNZ, settleP hNZ, rowP0 hNZ, rowP hNZ, storeP0 hNZ hlkZ, storeP hNZ hlkZ, List.length_nil, Nat.add_zero]
        refine wp_drawX [([], [], false), ([], [], false), ([], [], false), ([], [], false), ([], [], false), ([], [], false), ([1], [], false), ([], [], false), ([], [], false), ([1], [], false), ([], [], false), ([], [], false), ([], [11], false), ([], [], false)] (by kernel_rfl) (by kernel_rfl) ?_
        have hnxt : (fs ++ [⟨k, n, i, 2, y⟩]) ++ foundL k n (i) (a.drop (i)) (c.drop (j + 1)) = foundL k n 0 a c := by rw [hfd] at hfs; rw [← hfs, List.append_assoc]; rfl
        rcases hMZ.done with ⟨hd, ho⟩ | ⟨b', v, hb1, hb2, ho, hrow, hnn⟩
        · subst hd ho
          simp -implicitDefEqProofs only [go_sem, ↓reduceIte, Int.reduceEq, Int.reduceLT, Int.reduceLE, List.reduceReplicate, intA, setT_nil, setT_cons, ↓boolP_bool, ↓iteB_true, ↓iteB_false, hiy, hzr, hrz, prC_0, prC_1, hltN, hltb, hl2.objs, hw1, hw2, fitsA5, List.flatMap_cons, List.flatMap_nil, sizeP hNZ, putP0 hNZ, putP hNZ, settleP0 hNZ, settleP hNZ, rowP0 hNZ, rowP hNZ, storeP0 hNZ hlkZ, storeP hNZ hlkZ, List.length_nil, Nat.add_zero]
          exact ⟨(a.length - (i)) + (c.length - (j + 1)), by omega, i, j + 1, [⟨k, n, i, 2, y⟩], .sl (N1 + 12) 0 0 1 none, by omega, by omega, rfl, hnxt, by simp only [List.length_cons, List.length_nil]; omega, rfl, (hMZ.new hNZ _ 12 ⟨k, n, i, 2, y⟩ rfl).trim hNN _ _ (le_boundL (by simp))⟩
        · subst ho
          have hltb' : ltB b' N1 = true := by unfold ltB; simp; omega
          simp -implicitDefEqProofs only [go_sem, ↓reduceIte, Int.reduceEq, Int.reduceLT, Int.reduceLE, List.reduceReplicate, intA, setT_nil, setT_cons, ↓boolP_bool, ↓iteB_true, ↓iteB_false, hltb', hiy, hzr, hrz, prC_0, prC_1, hltN, hltb, hl2.objs, hw1, hw2, fitsA5, List.flatMap_cons, List.flatMap_nil, sizeP hNZ, putP0 hNZ, putP hNZ, settleP0 hNZ, settleP hNZ, rowP0 hNZ, rowP hNZ, storeP0 hNZ hlkZ, storeP hNZ hlkZ, List.length_nil, Nat.add_zero]
          have hrp : ∀ E, (Z.plus E).row b' v = some (0, 108, 5, true, rdCells fs) := fun E => by rw [rowLo hb2]; exact hrow
          have hf : fitsA 48 (fs.length + 1) = true := by unfold fitsA; exact decide_eq_true (by omega)
          have hmore := hMZ.more hb1 hb2 hrow ⟨k, n, i, 2, y⟩
          rw [appTo_own (m := 0) (e' := 108) (cs := rdCells fs) (hrp _) (by rw [rdCells_len]) hb1 hf (by omega) (by omega)]
          rw [putLo hb2, rdCells_append] at *
          change M53 (Z.put b' (.cells (v + 1) 0 108 5 true (rdCells fs ++ [.v (.int .i64 k), .v (.int .i64 n), .v (.int .i64 i), .v (.int .u8 2), .v (.string y)]))) _ _ _ _ _ _ _ _ _ _ _ at hmore
          have hNY : (Z.put b' (.cells (v + 1) 0 108 5 true (rdCells fs ++ [.v (.int .i64 k), .v (.int .i64 n), .v (.int .i64 i), .v (.int .u8 2), .v (.string y)]))).size = N1 := by rw [put_sizeI _ hb2]; exact hNZ
          change bindO (some (AV.sl b' (v + 1) 0 (fs.length + 1) none, (Z.put b' (.cells (v + 1) 0 108 5 true (rdCells fs ++ [.v (.int .i64 k), .v (.int .i64 n), .v (.int .i64 i), .v (.int .u8 2), .v (.string y)]))).plus _)) _
          generalize Z.put b' (.cells (v + 1) 0 108 5 true (rdCells fs ++ [.v (.int .i64 k), .v (.int .i64 n), .v (.int .i64 i), .v (.int .u8 2), .v (.string y)])) = Q at hmore hNY ⊢
          simp -implicitDefEqProofs only [go_sem, ↓reduceIte, Int.reduceEq, Int.reduceLT, Int.reduceLE, List.reduceReplicate, intA, setT_nil, setT_cons, ↓boolP_bool, ↓iteB_true, ↓iteB_false, hw1, hw2, sizeP hNY, settleP0 hNY, settleP hNY]
          exact ⟨(a.length - (i)) + (c.length - (j + 1)), by omega, i, j + 1, fs ++ [⟨k, n, i, 2, y⟩], .sl b' (v + 1) 0 (fs.length + 1) none, by omega, by omega, rfl, hnxt, by rw [List.length_append]; simp only [List.length_cons, List.length_nil]; omega, rfl, (hmore.plus _).trim hNN _ _ (le_boundL (by simp))⟩
      · simp -implicitDefEqProofs only [go_sem, ↓reduceIte, Int.reduceEq, Int.reduceLT, Int.reduceLE, List.reduceReplicate, intA, setT_nil, setT_cons, ↓boolP_bool, ↓iteB_true, ↓iteB_false, hrb, prC_0, prC_1, hl.len, hl2.len, strs_len, d1, d2, h74, hstZ, h75, sizeP hN1, putP0 hN1, putP hN1, settleP0 hN1, settleP hN1, List.length_nil, Nat.add_zero, sizeP hNZ, putP0 hNZ, putP hNZ, settleP0 hNZ, settleP hNZ, rowP0 hNZ, rowP hNZ, storeP0 hNZ hlkZ, storeP hNZ hlkZ, List.length_nil, Nat.add_zero]
        refine wp_drawX [([], [], false), ([], [], false), ([], [], false), ([], [], false), ([], [], false), ([], [], false), ([1], [], false), ([], [], false), ([], [], false), ([1], [], false), ([], [], false), ([], [], false), ([], [11], false), ([], [], false)] (by kernel_rfl) (by kernel_rfl) ?_
        have hnxt : (fs ++ [⟨k, n, i, 2, y⟩]) ++ foundL k n (i) (a.drop (i)) (c.drop (j + 1)) = foundL k n 0 a c := by rw [hfd] at hfs; rw [← hfs, List.append_assoc]; rfl
        rcases hMZ.done with ⟨hd, ho⟩ | ⟨b', v, hb1, hb2, ho, hrow, hnn⟩
        · subst hd ho
          simp -implicitDefEqProofs only [go_sem, ↓reduceIte, Int.reduceEq, Int.reduceLT, Int.reduceLE, List.reduceReplicate, intA, setT_nil, setT_cons, ↓boolP_bool, ↓iteB_true, ↓iteB_false, hiy, hzr, hrz, prC_0, prC_1, hltN, hltb, hl2.objs, hw1, hw2, fitsA5, List.flatMap_cons, List.flatMap_nil, sizeP hNZ, putP0 hNZ, putP hNZ, settleP0 hNZ, settleP hNZ, rowP0 hNZ, rowP hNZ, storeP0 hNZ hlkZ, storeP hNZ hlkZ, List.length_nil, Nat.add_zero]
          exact ⟨(a.length - (i)) + (c.length - (j + 1)), by omega, i, j + 1, [⟨k, n, i, 2, y⟩], .sl (N1 + 12) 0 0 1 none, by omega, by omega, rfl, hnxt, by simp only [List.length_cons, List.length_nil]; omega, rfl, (hMZ.new hNZ _ 12 ⟨k, n, i, 2, y⟩ rfl).trim hNN _ _ (le_boundL (by simp))⟩
        · subst ho
          have hltb' : ltB b' N1 = true := by unfold ltB; simp; omega
          simp -implicitDefEqProofs only [go_sem, ↓reduceIte, Int.reduceEq, Int.reduceLT, Int.reduceLE, List.reduceReplicate, intA, setT_nil, setT_cons, ↓boolP_bool, ↓iteB_true, ↓iteB_false, hltb', hiy, hzr, hrz, prC_0, prC_1, hltN, hltb, hl2.objs, hw1, hw2, fitsA5, List.flatMap_cons, List.flatMap_nil, sizeP hNZ, putP0 hNZ, putP hNZ, settleP0 hNZ, settleP hNZ, rowP0 hNZ, rowP hNZ, storeP0 hNZ hlkZ, storeP hNZ hlkZ, List.length_nil, Nat.add_zero]
          have hrp : ∀ E, (Z.plus E).row b' v = some (0, 108, 5, true, rdCells fs) := fun E => by rw [rowLo hb2]; exact hrow
          have hf : fitsA 48 (fs.length + 1) = true := by unfold fitsA; exact decide_eq_true (by omega)
          have hmore := hMZ.more hb1 hb2 hrow ⟨k, n, i, 2, y⟩
          rw [appTo_own (m := 0) (e' := 108) (cs := rdCells fs) (hrp _) (by rw [rdCells_len]) hb1 hf (by omega) (by omega)]
          rw [putLo hb2, rdCells_append] at *
          change M53 (Z.put b' (.cells (v + 1) 0 108 5 true (rdCells fs ++ [.v (.int .i64 k), .v (.int .i64 n), .v (.int .i64 i), .v (.int .u8 2), .v (.string y)]))) _ _ _ _ _ _ _ _ _ _ _ at hmore
          have hNY : (Z.put b' (.cells (v + 1) 0 108 5 true (rdCells fs ++ [.v (.int .i64 k), .v (.int .i64 n), .v (.int .i64 i), .v (.int .u8 2), .v (.string y)]))).size = N1 := by rw [put_sizeI _ hb2]; exact hNZ
          change bindO (some (AV.sl b' (v + 1) 0 (fs.length + 1) none, (Z.put b' (.cells (v + 1) 0 108 5 true (rdCells fs ++ [.v (.int .i64 k), .v (.int .i64 n), .v (.int .i64 i), .v (.int .u8 2), .v (.string y)]))).plus _)) _
          generalize Z.put b' (.cells (v + 1) 0 108 5 true (rdCells fs ++ [.v (.int .i64 k), .v (.int .i64 n), .v (.int .i64 i), .v (.int .u8 2), .v (.string y)])) = Q at hmore hNY ⊢
          simp -implicitDefEqProofs only [go_sem, ↓reduceIte, Int.reduceEq, Int.reduceLT, Int.reduceLE, List.reduceReplicate, intA, setT_nil, setT_cons, ↓boolP_bool, ↓iteB_true, ↓iteB_false, hw1, hw2, sizeP hNY, settleP0 hNY, settleP hNY]
          exact ⟨(a.length - (i)) + (c.length - (j + 1)), by omega, i, j + 1, fs ++ [⟨k, n, i, 2, y⟩], .sl b' (v + 1) 0 (fs.length + 1) none, by omega, by omega, rfl, hnxt, by rw [List.length_append]; simp only [List.length_cons, List.length_nil]; omega, rfl, (hmore.plus _).trim hNN _ _ (le_boundL (by simp))⟩
end Go.Ev
namespace Go.Ev
open Go.Proofs
set_option maxRecDepth 100000
set_option linter.unusedSimpArgs false
/-- what hands over these things, where memory is like this -/
def YieldsF (C : Cfg) (f : FuncId) (cap : List AV) (items : List (List AV)) (F : Heap → Prop) : Prop :=
  ∀ (l : Nat) (S : Type) (hp : S → Heap) (stp : S → List AV → Bool × S) (ok : List AV → Prop) (live : S → Prop) (n : Nat), Src C l S hp stp ok live n → (∀ s, F (hp s)) → (∀ x ∈ items, ok x) →
    ∀ s E, live s → ∃ G, lim C (.call f ([.yld l] ++ cap) ((hp s).plus E)) = some (.ret (.tup []) ((hp (runIt stp items s).2).plus (E ++ G)))
section
variable {C : Cfg} {me : FuncId} {S : Type} {hb : S → Heap} {stp : S → List AV → AExit × S} {lv : S → Prop} {ok : List AV → Prop} {n0 : Nat}
theorem wp_rangeHF {F : Heap → Prop} {f : FuncId} {cap : List AV} {items : List (List AV)} (hy : YieldsF C f cap items F) {g : Operand} {ps : Array Tmp} {asg body : Code} {a : AAct} {H : Heap} {K : Post} (hg : a.eval g = some (.fn (.func f) [] cap))
    (hb : S → Heap) (stp : S → List AV → AExit × S) (lv : S → Prop) (ok : List AV → Prop) {n0 : Nat} (hsz : ∀ s, (hb s).size = n0) (hk : ∀ s, (hb s).lock ≤ n0) (hok : ∀ x ∈ items, ok x ∧ x.length = ps.size)
    (hlv : ∀ s x, lv s → ok x → (stp s x).1 = .normal → lv (stp s x).2)
    (hF : ∀ (s : S) (E : List (Option AObj)), F ((hb s).plus E))
    (hbody : ∀ (L L' : ALoop) s x E, L'.dfr = n0 → lv s → ok x → x.length = ps.size → Wp C me (some (n0 + 1)) asg ⟨a.size, setTmps a.size a.tmps (ps.toList.zip x), []⟩ ((hb s).plus (some .dfr :: some (.loop L) :: E)) (asK C me (n0 + 1) body hb L L' E s (stp s x)))
    (s0 : S) (h0 : lv s0) (hH : H = hb s0)
    (hK : ∀ G, AtK K (foldE stp items s0).1 ⟨a.size, a.tmps, n0 :: a.marks⟩ ((hb (foldE stp items s0).2).plus (some .dfr :: some .dead :: G))) :
    Wp C me none (.rangeFunc g ps asg body) a H K := by
  subst hH
  obtain ⟨G, hG⟩ := hy (n0 + 1) (S × AExit) _ _ _ _ _ (src_range (ps := ps) hsz hk hlv hbody) (fun q => hF q.1 _) hok (s0, .normal) [] ⟨h0, rfl⟩
  rw [run_range, plus_nil, List.nil_append] at hG
  have hcb := callB_yld (C := C) (me := me) (d := none) (l := n0 + 1) (by simp) hG
  generalize hp : foldE stp items s0 = p at hcb hK
  obtain ⟨G', hG'⟩ := trim_plus (H := hpR hb (busyL me a.size a.tmps ps asg body n0) (p.2, p.1)) [] G [.tup []] [] (n := (hpR hb (busyL me a.size a.tmps ps asg body n0) (s0, .normal)).size) (by unfold hpR; rw [plus_size, plus_size, hsz, hsz]; simp)
  rw [List.nil_append] at hG'
  rw [hG', List.nil_append] at hcb
  have hsize := hsz s0
  have hH2 : (hpR hb (busyL me a.size a.tmps ps asg body n0) (p.2, p.1)).plus G' = (hb p.2).plus (some .dfr :: some (.loop (busyL me a.size a.tmps ps asg body n0 (stateOf p.1) (pend p.1))) :: G') := by
    unfold hpR; rw [plus_plus]; rfl
  have hfin : ((hpR hb (busyL me a.size a.tmps ps asg body n0) (p.2, p.1)).plus G').put (n0 + 1) .dead = (hb p.2).plus (some .dfr :: some .dead :: G') := by
    rw [hH2, hput_at (hsz p.2)]
  refine wp_range0 (f := f) (first := []) (cap := cap) hg (v := .tup []) (H2 := (hpR hb (busyL me a.size a.tmps ps asg body n0) (p.2, p.1)).plus G') ?_ (r := busyL me a.size a.tmps ps asg body n0 (stateOf p.1) (pend p.1)) ?_ ?_ ?_ ?_
  · rw [hsize]
    have hh : hpR hb (busyL me a.size a.tmps ps asg body n0) (s0, .normal) = ((hb s0).put n0 .dfr).put (n0 + 1) (.loop { fn := me, state := .ready, pending := none, size := a.size, tmps := a.tmps, params := ps, assign := asg, body := body, dfr := n0 }) := by
      have h1 : (hb s0).put n0 .dfr = (hb s0).plus [some .dfr] := by rw [← hsz s0]; exact put_push _
      have h2 := plus_put_end (hsz s0) [some .dfr] (.loop (busyL me a.size a.tmps ps asg body n0 .ready none))
      rw [h1]
      exact h2.symm
    rw [← hh]; exact hcb
  · rw [hsize, hH2]; exact hget_at (hsz _) _ _
  · unfold busyL stateOf; cases p.1 <;> simp [pend]
  · rw [hsize]; rfl
  · rw [hsize]
    have := hK G'
    rw [← hfin] at this
    obtain ⟨e, s⟩ := p
    cases e with
    | normal => exact this
    | ret => exact this
    | exit i => exact this
end
theorem heap_eq {X Y : Heap} (hs : X.size = Y.size) (hl : X.lock = Y.lock) (hg : ∀ b, X.get b = Y.get b) : X = Y := by
  obtain ⟨l, k⟩ := X
  obtain ⟨l', k'⟩ := Y
  simp only at hl
  subst hl
  have hs : l.length = l'.length := hs
  congr 1
  apply List.ext_getElem?
  intro i
  have h := hg i
  unfold Heap.get at h
  simp only at h
  by_cases hi : i < l.length
  · rw [List.getElem?_eq_getElem hi, List.getElem?_eq_getElem (by omega)] at h ⊢
    simpa using h
  · rw [List.getElem?_eq_none_iff.2 (by omega), List.getElem?_eq_none_iff.2 (by omega)]
/-- memory that is like this up to there is this with something behind -/
theorem heap_tail {X Y : Heap} {E : List (Option AObj)} {n : Nat} (hn : X.size = n) (hl : Y.lock = X.lock) (hs : n + E.length ≤ Y.size) (hg : ∀ b, b < n + E.length → Y.get b = (X.plus E).get b) : ∃ E', E'.length = Y.size - (n + E.length) ∧ Y = X.plus (E ++ E') := by
  refine ⟨Y.objs.drop (n + E.length), by rw [List.length_drop]; rfl, ?_⟩
  have hlen : (Y.objs.drop (n + E.length)).length = Y.size - (n + E.length) := by rw [List.length_drop]; rfl
  refine heap_eq (by rw [plus_size, hn, List.length_append, hlen]; omega) (by rw [plus_lock]; exact hl) fun b => ?_
  by_cases hb : b < n + E.length
  · rw [hg b hb, ← plus_plus X E _, plus_get (H := X.plus E) _ (by rw [plus_size, hn]; exact hb)]
  · rw [← plus_plus X E _, plus_get_hi _ (by rw [plus_size, hn]; omega), plus_size, hn]
    unfold Heap.get
    rw [List.getElem?_drop, show n + E.length + (b - (n + E.length)) = b by omega]
theorem effV_yld {C : Cfg} {me : FuncId} {d : Option Tmp} {l : Nat} {S : Type} {hp : S → Heap} {stp : S → List AV → Bool × S} {ok : List AV → Prop} {live : S → Prop} {n base top : Nat} {cont : AV → Heap → Prop} (hsrc : Src C l S hp stp ok live n) (E0 E1 : List (Option AObj)) (s : S) (x : List AV) (hlv : live s) (hok : ok x)
    (hlk : (hp (stp s x).2).lock = (hp s).lock) (hb : base = n + E0.length) (ht : top = base + E1.length) (hcont : ∀ E', cont (.v (.bool (stp s x).1)) ((hp (stp s x).2).plus (E0 ++ E'))) : effV C me base top d (.yld l) x ((hp s).plus (E0 ++ E1)) cont := by
  refine ⟨rfl, fun Gh h1 h2 h3 => ?_⟩
  have hn := hsrc.size
  have hsz : Gh.size = n + E0.length + E1.length := by rw [h2, plus_size, hn, List.length_append]; omega
  obtain ⟨E', hE, rfl⟩ := heap_tail (X := hp s) (Y := Gh) (E := E0) (hn s) (by rw [h1, plus_lock]) (by omega) fun b hb' => by
    rw [h3 b (Or.inl (by omega)), ← plus_plus (hp s) E0 E1, plus_get _ (by rw [plus_size, hn]; omega)]
  obtain ⟨G, hG⟩ := hsrc.round s x (E0 ++ E') hlv hok
  refine ⟨.v (.bool (stp s x).1), (hp (stp s x).2).plus (E0 ++ E' ++ G), by unfold callX; simp only [hG], ?_, fun G' g1 g2 g3 _ => ?_⟩
  · rw [plus_size, plus_size, hn, hn]; simp only [List.length_append]; omega
  · have hs2 : G'.size = n + (E0 ++ E' ++ G).length := by rw [g2, plus_size, hn]
    obtain ⟨E2, -, rfl⟩ := heap_tail (X := hp (stp s x).2) (Y := G') (E := E0) (hn _) (by rw [g1, plus_lock, hlk]) (by rw [hs2]; simp only [List.length_append]; omega) fun b hb' => by
      rw [g3 b (Or.inl (by omega)), List.append_assoc, ← plus_plus (hp (stp s x).2) E0 (E' ++ G), plus_get _ (by rw [plus_size, hn]; omega)]
    exact hcont E2
end Go.Ev
namespace Go.Ev
open Go.Proofs
set_option maxRecDepth 100000
set_option linter.unusedSimpArgs false
attribute [local irreducible] Wp WpS
/-- memory in which the two texts lie */ -/
def F72 (b1 b2 : Nat) (ch ch2 : AV) (H : Heap) : Prop := H.lock = 0 ∧ H.row b1 0 = some (0, 89, 1, false, [ch]) ∧ H.row b2 0 = some (0, 24, 1, false, [ch2])
theorem F72.plus {b1 b2 : Nat} {ch ch2 : AV} {H : Heap} (h : F72 b1 b2 ch ch2 H) (E : List (Option AObj)) : F72 b1 b2 ch ch2 (H.plus E) := by
  obtain ⟨h0, h1, h2⟩ := h
  exact ⟨h0, by rw [rowLo (get_ltS (row_of_get h1))]; exact h1, by rw [rowLo (get_ltS (row_of_get h2))]; exact h2⟩
/-- what is handed over for a line -/
def pairI (tbf : Nat → Nat → List Int) (xf : Nat → Nat → AV) (x : List AV) : List AV := match x with
  | [.agg [.v (.int q i), .v (.int q' k), z], lx] => [.agg [.v (.int q i), .v (.int q' k), z], .agg (prC lx (xf i.toNat k.toNat) (tbf i.toNat k.toNat))]
  | _ => []
def stp72 (tbf : Nat → Nat → List Int) (xf : Nat → Nat → AV) {S : Type} (stp : S → List AV → Bool × S) (s : S) (x : List AV) : AExit × S := (if (stp s (pairI tbf xf x)).1 then .normal else .ret, (stp s (pairI tbf xf x)).2)
def Ok72 (ok : List AV → Prop) (tbf : Nat → Nat → List Int) (xf : Nat → Nat → AV) (e : Exts) (ch2 : AV) (x : List AV) : Prop := ∃ (i k : Nat) (lx : AV) (a c : Line), x = [placeA i k 0, lx] ∧ SlOf 1 (strs a) lx ∧ SlOf 1 (strs c) (xf i k) ∧ (tbf i k).length = 144 ∧ ok (pairI tbf xf x) ∧
  (∀ (me : FuncId) (d : Option Tmp), callI (Cx e) me 45 d [.agg [ch2], .agg [.v (.int .i64 i), .v (.int .i64 k), .v (.int .i64 0)]] = some (xf i k)) ∧
  ∀ (me : FuncId) (d : Option Tmp), callI (Cx e) me 90 d [lx, xf i k] = some (.agg (prC lx (xf i k) (tbf i k)))
theorem fold72 (tbf : Nat → Nat → List Int) (xf : Nat → Nat → AV) {S : Type} (stp : S → List AV → Bool × S) : ∀ (T : List (List AV)) (s : S), foldE (stp72 tbf xf stp) T s = (if (runIt stp (T.map (pairI tbf xf)) s).1 then .normal else .ret, (runIt stp (T.map (pairI tbf xf)) s).2)
  | [], s => rfl
  | x :: r, s => by
    rw [List.map_cons, runIt_cons]
    have ih := fold72 tbf xf stp r (stp s (pairI tbf xf x)).2
    cases hq : (stp s (pairI tbf xf x)).1 with
    | true =>
      rw [foldE_go (by unfold stp72; simp only [hq, if_true]), if_pos rfl]
      exact ih
    | false =>
      rw [foldE_out (by unfold stp72; simp only [hq]; intro h; cases h)]
      unfold stp72
      simp only [hq, Bool.false_eq_true, if_false]
set_option maxHeartbeats 4000000 in
theorem yields72 {e : Exts} (he : Quiet e) (ch : AV) (xs : List AV) (hch : SlOf 2 xs ch) (hall : ∀ y ∈ xs, OkCh y) (hlen : xs.length < 2 ^ 63) (ch2 : AV) (b1 b2 : Nat) (tbf : Nat → Nat → List Int) (xf : Nat → Nat → AV)
    (hcall : ∀ x ∈ chapIts 0 xs, Ok72 (fun _ => True) tbf xf e ch2 x) : YieldsF (Cx e) 89 [.ptr b1 0 0, .ptr b2 0 0] ((chapIts 0 xs).map (pairI tbf xf)) (F72 b1 b2 ch ch2) := by
  intro l S hp stp ok live n hsrc hF hok s E hlv
  have hn := hsrc.size
  have hlk : ∀ s, (hp s).lock = 0 := fun s => (hF s).1
  have key : Fn' (Cx e) 89 [.yld l, .ptr b1 0 0, .ptr b2 0 0] ((hp s).plus E) fun v H' => v = .tup [] ∧ ∃ G, H' = (hp (runIt stp ((chapIts 0 xs).map (pairI tbf xf)) s).2).plus (E ++ G) := by
    have hN : ((hp s).plus E).size = n + E.length := by rw [plus_size, hn]
    have hlkN : ((hp s).plus E).lock ≤ n + E.length := by rw [plus_lock, hlk]; omega
    generalize hKK : (fun v H' => v = .tup [] ∧ ∃ G, H' = (hp (runIt stp ((chapIts 0 xs).map (pairI tbf xf)) s).2).plus (E ++ G) : PostO) = KK
    have hr1 : ∀ s E, ((hp s).plus E).row b1 0 = some (0, 89, 1, false, [ch]) := fun s E => ((hF s).plus E).2.1
    have hr2 : ∀ s E, ((hp s).plus E).row b2 0 = some (0, 24, 1, false, [ch2]) := fun s E => ((hF s).plus E).2.2
    have hrX : ∀ F, (((hp s).plus E).plus F).row b1 0 = some (0, 89, 1, false, [ch]) := fun F => by rw [plus_plus]; exact hr1 s _
    obtain ⟨X, hX⟩ : ∃ X, (hp s).plus E = X := ⟨_, rfl⟩
    rw [hX] at hN hlkN hrX ⊢
    rw [fn_step (fn_89 e) (show Try.f89.body = some _ from rfl), ← plus_nil X]
    simp -implicitDefEqProofs only [Try.f89, go_sem, ↓reduceIte, Int.reduceEq, Int.reduceLT, Int.reduceLE, List.reduceReplicate, intA, setT_nil, setT_cons, ↓boolP_bool, ↓iteB_true, ↓iteB_false, sizeP hN, putP0 hN, putP hN, settleP0 hN, settleP hN, rowP0 hN, rowP hN, storeP0 hN hlkN, storeP hN hlkN, List.length_nil, Nat.add_zero, hrX, hch.cells, call64 he ch xs hch]
    subst hX
    refine wp_rangeH (yields88 ch xs hch hall hlen) rfl (fun s => (hp s).plus (E ++ [some (.cells 0 (bound (.yld l)) 152 1 false [.yld l])])) (stp72 tbf xf stp) live (Ok72 ok tbf xf e ch2) (n0 := n + E.length + 1) (fun s => by rw [plus_size, hn]; simp; omega) (fun s => by rw [plus_lock, hlk]; omega) (fun x hx => ?_) (fun s x hl hx h => ?_) ?_ s hlv (by rw [plus_plus]) ?_
    · obtain ⟨i, k, lx, a, c, rfl, h1, h2, h3, -, h5, h6⟩ := hcall x hx
      exact ⟨⟨i, k, lx, a, c, rfl, h1, h2, h3, hok _ (List.mem_map_of_mem hx), h5, h6⟩, rfl⟩
    · obtain ⟨i, k, lx, a, c, rfl, h1, h2, h3, h4, h5, h6⟩ := hx
      refine hsrc.step _ _ hl h4 ?_
      unfold stp72 at h
      simp only at h
      cases hq : (stp s (pairI tbf xf [placeA i k 0, lx])).1 with
      | true => rfl
      | false => rw [hq] at h; cases h
    · rintro L L' s x E' - hl ⟨i, k, lx, a, c, rfl, h1, h2, h3, h4, h5, h6⟩ -
      have hp1 : stp72 tbf xf stp s [placeA i k 0, lx] = (if (stp s (pairI tbf xf [placeA i k 0, lx])).1 then .normal else .ret, (stp s (pairI tbf xf [placeA i k 0, lx])).2) := rfl
      generalize stp72 tbf xf stp s [placeA i k 0, lx] = p72 at hp1 ⊢
      have hN2 : ((hp s).plus (E ++ [some (.cells 0 (bound (.yld l)) 152 1 false [.yld l])] ++ some .dfr :: some (.loop L) :: E')).size = n + E.length + 3 + E'.length := by rw [plus_size, hn]; simp; omega
      have hlk2 : ((hp s).plus (E ++ [some (.cells 0 (bound (.yld l)) 152 1 false [.yld l])] ++ some .dfr :: some (.loop L) :: E')).lock ≤ n + E.length + 3 + E'.length := by rw [plus_lock, hlk]; omega
      rw [plus_plus]
      obtain ⟨X, hX⟩ : ∃ X, (hp s).plus (E ++ [some (.cells 0 (bound (.yld l)) 152 1 false [.yld l])] ++ some .dfr :: some (.loop L) :: E') = X := ⟨_, rfl⟩
      rw [hX] at hN2 hlk2 ⊢
      rw [← plus_nil X]
      simp -implicitDefEqProofs only [go_sem, ↓reduceIte, Int.reduceEq, Int.reduceLT, Int.reduceLE, List.reduceReplicate, intA, setT_nil, setT_cons, ↓boolP_bool, ↓iteB_true, ↓iteB_false, placeA, List.zip_cons_cons, List.zip_nil_right, List.zip_nil_left, sizeP hN2, putP0 hN2, putP hN2, settleP0 hN2, settleP hN2, rowP0 hN2, rowP hN2, storeP0 hN2 hlk2, storeP hN2 hlk2, List.length_nil, Nat.add_zero]
      refine asK_mk [some (.cells 0 0 26 1 false [.v (.int .i64 i), .v (.int .i64 k), .v (.int .i64 0)])] (by rw [← hX, plus_plus, plus_plus]; simp only [List.append_assoc, List.cons_append, List.nil_append]) ?_
      clear hX hN2 hlk2
      have hN3 : ((hp s).plus (E ++ [some (.cells 0 (bound (.yld l)) 152 1 false [.yld l])] ++ some .dfr :: some (.loop L') :: (E' ++ [some (.cells 0 0 26 1 false [.v (.int .i64 i), .v (.int .i64 k), .v (.int .i64 0)])]))).size = n + E.length + 4 + E'.length := by rw [plus_size, hn]; simp; omega
      have hlk3 : ((hp s).plus (E ++ [some (.cells 0 (bound (.yld l)) 152 1 false [.yld l])] ++ some .dfr :: some (.loop L') :: (E' ++ [some (.cells 0 0 26 1 false [.v (.int .i64 i), .v (.int .i64 k), .v (.int .i64 0)])]))).lock ≤ n + E.length + 4 + E'.length := by rw [plus_lock, hlk]; omega
      rw [plus_plus]
      obtain ⟨E0, hE0⟩ : ∃ E0, E ++ [some (.cells 0 (bound (.yld l)) 152 1 false [.yld l])] ++ some .dfr :: some (.loop L') :: (E' ++ [some (.cells 0 0 26 1 false [.v (.int .i64 i), .v (.int .i64 k), .v (.int .i64 0)])]) = E0 := ⟨_, rfl⟩
      have hE0l : E0.length = E.length + 4 + E'.length := by rw [← hE0]; simp; omega
      rw [hE0] at hN3 hlk3 ⊢
      have hrb : ∀ F, ((hp s).plus (E0 ++ F)).row (n + E.length) 0 = some (bound (.yld l), 152, 1, false, [.yld l]) := fun F => by
        refine get_row (v := 0) ?_
        have := plus_mid_get (hn s) E (some .dfr :: some (.loop L') :: (E' ++ [some (.cells 0 0 26 1 false [.v (.int .i64 i), .v (.int .i64 k), .v (.int .i64 0)])]) ++ F) (some (.cells 0 (bound (.yld l)) 152 1 false [.yld l]))
        rw [← hE0]
        simpa using this
      have hrc : ∀ F, ((hp s).plus (E0 ++ F)).row (n + E.length + 3 + E'.length) 0 = some (0, 26, 1, false, [.v (.int .i64 i), .v (.int .i64 k), .v (.int .i64 0)]) := fun F => by
        refine get_row (v := 0) ?_
        have := plus_mid_get (hn s) (E ++ [some (.cells 0 (bound (.yld l)) 152 1 false [.yld l])] ++ some .dfr :: some (.loop L') :: E') F (some (.cells 0 0 26 1 false [.v (.int .i64 i), .v (.int .i64 k), .v (.int .i64 0)]))
        have hlen3 : (E ++ [some (AObj.cells 0 (bound (.yld l)) 152 1 false [.yld l])] ++ some AObj.dfr :: some (AObj.loop L') :: E').length = E.length + 3 + E'.length := by simp; omega
        rw [hlen3, show n + (E.length + 3 + E'.length) = n + E.length + 3 + E'.length by omega] at this
        rw [← hE0]
        simpa using this
      obtain ⟨X, hX⟩ : ∃ X, (hp s).plus E0 = X := ⟨_, rfl⟩
      have hXp : ∀ F, X.plus F = (hp s).plus (E0 ++ F) := fun F => by rw [← hX, plus_plus]
      have hrbX : ∀ F, (X.plus F).row (n + E.length) 0 = some (bound (.yld l), 152, 1, false, [.yld l]) := fun F => by rw [hXp]; exact hrb F
      have hrcX : ∀ F, (X.plus F).row (n + E.length + 3 + E'.length) 0 = some (0, 26, 1, false, [.v (.int .i64 i), .v (.int .i64 k), .v (.int .i64 0)]) := fun F => by rw [hXp]; exact hrc F
      have hr2X : ∀ F, (X.plus F).row b2 0 = some (0, 24, 1, false, [ch2]) := fun F => by rw [hXp]; exact hr2 s _
      have hb2n : b2 < n := by have := get_ltS (row_of_get (hF s).2.2); rwa [hn] at this
      have g1 : ltB (n + E.length) (n + E.length + 4 + E'.length) = true := by unfold ltB; simp; omega
      have g2 : ltB (n + E.length + 3 + E'.length) (n + E.length + 4 + E'.length) = true := by unfold ltB; simp
      have g3 : ltB b2 (n + E.length + 4 + E'.length) = true := by unfold ltB; simp; omega
      rw [hX] at hN3 hlk3 ⊢
      rw [← plus_nil X]
      simp -implicitDefEqProofs only [go_sem, ↓reduceIte, Int.reduceEq, Int.reduceLT, Int.reduceLE, List.reduceReplicate, intA, setT_nil, setT_cons, ↓boolP_bool, ↓iteB_true, ↓iteB_false, sizeP hN3, putP0 hN3, putP hN3, settleP0 hN3, settleP hN3, rowP0 hN3, rowP hN3, storeP0 hN3 hlk3, storeP hN3 hlk3, List.length_nil, Nat.add_zero]
      refine wp_drawX [([], [], false), ([0], [], false), ([], [], false), ([0, 1], [], false), ([], [], false), ([0, 1, 3], [], false), ([0, 1], [], false), ([0, 1], [], false), ([], [], true), ([], [], false)] (by kernel_rfl) (by kernel_rfl) ?_
      simp -implicitDefEqProofs only [go_sem, ↓reduceIte, Int.reduceEq, Int.reduceLT, Int.reduceLE, List.reduceReplicate, intA, setT_nil, setT_cons, ↓boolP_bool, ↓iteB_true, ↓iteB_false, hrbX, hrcX, hr2X, g1, g2, g3, h5, h6, List.isEmpty_nil, sizeP hN3, putP0 hN3, putP hN3, settleP0 hN3, settleP hN3, rowP0 hN3, rowP hN3, storeP0 hN3 hlk3, storeP hN3 hlk3, List.length_nil, Nat.add_zero]
      rw [hXp]
      show effV _ _ _ _ _ _ (pairI tbf xf [placeA i k 0, lx]) _ _
      refine effV_yld hsrc E0 _ s _ hl h4 ((hlk _).trans (hlk _).symm) (by omega) rfl fun E'' => ?_
      show AtO (contP _ _ _ _ _ _ _ _ _ _ _) _ _
      obtain ⟨G3, hS⟩ := settle_plus (H := hp (stp s (pairI tbf xf [placeA i k 0, lx])).2) E0 E'' (n := n + E.length + 4 + E'.length) (by rw [hn]; omega)
      rw [hp1]
      have hfin : ∀ F, (hp (stp s (pairI tbf xf [placeA i k 0, lx])).2).plus (E0 ++ F) = ((hp (stp s (pairI tbf xf [placeA i k 0, lx])).2).plus (E ++ [some (.cells 0 (bound (.yld l)) 152 1 false [.yld l])])).plus (some .dfr :: some (.loop L') :: (E' ++ (some (.cells 0 0 26 1 false [.v (.int .i64 i), .v (.int .i64 k), .v (.int .i64 0)]) :: F))) := fun F => by rw [← hE0, plus_plus]; simp
      generalize stp s (pairI tbf xf [placeA i k 0, lx]) = r at hS hfin ⊢
      obtain ⟨rb, rs⟩ := r
      simp only at hS hfin
      cases rb
      · simp -implicitDefEqProofs only [go_sem, ↓reduceIte, Int.reduceEq, Int.reduceLT, Int.reduceLE, List.reduceReplicate, intA, setT_nil, setT_cons, ↓boolP_bool, ↓iteB_true, ↓iteB_false, hS, rngK_at]
        exact ⟨some (.cells 0 0 26 1 false [.v (.int .i64 i), .v (.int .i64 k), .v (.int .i64 0)]) :: G3, by rw [hfin, plus_plus]⟩
      · simp -implicitDefEqProofs only [go_sem, ↓reduceIte, Int.reduceEq, Int.reduceLT, Int.reduceLE, List.reduceReplicate, intA, setT_nil, setT_cons, ↓boolP_bool, ↓iteB_true, ↓iteB_false, hS, rngK_at]
        exact ⟨some (.cells 0 0 26 1 false [.v (.int .i64 i), .v (.int .i64 k), .v (.int .i64 0)]) :: G3, by rw [hfin, plus_plus]⟩
    · intro G
      rw [fold72]
      generalize hr : runIt stp ((chapIts 0 xs).map (pairI tbf xf)) s = r at hKK ⊢
      simp only
      have hend : ∃ G2, killAll [n + E.length + 1] ((hp r.2).plus (E ++ [some (.cells 0 (bound (.yld l)) 152 1 false [.yld l])] ++ some .dfr :: some .dead :: G)) = some ((hp r.2).plus (E ++ G2)) := by
        have h1 := plus_mid_get (hn r.2) (E ++ [some (.cells 0 (bound (.yld l)) 152 1 false [.yld l])]) (some .dead :: G) (some .dfr)
        have h2 := plus_mid_put (hn r.2) (E ++ [some (.cells 0 (bound (.yld l)) 152 1 false [.yld l])]) (some .dead :: G) (some .dfr) .dead
        rw [show n + (E ++ [some (AObj.cells 0 (bound (.yld l)) 152 1 false [.yld l])]).length = n + E.length + 1 by simp; omega] at h1 h2
        unfold killAll
        rw [h1]
        simp only
        rw [if_pos (by rw [plus_lock, hlk]; omega), h2]
        exact ⟨some (.cells 0 (bound (.yld l)) 152 1 false [.yld l]) :: some .dead :: some .dead :: G, by unfold killAll; simp⟩
      obtain ⟨G2, hkill⟩ := hend
      subst hKK
      cases hb : r.1 with
      | true =>
        simp -implicitDefEqProofs only [go_sem, ↓reduceIte, Int.reduceEq, Int.reduceLT, Int.reduceLE, List.reduceReplicate, intA, setT_nil, setT_cons, ↓boolP_bool, ↓iteB_true, ↓iteB_false, hkill]
        exact ⟨rfl, G2, rfl⟩
      | false =>
        simp -implicitDefEqProofs only [go_sem, ↓reduceIte, Int.reduceEq, Int.reduceLT, Int.reduceLE, List.reduceReplicate, intA, setT_nil, setT_cons, ↓boolP_bool, ↓iteB_true, ↓iteB_false, hkill]
        exact ⟨rfl, G2, rfl⟩
  obtain ⟨v, H', h1, h2⟩ : ∃ v H', lim (Cx e) (.call 89 ([.yld l] ++ [.ptr b1 0 0, .ptr b2 0 0]) ((hp s).plus E)) = some (.ret v H') ∧ (v = .tup [] ∧ ∃ G, H' = (hp (runIt stp ((chapIts 0 xs).map (pairI tbf xf)) s).2).plus (E ++ G)) := by
    unfold Fn' at key
    rw [bindO_iff] at key
    obtain ⟨o, h1, h2⟩ := key
    cases o with
    | ret v H' => exact ⟨v, H', h1, h2⟩
    | _ => exact h2.elim
  obtain ⟨rfl, G, rfl⟩ := h2
  exact ⟨G, h1⟩
end Go.Ev
namespace Go.Ev
open Go.Proofs
set_option maxRecDepth 100000
set_option linter.unusedSimpArgs false
attribute [local irreducible] Wp WpS
theorem ans71 {e : Exts} (p q : Chap) (l l' : AV) (lxs lxs' : List AV) (h : SlOf 1 lxs l) (h' : SlOf 1 lxs' l') (h1 : lxs.length = p.2.length) (h2 : lxs'.length = q.2.length) : Ans (Cx e) 88 [.agg [intA p.1, l], .agg [intA q.1, l']] (.v (.bool (decide (p.1 = q.1) && decide (p.2.length = q.2.length)))) := by
  unfold Ans
  rw [fn_step (fn_88 e) (show Try.f88.body = some _ from rfl)]
  cases k1 : decide (p.1 = q.1)
  · simp -implicitDefEqProofs only [Try.f88, go_sem, ↓reduceIte, Int.reduceEq, Int.reduceLT, Int.reduceLE, List.reduceReplicate, intA, setT_nil, setT_cons, ↓boolP_bool, ↓iteB_true, ↓iteB_false, h.cells, h'.cells, h.flat, h'.flat, h.bound, h'.bound, k1]
  · have k2 : decide ((p.2.length : Int) = (q.2.length : Int)) = decide (p.2.length = q.2.length) := by
      by_cases hh : p.2.length = q.2.length
      · rw [hh]; simp
      · rw [decide_eq_false hh, decide_eq_false (by omega)]
    simp -implicitDefEqProofs only [Try.f88, go_sem, ↓reduceIte, Int.reduceEq, Int.reduceLT, Int.reduceLE, List.reduceReplicate, intA, setT_nil, setT_cons, ↓boolP_bool, ↓iteB_true, ↓iteB_false, h.cells, h'.cells, h.flat, h'.flat, h.bound, h'.bound, k1, h.len, h'.len, h1, h2, k2]
theorem impure_70 (e : Exts) (h : FuncId) (d : Option Tmp) : (Cx e).pure h 87 d = false := by simp [Cx, pureF, impF]
theorem impure_52 (e : Exts) (h : FuncId) (d : Option Tmp) : (Cx e).pure h 64 d = false := by simp [Cx, pureF, impF]
set_option maxHeartbeats 4000000 in
theorem call70 {e : Exts} (he : Quiet e) (X : Heap) (hlk : X.lock ≤ X.size) (t u : Txt) (ht : Fits t) (ch ch' : AV) (xs xs' : List AV) (hch : SlOf 2 xs ch) (hall : All2 ChapA t xs) (hch' : SlOf 2 xs' ch') (hall' : All2 ChapA u xs') (me : FuncId) (d : Option Tmp) :
    ∃ F, callA (Cx e) (lim (Cx e)) me 87 d [ch, ch', .fn (.func 88) [] []] X = some (.v (.bool (alikeB t u)), X.plus F) := by
  refine callA_rawE (ext_87 he) (impure_70 _ _ _) ?_
  have hfit := ht.chs
  obtain ⟨N, hN⟩ : ∃ N, X.size = N := ⟨_, rfl⟩
  have hlkN : X.lock ≤ N := by omega
  have hdone : ∀ (b : Bool) E, b = alikeB t u → AtO (rawE X (.v (.bool (alikeB t u))) X) (.v (.bool b)) (X.plus E) := by
    rintro b E rfl; exact rawE_at hN hN E _ _ rfl
  generalize rawE X (.v (.bool (alikeB t u))) X = KK at hdone ⊢
  rw [fn_step (fn_87 e) (show Try.f87.body = some _ from rfl), ← plus_nil X]
  by_cases hl : t.length = u.length
  · have hli : ((t.length : Int) = (u.length : Int)) := by omega
    simp -implicitDefEqProofs only [Try.f87, go_sem, ↓reduceIte, Int.reduceEq, Int.reduceLT, Int.reduceLE, List.reduceReplicate, intA, setT_nil, setT_cons, ↓boolP_bool, ↓iteB_true, ↓iteB_false, hch.len, hch'.len, ← hall.1, ← hall'.1, hli, sizeP hN, settleP0 hN, settleP hN, List.length_nil, Nat.add_zero]
    rw [← hli]
    refine Lp_rule (P := fun μ a' H => ∃ (j : Nat) (E : List (Option AObj)), j + μ = t.length ∧ a' = ⟨32, [(0, ch), (1, ch'), (2, .fn (.func 88) [] []), (6, .v (.bool false)), (14, .v (.bool false)), (15, ch), (16, intA t.length), (17, intA j)], []⟩ ∧ H = X.plus E ∧ alikeB t u = decide (shapeT (t.drop j) = shapeT (u.drop j))) ?_ t.length _ _ ⟨0, [], by omega, rfl, rfl, rfl⟩
    rintro μ _ _ ⟨j, E, hj, rfl, rfl, ho⟩
    have hN1 : (X.plus E).size = N + E.length := sizeP hN E
    have hlk1 : (X.plus E).lock ≤ N + E.length := by rw [plus_lock]; omega
    have htr : ∀ F vs ms, ∃ G, ((X.plus E).plus F).trim (N + E.length) vs ms = X.plus G := fun F vs ms => by
      obtain ⟨G, hG⟩ := trim_plus (H := X) E F vs ms (n := N + E.length) (by rw [hN])
      exact ⟨E ++ G, by rw [plus_plus, hG]⟩
    obtain ⟨Y, hY⟩ : ∃ Y, X.plus E = Y := ⟨_, rfl⟩
    have hYp : ∀ F, Y.plus F = X.plus (E ++ F) := fun F => by rw [← hY, plus_plus]
    rw [hY] at hN1 hlk1 htr ⊢
    rw [← plus_nil Y]
    by_cases hlt : (j : Int) < (t.length : Int)
    · obtain ⟨c, hs⟩ := at_lt t j (by omega)
      obtain ⟨c', hs'⟩ := at_lt u j (by omega)
      obtain ⟨z, hz, l, rfl, lxs, hll, hls⟩ := hall.get hs
      obtain ⟨z', hz', l', rfl, lxs', hll', hls'⟩ := hall'.get hs'
      have hw := wrap_succ j (by omega)
      rw [drop_eq_cons hs, drop_eq_cons hs'] at ho
      have hi := hch.idx hz
      have hi' := hch'.idx hz'
      have h71 : ∀ me d H, callA (Cx e) (lim (Cx e)) me 88 d [.agg [intA c.1, l], .agg [intA c'.1, l']] H = some (.v (.bool (decide (c.1 = c'.1) && decide (c.2.length = c'.2.length))), H) := fun me d H =>
        (ans71 (e := e) c c' l l' lxs lxs' hll hll' hls.1.symm hls'.1.symm).call (ext_88 he) (pure_88 _ _ _) (by simp only [boundL_cons, bound_agg, hll.bound, hll'.bound, intA, bound_v, boundL_nil]; rfl) H
      unfold intA at hi hi' h71
      cases k : (decide (c.1 = c'.1) && decide (c.2.length = c'.2.length))
      · rw [k] at h71
        have h0 : false = alikeB t u := by
          rw [ho]
          have : ¬ (c.1 = c'.1 ∧ c.2.length = c'.2.length) := fun hh => by rw [hh.1, hh.2] at k; simp at k
          exact (decide_eq_false (fun hh => this (by simpa [shapeT] using (List.cons.inj hh).1))).symm
        simp -implicitDefEqProofs only [go_sem, ↓reduceIte, Int.reduceEq, Int.reduceLT, Int.reduceLE, List.reduceReplicate, intA, setT_nil, setT_cons, ↓boolP_bool, ↓iteB_true, ↓iteB_false, hlt, hw, hi, hi', hll.cells, hll'.cells, hll.flat, hll'.flat, h71, sizeP hN1, putP0 hN1, putP hN1, settleP0 hN1, settleP hN1, rowP0 hN1, rowP hN1, storeP0 hN1 hlk1, storeP hN1 hlk1, List.length_nil, Nat.add_zero]
        rw [hYp]
        exact hdone _ _ h0
      · rw [k] at h71
        simp only [Bool.and_eq_true, decide_eq_true_eq] at k
        simp -implicitDefEqProofs only [go_sem, ↓reduceIte, Int.reduceEq, Int.reduceLT, Int.reduceLE, List.reduceReplicate, intA, setT_nil, setT_cons, ↓boolP_bool, ↓iteB_true, ↓iteB_false, hlt, hw, hi, hi', hll.cells, hll'.cells, hll.flat, hll'.flat, h71, sizeP hN1, putP0 hN1, putP hN1, settleP0 hN1, settleP hN1, rowP0 hN1, rowP hN1, storeP0 hN1 hlk1, storeP hN1 hlk1, List.length_nil, Nat.add_zero]
        obtain ⟨G, hG⟩ := htr _ _ []
        exact ⟨μ - 1, by omega, j + 1, G, by omega, rfl, hG, by rw [ho]; simp [shapeT, k.1, k.2]⟩
    · have hd : true = alikeB t u := by rw [ho, show t.drop j = [] from List.drop_eq_nil_of_le (by omega), show u.drop j = [] from List.drop_eq_nil_of_le (by omega)]; rfl
      simp -implicitDefEqProofs only [go_sem, ↓reduceIte, Int.reduceEq, Int.reduceLT, Int.reduceLE, List.reduceReplicate, intA, setT_nil, setT_cons, ↓boolP_bool, ↓iteB_true, ↓iteB_false, hlt, sizeP hN1, settleP0 hN1, settleP hN1, List.length_nil, Nat.add_zero]
      obtain ⟨G, hG⟩ := htr [] _ []
      rw [hG]
      exact hdone _ _ hd
  · have hli : ¬ ((t.length : Int) = (u.length : Int)) := by omega
    have hne : false = alikeB t u := by unfold alikeB; exact (decide_eq_false (fun h => hl (by simpa [shapeT] using congrArg List.length h))).symm
    simp -implicitDefEqProofs only [Try.f87, go_sem, ↓reduceIte, Int.reduceEq, Int.reduceLT, Int.reduceLE, List.reduceReplicate, intA, setT_nil, setT_cons, ↓boolP_bool, ↓iteB_true, ↓iteB_false, hch.len, hch'.len, ← hall.1, ← hall'.1, hli, sizeP hN, settleP0 hN, settleP hN, List.length_nil, Nat.add_zero]
    exact hdone _ _ hne
set_option maxHeartbeats 4000000 in
theorem call52 {e : Exts} (he : Quiet e) (X : Heap) (N : Nat) (hN : X.size = N) (ch ch' : AV) (xs xs' : List AV) (hch : SlOf 2 xs ch) (hch' : SlOf 2 xs' ch') (me : FuncId) (d : Option Tmp) :
    ∃ F, callA (Cx e) (lim (Cx e)) me 64 d [.agg [ch], .agg [ch']] X = some (.fn (.func 89) [] [.ptr N 0 0, .ptr (N + 1) 0 0], (X.plus [some (.cells 0 0 89 1 false [ch]), some (.cells 0 0 24 1 false [ch'])]).plus F) := by
  refine callA_rawE (ext_64 he) (impure_52 _ _ _) ?_
  rw [fn_step (fn_64 e) (show Try.f64.body = some _ from rfl)]
  generalize hKK : rawE X (.fn (.func 89) [] [.ptr N 0 0, .ptr (N + 1) 0 0]) (X.plus [some (.cells 0 0 89 1 false [ch]), some (.cells 0 0 24 1 false [ch'])]) = KK
  rw [← plus_nil X]
  simp -implicitDefEqProofs only [Try.f64, go_sem, ↓reduceIte, Int.reduceEq, Int.reduceLT, Int.reduceLE, List.reduceReplicate, intA, setT_nil, setT_cons, ↓boolP_bool, ↓iteB_true, ↓iteB_false, hch.cells, hch.flat, hch.bound, hch'.cells, hch'.flat, hch'.bound, sizeP hN, putP0 hN, putP hN, settleP0 hN, settleP hN, List.length_nil, Nat.add_zero]
  rw [← hKK]
  exact rawE_far0 hN _ _ rfl (by have h1 : bound (.fn (Fn.func 89) [] [AV.ptr N 0 0, AV.ptr (N + 1) 0 0]) = Nat.max 0 (Nat.max (N + 1) (Nat.max (N + 1 + 1) 0)) := rfl; rw [h1]; exact Nat.lt_of_lt_of_le (Nat.lt_succ_self N) (Nat.le_trans (Nat.le_max_left _ _) (Nat.le_max_right _ _)))
set_option maxHeartbeats 4000000 in
theorem ans50 {e : Exts} (he : Quiet e) (t u : Txt) (ht : Fits t) (hu : Fits u) (ch ch' : AV) (xs xs' : List AV) (hch : SlOf 2 xs ch) (hall : All2 ChapA t xs) (hch' : SlOf 2 xs' ch') (hall' : All2 ChapA u xs') (h1 : textB t = true) (h2 : textB u = true) (h3 : alikeB t u = true) :
    Ans (Cx e) 62 [.agg [ch], .agg [ch']] (.tup [.agg [ch], intA 0]) := by
  have h62 := call62 he t ht _ ⟨ch, rfl, xs, hch, hall⟩
  have h62' := call62 he u hu _ ⟨ch', rfl, xs', hch', hall'⟩
  rw [h1] at h62
  rw [h2] at h62'
  obtain ⟨F, h70⟩ := call70 he ⟨[some (.cells 0 0 24 1 false [ch]), some (.cells 0 0 24 1 false [ch']), some (.cells 0 0 89 1 false [.v (.slice none 0 0)])], 0⟩ (Nat.zero_le _) t u ht ch ch' xs xs' hch hall hch' hall' 62 (some 20)
  rw [h3] at h70
  unfold Ans
  rw [fn_step (fn_62 e) (show Try.f62.body = some _ from rfl)]
  cases hF : F.all Option.isNone
  · simp -implicitDefEqProofs only [Try.f62, go_sem, ↓reduceIte, Int.reduceEq, Int.reduceLT, Int.reduceLE, List.reduceReplicate, intA, setT_nil, setT_cons, ↓boolP_bool, ↓iteB_true, ↓iteB_false, hch.cells, hch.flat, hch.bound, hch'.cells, hch'.flat, hch'.bound, h62, h62', h70, Heap.plus, hF]
    rcases hch with ⟨rfl, -⟩ | ⟨cap, rfl⟩ <;> rfl
  · simp -implicitDefEqProofs only [Try.f62, go_sem, ↓reduceIte, Int.reduceEq, Int.reduceLT, Int.reduceLE, List.reduceReplicate, intA, setT_nil, setT_cons, ↓boolP_bool, ↓iteB_true, ↓iteB_false, hch.cells, hch.flat, hch.bound, hch'.cells, hch'.flat, hch'.bound, h62, h62', h70, Heap.plus, hF]
    rcases hch with ⟨rfl, -⟩ | ⟨cap, rfl⟩ <;> rfl
end Go.Ev
namespace Go.Ev
open Go.Proofs
set_option maxRecDepth 100000
set_option linter.unusedSimpArgs false
attribute [local irreducible] Wp WpS
/-! ### how far texts are apart, line by line -/
def dT : Txt → Txt → List Nat
  | p :: t, q :: u => List.zipWith distL p.2 q.2 ++ dT t u
  | _, _ => []
theorem apartC_sum : ∀ (l m : List Line), apartC l m = (List.zipWith distL l m).sum
  | [], _ => by rw [apartC]; rfl; all_goals (intros; simp at *)
  | _ :: _, [] => by rw [apartC]; rfl; all_goals (intros; simp at *)
  | a :: l, c :: m => by rw [apartC, List.zipWith_cons_cons, List.sum_cons, apartC_sum l m]
theorem apartT_sum : ∀ (t u : Txt), apartT t u = (dT t u).sum
  | [], _ => by rw [apartT, dT]; rfl; all_goals (intros; simp at *)
  | _ :: _, [] => by rw [apartT, dT]; rfl; all_goals (intros; simp at *)
  | p :: t, q :: u => by rw [apartT, dT, List.sum_append, apartC_sum, apartT_sum t u]
/-- the first number of a table that is handed over -/
def d00 (x : List AV) : Int := match x with
  | [_, .agg (_ :: _ :: .v (.int _ v) :: _)] => v
  | _ => 0
theorem d00_pair (p lx ly : AV) {tb : List Int} (h : tb.length = 144) : d00 [p, .agg (prC lx ly tb)] = atT tb 0 0 := by
  match tb, h with
  | v :: r, _ => rfl
/-- what is known of each line -/
def Lin (t u : Txt) (xs : List AV) (e : Exts) (ch2 : AV) (i k : Nat) (p : AV × List Int) : Prop := ∀ y z, xs[i]? = some y → (linesOf y)[k]? = some z → ∃ (cp cq : Chap) (a c : Line), t[i]? = some cp ∧ u[i]? = some cq ∧ cp.2[k]? = some a ∧ cq.2[k]? = some c ∧ SlOf 1 (strs a) z ∧ SlOf 1 (strs c) p.1 ∧ TabOK a c p.2 (-1) 0 ∧
  (∀ (me : FuncId) (d : Option Tmp), callI (Cx e) me 45 d [.agg [ch2], .agg [.v (.int .i64 i), .v (.int .i64 k), .v (.int .i64 0)]] = some p.1) ∧
  ∀ (me : FuncId) (d : Option Tmp), callI (Cx e) me 90 d [z, p.1] = some (.agg (prC z p.1 p.2))
theorem alike_get {t u : Txt} (h : alikeB t u = true) {i : Nat} {p : Chap} (hp : t[i]? = some p) : ∃ q, u[i]? = some q ∧ p.1 = q.1 ∧ p.2.length = q.2.length := by
  have h1 := of_decide_eq_true h
  have h2 := congrArg (fun l => l[i]?) h1
  simp only [shapeT, List.getElem?_map, hp, Option.map_some] at h2
  cases hq : u[i]? with
  | none => rw [hq] at h2; cases h2
  | some q => rw [hq] at h2; simp at h2; exact ⟨q, rfl, h2.1, h2.2⟩
theorem lin_of {e : Exts} (he : Quiet e) (t u : Txt) (hst : Small t) (hsu : Small u) (hu : Fits u) (ch' : AV) (xs xs' : List AV) (hall : All2 ChapA t xs) (hch' : SlOf 2 xs' ch') (hall' : All2 ChapA u xs') (h3 : alikeB t u = true) (i k : Nat) : ∃ p, Lin t u xs e ch' i k p := by
  cases hy : xs[i]? with
  | none => exact ⟨(ch', []), fun y z h => by rw [hy] at h; cases h⟩
  | some y =>
    cases hz : (linesOf y)[k]? with
    | none => exact ⟨(ch', []), fun y' z h1 h2 => by rw [hy] at h1; cases h1; rw [hz] at h2; cases h2⟩
    | some z =>
      obtain ⟨cp, hcp⟩ := at_lt t i (by rw [hall.1]; exact (List.getElem?_eq_some_iff.1 hy).1)
      obtain ⟨y', hy', l, rfl, lxs, hl, hls⟩ := hall.get hcp
      rw [hy] at hy'
      cases hy'
      have hlo : linesOf (.agg [intA cp.1, l]) = lxs := hl.elems
      have hz' := hz
      rw [hlo] at hz'
      obtain ⟨a, ha⟩ := at_lt cp.2 k (by rw [hls.1]; exact (List.getElem?_eq_some_iff.1 hz').1)
      have hla : SlOf 1 (strs a) z := hls.2 k a z ha hz'
      obtain ⟨cq, hcq, -, hlen⟩ := alike_get h3 hcp
      obtain ⟨c, hc⟩ := at_lt cq.2 k (by rw [← hlen]; exact (List.getElem?_eq_some_iff.1 ha).1)
      obtain ⟨x, hx, -, h45⟩ := call45 he u hu ch' xs' hch' hall' i k 0
      rw [lineAt_nat hcq hc] at hx
      have hx : SlOf 1 (strs c) x := hx
      have hla10 := (hst.words cp (List.mem_of_getElem? hcp) a (List.mem_of_getElem? ha)).2
      have hlc10 := (hsu.words cq (List.mem_of_getElem? hcq) c (List.mem_of_getElem? hc)).2
      obtain ⟨tb, hT, h73⟩ := ans73 he a c z x hla hx hla10 hlc10
      refine ⟨(x, tb), fun y' z' g1 g2 => ?_⟩
      rw [hy] at g1
      cases g1
      rw [hz] at g2
      cases g2
      exact ⟨cp, cq, a, c, hcp, hcq, ha, hc, hla, hx, hT, h45, fun me d => h73.callI (ext_90 he) (pure_90 _ _ _) (by simp only [boundL_cons, hla.bound, hx.bound, boundL_nil]; rfl)⟩
/-- what is handed over, line by line, tells the distances -/
theorem dists_map (g : List AV → Int) (t u : Txt) (xs : List AV) (hall : All2 ChapA t xs) (h3 : alikeB t u = true)
    (hg : ∀ (i k : Nat) (y z : AV) (cp cq : Chap) (a c : Line), xs[i]? = some y → (linesOf y)[k]? = some z → t[i]? = some cp → u[i]? = some cq → cp.2[k]? = some a → cq.2[k]? = some c → g [placeA i k 0, z] = (distL a c : Int)) :
    (chapIts 0 xs).map g = (dT t u).map fun n : Nat => (n : Int) := by
  have key : ∀ (n i : Nat), i + n = t.length → (chapIts i (xs.drop i)).map g = (dT (t.drop i) (u.drop i)).map fun n : Nat => (n : Int) := by
    intro n
    induction n with
    | zero =>
      intro i hi
      rw [show xs.drop i = [] from List.drop_eq_nil_of_le (by rw [← hall.1]; omega), show t.drop i = [] from List.drop_eq_nil_of_le (by omega)]
      rw [dT]; rfl; all_goals (intros; simp at *)
    | succ n ih =>
      intro i hi
      obtain ⟨cp, hcp⟩ := at_lt t i (by omega)
      obtain ⟨y, hy, l, rfl, lxs, hl, hls⟩ := hall.get hcp
      obtain ⟨cq, hcq, -, hlen⟩ := alike_get h3 hcp
      have hlo : linesOf (.agg [intA cp.1, l]) = lxs := hl.elems
      rw [chapIts_drop xs i _ hy, drop_eq_cons hcp, drop_eq_cons hcq, dT, List.map_append, List.map_append, ih (i + 1) (by omega), hlo]
      congr 1
      apply List.ext_getElem?
      intro k
      have hk0 : (lineIts i 0 lxs)[k]? = (lxs[k]?).map fun z => [placeA i k 0, z] := by
        have : ∀ (zs : List AV) (m k : Nat), (lineIts i m zs)[k]? = (zs[k]?).map fun z => [placeA i (m + k) 0, z] := by
          intro zs
          induction zs with
          | nil => intro m k; rfl
          | cons z zs ih =>
            intro m k
            cases k with
            | zero => rfl
            | succ k =>
              show (lineIts i (m + 1) zs)[k]? = _
              rw [ih, List.getElem?_cons_succ, show m + 1 + k = m + (k + 1) by omega]
        have h := this lxs 0 k
        rwa [Nat.zero_add] at h
      rw [List.getElem?_map, hk0, List.getElem?_map, List.getElem?_zipWith]
      cases hz : lxs[k]? with
      | none =>
        have : cp.2[k]? = none := List.getElem?_eq_none_iff.2 (by rw [hls.1]; exact List.getElem?_eq_none_iff.1 hz)
        rw [this]; rfl
      | some z =>
        have hkl := (List.getElem?_eq_some_iff.1 hz).1
        obtain ⟨a, ha⟩ := at_lt cp.2 k (by rw [hls.1]; exact hkl)
        obtain ⟨c, hc⟩ := at_lt cq.2 k (by rw [← hlen, hls.1]; exact hkl)
        rw [ha, hc]
        simp only [Option.map_some]
        rw [hg i k _ z cp cq a c hy (by rw [hlo]; exact hz) hcp hcq ha hc]
  have := key t.length 0 (by omega)
  simpa using this
end Go.Ev
namespace Go.Ev
open Go.Proofs
set_option maxRecDepth 100000
set_option linter.unusedSimpArgs false
attribute [local irreducible] Wp WpS
def stA (s : Int) (x : List AV) : AExit × Int := (.normal, IntKind.i64.wrap (s + d00 x))
theorem foldA : ∀ (T : List (List AV)) (s : Int), foldE stA T s = (.normal, (T.map d00).foldl (fun s d => IntKind.i64.wrap (s + d)) s)
  | [], s => rfl
  | x :: r, s => by rw [foldE_go rfl, foldA r]; rfl
theorem sumA : ∀ (l : List Nat) (s : Nat), s + l.sum < 2 ^ 62 → (l.map fun n : Nat => (n : Int)).foldl (fun s d => IntKind.i64.wrap (s + d)) (s : Int) = ((s + l.sum : Nat) : Int)
  | [], s, _ => by simp
  | x :: r, s, h => by
    rw [List.sum_cons] at h ⊢
    rw [List.map_cons, List.foldl_cons, wrap_in _ (by omega) (by omega), show (s : Int) + (x : Int) = ((s + x : Nat) : Int) by omega, sumA r (s + x) (by omega), Nat.add_assoc]
theorem zip_sum : ∀ (l m : List Line), (∀ a ∈ l, a.length ≤ 10) → (∀ a ∈ m, a.length ≤ 10) → (List.zipWith distL l m).sum ≤ 20 * l.length
  | [], _, _, _ => Nat.zero_le _
  | _ :: _, [], _, _ => Nat.zero_le _
  | a :: l, c :: m, h1, h2 => by
    have h := zip_sum l m (fun x hx => h1 x (List.mem_cons_of_mem _ hx)) (fun x hx => h2 x (List.mem_cons_of_mem _ hx))
    have h3 := dist_sum a c
    have h4 := h1 a (List.mem_cons_self ..)
    have h5 := h2 c (List.mem_cons_self ..)
    rw [List.zipWith_cons_cons, List.sum_cons, List.length_cons]; omega
theorem dT_sum : ∀ (t u : Txt), (∀ c ∈ t, c.2.length ≤ 10 ∧ ∀ l ∈ c.2, l.length ≤ 10) → (∀ c ∈ u, c.2.length ≤ 10 ∧ ∀ l ∈ c.2, l.length ≤ 10) → (dT t u).sum ≤ 200 * t.length
  | [], _, _, _ => by rw [dT]; exact Nat.zero_le _; all_goals (intros; simp at *)
  | _ :: _, [], _, _ => by rw [dT]; exact Nat.zero_le _; all_goals (intros; simp at *)
  | p :: t, q :: u, h1, h2 => by
    have h := dT_sum t u (fun x hx => h1 x (List.mem_cons_of_mem _ hx)) (fun x hx => h2 x (List.mem_cons_of_mem _ hx))
    have h3 := h1 p (List.mem_cons_self ..)
    have h4 := h2 q (List.mem_cons_self ..)
    have h5 := zip_sum p.2 q.2 h3.2 h4.2
    rw [dT, List.sum_append, List.length_cons]; omega
theorem apart_small {t u : Txt} (ht : Small t) (hu : Small u) : apartT t u ≤ 1200 := by
  have h := dT_sum t u (fun c hc => ⟨(ht.lines c hc).2, fun l hl => (ht.words c hc l hl).2⟩) (fun c hc => ⟨(hu.lines c hc).2, fun l hl => (hu.words c hc l hl).2⟩)
  have := ht.chs
  rw [apartT_sum]; omega
def PrI (x : List AV) : Prop := ∃ p lx ly tb, x = [p, .agg (prC lx ly tb)] ∧ tb.length = 144 ∧ (prC lx ly tb).all AV.flat = true ∧ boundL (prC lx ly tb) = 0
set_option maxHeartbeats 8000000 in
theorem ans23 {e : Exts} (he : Quiet e) (t u : Txt) (ht : Fits t) (hu : Fits u) (ch ch' : AV) (xs xs' : List AV) (hch : SlOf 2 xs ch) (hall : All2 ChapA t xs) (hch' : SlOf 2 xs' ch') (hall' : All2 ChapA u xs') (h1 : textB t = true) (h2 : textB u = true) (h3 : alikeB t u = true) :
    Ans (Cx e) 38 [.agg [ch], .agg [ch']] (.tup [intA (apartT t u), intA 0]) := by
  have hst := small_of h1
  have hsu := small_of h2
  have h50 : ∀ (me : FuncId) (d : Option Tmp) (H : Heap), callA (Cx e) (lim (Cx e)) me 62 d [.agg [ch], .agg [ch']] H = some (.tup [.agg [ch], .v (.int .i64 0)], H) := fun me d H =>
    (ans50 he t u ht hu ch ch' xs xs' hch hall hch' hall' h1 h2 h3).call (ext_62 he) (pure_62 _ _ _) (by simp only [boundL_cons, bound_agg, hch.bound, hch'.bound, boundL_nil]; rfl) H
  obtain ⟨F, h52⟩ := call52 he ⟨[some (.cells 0 0 24 1 false [ch]), some (.cells 0 0 24 1 false [ch']), some (.cells 0 0 89 1 false [ch]), some (.cells 0 0 3 1 false [.v (.int .i64 0)])], 0⟩ 4 rfl ch ch' xs xs' hch hch' 38 (some 22)
  obtain ⟨pf, hpf⟩ : ∃ pf : Nat → Nat → AV × List Int, ∀ i k, Lin t u xs e ch' i k (pf i k) := ⟨fun i k => Classical.choose (lin_of he t u hst hsu hu ch' xs xs' hall hch' hall' h3 i k), fun i k => Classical.choose_spec (lin_of he t u hst hsu hu ch' xs xs' hall hch' hall' h3 i k)⟩
  have hxl : xs.length < 2 ^ 63 := by rw [← hall.1]; exact ht.chs
  have hline : ∀ x ∈ chapIts 0 xs, ∃ (i k : Nat) (y z : AV), xs[i]? = some y ∧ (linesOf y)[k]? = some z ∧ x = [placeA i k 0, z] := fun x hx => by
    obtain ⟨i, y, j, z, h4, h5, rfl⟩ := chapIts_of xs 0 x hx
    exact ⟨i, j, y, z, h4, h5, by rw [Nat.zero_add]⟩
  have hpair : ∀ (i k : Nat) (z : AV), pairI (fun i k => (pf i k).2) (fun i k => (pf i k).1) [placeA i k 0, z] = [placeA i k 0, .agg (prC z (pf i k).1 (pf i k).2)] := fun i k z => rfl
  have hy := yields72 he ch xs hch (fun y hy => (okCh2_of ht hall y hy).ok) hxl ch' 4 5 (fun i k => (pf i k).2) (fun i k => (pf i k).1) (fun x hx => by
    obtain ⟨i, k, y, z, h4, h5, rfl⟩ := hline x hx
    obtain ⟨cp, cq, a, c, -, -, -, -, g1, g2, g3, g4, g5⟩ := hpf i k y z h4 h5
    exact ⟨i, k, z, a, c, rfl, g1, g2, g3.len, trivial, g4, g5⟩)
  have hitems : ∀ x ∈ (chapIts 0 xs).map (pairI (fun i k => (pf i k).2) (fun i k => (pf i k).1)), PrI x ∧ x.length = 2 := fun x hx => by
    obtain ⟨w, hw, rfl⟩ := List.mem_map.1 hx
    obtain ⟨i, k, y, z, h4, h5, rfl⟩ := hline w hw
    obtain ⟨cp, cq, a, c, -, -, -, -, g1, g2, g3, g4, g5⟩ := hpf i k y z h4 h5
    rw [hpair]
    exact ⟨⟨_, _, _, _, rfl, g3.len, prC_cells _ _ _ g1.flat g2.flat, prC_bound g1 g2 _⟩, rfl⟩
  have hdist : ((chapIts 0 xs).map (pairI (fun i k => (pf i k).2) (fun i k => (pf i k).1))).map d00 = (dT t u).map fun n : Nat => (n : Int) := by
    rw [List.map_map]
    refine dists_map _ t u xs hall h3 fun i k y z cp cq a c h4 h5 e1 e2 e3 e4 => ?_
    obtain ⟨cp', cq', a', c', f1, f2, f3, f4, g1, g2, g3, g4, g5⟩ := hpf i k y z h4 h5
    rw [e1] at f1
    cases f1
    rw [e2] at f2
    cases f2
    rw [e3] at f3
    cases f3
    rw [e4] at f4
    cases f4
    show d00 (pairI _ _ [placeA i k 0, z]) = _
    rw [hpair, d00_pair _ _ _ g3.len, g3.full (by omega) (by omega)]
    unfold fullT
    rw [if_pos ⟨Nat.zero_le _, Nat.zero_le _⟩, List.drop_zero, List.drop_zero]
  have hsmall := apart_small hst hsu
  have hres : (((chapIts 0 xs).map (pairI (fun i k => (pf i k).2) (fun i k => (pf i k).1))).map d00).foldl (fun s d => IntKind.i64.wrap (s + d)) 0 = (apartT t u : Int) := by
    rw [hdist, apartT_sum]
    have := sumA (dT t u) 0 (by rw [← apartT_sum]; omega)
    rw [Nat.zero_add] at this
    exact this
  generalize (chapIts 0 xs).map (pairI (fun i k => (pf i k).2) (fun i k => (pf i k).1)) = items at hy hitems hres
  clear hpf hpair hdist hline
  unfold Ans
  rw [fn_step (fn_38 e) (show Try.f38.body = some _ from rfl)]
  simp -implicitDefEqProofs only [Try.f38, go_sem, ↓reduceIte, Int.reduceEq, Int.reduceLT, Int.reduceLE, List.reduceReplicate, intA, setT_nil, setT_cons, ↓boolP_bool, ↓iteB_true, ↓iteB_false, hch.cells, hch.flat, hch.bound, hch'.cells, hch'.flat, hch'.bound, h50, h52, Heap.plus, Option.isNone_some]
  refine wp_rangeHF hy rfl (fun s : Int => ⟨some (.cells 0 0 24 1 false [ch]) :: some (.cells 0 0 24 1 false [ch']) :: some (.cells 0 0 89 1 false [ch]) :: some (.cells 0 0 3 1 false [.v (.int .i64 s)]) :: some (.cells 0 0 89 1 false [ch]) :: some (.cells 0 0 24 1 false [ch']) :: F, 0⟩) stA (fun _ => True) PrI (n0 := F.length + 6) (fun s => rfl) (fun s => Nat.zero_le _) hitems (fun _ _ _ _ _ => trivial) (fun s E => ⟨rfl, rfl, rfl⟩) ?_ 0 trivial rfl ?_
  · rintro L L' s x E - - ⟨p, lx, ly, tb, rfl, hlen, hfl, hbo⟩ -
    have hp1 : stA s [p, .agg (prC lx ly tb)] = (.normal, IntKind.i64.wrap (s + atT tb 0 0)) := by unfold stA; rw [d00_pair _ _ _ hlen]
    rw [hp1]
    have f0 := prC_cells (.v (.slice none 0 0)) (.v (.slice none 0 0)) zT rfl rfl
    have n0 : (prC (.v (.slice none 0 0)) (.v (.slice none 0 0)) zT).length = 146 := by rw [prC_len]; rfl
    have n1 : (prC lx ly tb).length = 146 := by rw [prC_len, hlen]
    have d0 : (prC (.v (.slice none 0 0)) (.v (.slice none 0 0)) zT).drop 146 = [] := List.drop_of_length_le (by omega)
    have r0 : ∀ b v k m, arIdx 12 m (.ptr b v k) (.v (.int .i64 0)) = some (.ptr b v k) := fun b v k m => by
      have := arP b v k 12 m 0 (by omega)
      rw [Nat.zero_mul, Nat.add_zero] at this; exact this
    have p0 : (prC lx ly tb)[2]? = some (.v (.int .i64 (atT tb 0 0))) := prT lx ly hlen (i := 0) (j := 0) (by omega) (by omega)
    have hsz : ∀ (s : Int) (L : ALoop), ((⟨some (.cells 0 0 24 1 false [ch]) :: some (.cells 0 0 24 1 false [ch']) :: some (.cells 0 0 89 1 false [ch]) :: some (.cells 0 0 3 1 false [.v (.int .i64 s)]) :: some (.cells 0 0 89 1 false [ch]) :: some (.cells 0 0 24 1 false [ch']) :: F, 0⟩ : Heap).plus (some .dfr :: some (.loop L) :: E)).size = F.length + 8 + E.length := fun s L => by rw [plus_size]; show F.length + 6 + (E.length + 2) = _; omega
    obtain ⟨X, hX⟩ : ∃ X, (⟨some (.cells 0 0 24 1 false [ch]) :: some (.cells 0 0 24 1 false [ch']) :: some (.cells 0 0 89 1 false [ch]) :: some (.cells 0 0 3 1 false [.v (.int .i64 s)]) :: some (.cells 0 0 89 1 false [ch]) :: some (.cells 0 0 24 1 false [ch']) :: F, 0⟩ : Heap).plus (some .dfr :: some (.loop L) :: E) = X := ⟨_, rfl⟩
    have hN : X.size = F.length + 8 + E.length := by rw [← hX]; exact hsz s L
    have hlk : X.lock ≤ F.length + 8 + E.length := by rw [← hX]; exact Nat.zero_le _
    rw [hX, ← plus_nil X]
    simp -implicitDefEqProofs only [go_sem, ↓reduceIte, Int.reduceEq, Int.reduceLT, Int.reduceLE, List.reduceReplicate, intA, setT_nil, setT_cons, ↓boolP_bool, ↓iteB_true, ↓iteB_false, List.zip_cons_cons, List.zip_nil_right, List.zip_nil_left, zero104, f0, n0, n1, d0, hfl, hbo, sizeP hN, putP0 hN, putP hN, settleP0 hN, settleP hN, rowP0 hN, rowP hN, storeP0 hN hlk, storeP hN hlk, List.length_nil, Nat.add_zero]
    refine asK_mk [some (.cells 0 0 124 1 false (prC lx ly tb))] (by rw [← hX, plus_plus]; simp only [List.cons_append]) ?_
    clear hX hN hlk
    obtain ⟨Z, hZ⟩ : ∃ Z, (⟨some (.cells 0 0 24 1 false [ch]) :: some (.cells 0 0 24 1 false [ch']) :: some (.cells 0 0 89 1 false [ch]) :: some (.cells 0 0 3 1 false [.v (.int .i64 s)]) :: some (.cells 0 0 89 1 false [ch]) :: some (.cells 0 0 24 1 false [ch']) :: F, 0⟩ : Heap).plus (some .dfr :: some (.loop L') :: E) = Z := ⟨_, rfl⟩
    obtain ⟨Z2, hZ2⟩ : ∃ Z, (⟨some (.cells 0 0 24 1 false [ch]) :: some (.cells 0 0 24 1 false [ch']) :: some (.cells 0 0 89 1 false [ch]) :: some (.cells 0 0 3 1 false [.v (.int .i64 (IntKind.i64.wrap (s + atT tb 0 0)))]) :: some (.cells 0 0 89 1 false [ch]) :: some (.cells 0 0 24 1 false [ch']) :: F, 0⟩ : Heap).plus (some .dfr :: some (.loop L') :: E) = Z := ⟨_, rfl⟩
    have hN : Z.size = F.length + 8 + E.length := by rw [← hZ]; exact hsz s L'
    have hlk : Z.lock ≤ F.length + 8 + E.length := by rw [← hZ]; exact Nat.zero_le _
    have hN2 : Z2.size = F.length + 8 + E.length := by rw [← hZ2]; exact hsz _ L'
    have hr3 : ∀ G, (Z.plus G).row 3 0 = some (0, 3, 1, false, [.v (.int .i64 s)]) := fun G => by rw [← hZ]; rfl
    have hs3 : ∀ G, storeCells (Z.plus G) 3 0 0 [.v (.int .i64 (IntKind.i64.wrap (s + atT tb 0 0)))] = some (Z2.plus G) := fun G => by rw [← hZ, ← hZ2]; rfl
    have hZp : (⟨some (.cells 0 0 24 1 false [ch]) :: some (.cells 0 0 24 1 false [ch']) :: some (.cells 0 0 89 1 false [ch]) :: some (.cells 0 0 3 1 false [.v (.int .i64 s)]) :: some (.cells 0 0 89 1 false [ch]) :: some (.cells 0 0 24 1 false [ch']) :: F, 0⟩ : Heap).plus (some .dfr :: some (.loop L') :: (E ++ [some (.cells 0 0 124 1 false (prC lx ly tb))])) = Z.plus [some (.cells 0 0 124 1 false (prC lx ly tb))] := by rw [← hZ, plus_plus]; simp only [List.cons_append]
    rw [hZp]
    simp -implicitDefEqProofs only [go_sem, ↓reduceIte, Int.reduceEq, Int.reduceLT, Int.reduceLE, List.reduceReplicate, intA, setT_nil, setT_cons, ↓boolP_bool, ↓iteB_true, ↓iteB_false, hr3, hs3, r0, p0, Nat.zero_add, sizeP hN, putP0 hN, putP hN, settleP0 hN, settleP hN, rowP0 hN, rowP hN, storeP0 hN hlk, storeP hN hlk, sizeP hN2, settleP0 hN2, settleP hN2, List.length_nil, Nat.add_zero, rngK_at]
    exact ⟨[some (.cells 0 0 124 1 false (prC lx ly tb))], by rw [← hZ2]; simp [Heap.plus]⟩
  · intro G
    rw [foldA, hres]
    have hkill : ∀ s : Int, killAll [F.length + 6] ((⟨some (.cells 0 0 24 1 false [ch]) :: some (.cells 0 0 24 1 false [ch']) :: some (.cells 0 0 89 1 false [ch]) :: some (.cells 0 0 3 1 false [.v (.int .i64 s)]) :: some (.cells 0 0 89 1 false [ch]) :: some (.cells 0 0 24 1 false [ch']) :: F, 0⟩ : Heap).plus (some .dfr :: some .dead :: G)) = some ((⟨some (.cells 0 0 24 1 false [ch]) :: some (.cells 0 0 24 1 false [ch']) :: some (.cells 0 0 89 1 false [ch]) :: some (.cells 0 0 3 1 false [.v (.int .i64 s)]) :: some (.cells 0 0 89 1 false [ch]) :: some (.cells 0 0 24 1 false [ch']) :: F, 0⟩ : Heap).plus (some .dead :: some .dead :: G)) := fun s => by
      have hn : (⟨some (.cells 0 0 24 1 false [ch]) :: some (.cells 0 0 24 1 false [ch']) :: some (.cells 0 0 89 1 false [ch]) :: some (.cells 0 0 3 1 false [.v (.int .i64 s)]) :: some (.cells 0 0 89 1 false [ch]) :: some (.cells 0 0 24 1 false [ch']) :: F, 0⟩ : Heap).size = F.length + 6 := rfl
      have g1 := plus_mid_get hn [] (some .dead :: G) (some .dfr)
      have g2 := plus_mid_put hn [] (some .dead :: G) (some .dfr) .dead
      simp only [List.length_nil, Nat.add_zero, List.nil_append] at g1 g2
      unfold killAll
      rw [g1]
      simp only
      rw [if_pos (by show 0 ≤ F.length + 6; exact Nat.zero_le _), g2]
      unfold killAll; rfl
    have hk := hkill (apartT t u)
    have hr3 : ∀ (s : Int) H, (⟨some (.cells 0 0 24 1 false [ch]) :: some (.cells 0 0 24 1 false [ch']) :: some (.cells 0 0 89 1 false [ch]) :: some (.cells 0 0 3 1 false [.v (.int .i64 s)]) :: some (.cells 0 0 89 1 false [ch]) :: some (.cells 0 0 24 1 false [ch']) :: F, 0⟩ : Heap).plus H = ⟨some (.cells 0 0 24 1 false [ch]) :: some (.cells 0 0 24 1 false [ch']) :: some (.cells 0 0 89 1 false [ch]) :: some (.cells 0 0 3 1 false [.v (.int .i64 s)]) :: some (.cells 0 0 89 1 false [ch]) :: some (.cells 0 0 24 1 false [ch']) :: (F ++ H), 0⟩ := fun s H => rfl
    rw [hr3] at hk ⊢
    rw [hr3] at hk
    simp -implicitDefEqProofs only [go_sem, ↓reduceIte, Int.reduceEq, Int.reduceLT, Int.reduceLE, List.reduceReplicate, intA, setT_nil, setT_cons, ↓boolP_bool, ↓iteB_true, ↓iteB_false, hk]
    rfl
end Go.Ev
/- The same, of functions that look at memory of their caller's. -/
namespace Go.Ev
def Yields2F (C : Cfg) (f : FuncId) (cap : List AV) (items : List (List AV)) (F : Heap → Prop) : Prop :=
  ∀ (l : Nat) (S : Type) (R : S → Fm → Prop) (stp : S → List AV → Bool × S) (ok : S → List AV → Prop) (live : S → Prop) (n0 k : Nat), Src2 C l S R stp ok live n0 k → (∀ s m H, R s m → Has m H → H.lock = k → F H) →
    ∀ s m H, okRun stp ok items s → live s → R s m → Has m H → H.lock = k → n0 ≤ H.size → ∃ H' m', lim C (.call f ([.yld l] ++ cap) H) = some (.ret (.tup []) H') ∧ R (runIt stp items s).2 m' ∧ Has m' H' ∧ Moves m H m' H'
section
variable {C : Cfg} {me : FuncId} {S : Type} {R : S → Fm → Prop} {stp : S → List AV → AExit × S} {lv : S → Prop} {ok : S → List AV → Prop} {n0 k d : Nat}
theorem wp_range2F {F : Heap → Prop} {f : FuncId} {cap : List AV} {items : List (List AV)} (hy : Yields2F C f cap items F) {g : Operand} {ps : Array Tmp} {asg body : Code} {a : AAct} {H : Heap} {K : Post} (hg : a.eval g = some (.fn (.func f) [] cap))
    (R : S → Fm → Prop) (stp : S → List AV → AExit × S) (lv : S → Prop) (ok : S → List AV → Prop) {n0 k : Nat} (hn0 : n0 ≤ H.size) (hk : k ≤ H.size) (hlen : ∀ x ∈ items, x.length = ps.size)
    (hF : ∀ s m H, R s m → Has m H → H.lock = k → F H) (hanch : ∀ s m, R s m → Anch n0 m) (hdm : ∀ s m, R s m → ¬ keyIn H.size m ∧ ¬ keyIn (H.size + 1) m)
    (hlv : ∀ s x, lv s → ok s x → (stp s x).1 = .normal → lv (stp s x).2)
    (hbody : ∀ (L L' : ALoop) s m x H', L'.dfr = H.size → lv s → ok s x → x.length = ps.size → R s m → Has m H' → H'.get H.size = some .dfr → loopObj H' (H.size + 1) = some L → H'.lock = k → H.size + 2 ≤ H'.size →
      Wp C me (some (H.size + 1)) asg ⟨a.size, setTmps a.size a.tmps (ps.toList.zip x), []⟩ H' (as2K C me R H.size body L L' m H' (stp s x)))
    (s0 : S) (m0 : Fm) (hok : okRun (fun s x => (isGo (stp s x).1, (stp s x).2)) ok items s0) (h0 : lv s0) (hR0 : R s0 m0) (hH0 : Has m0 H) (hlk : H.lock = k)
    (hK : ∀ m' H', R (foldE stp items s0).2 m' → Has m' H' → H'.get H.size = some .dfr → H'.get (H.size + 1) = some .dead → Moves m0 H ((H.size + 1, .dead) :: m') H' → H.size + 2 ≤ H'.size → AtK K (foldE stp items s0).1 ⟨a.size, a.tmps, H.size :: a.marks⟩ H') :
    Wp C me none (.rangeFunc g ps asg body) a H K := by
  generalize hd : H.size = d at *
  have hsrc := src2_range (C := C) (me := me) (R := R) (stp := stp) (lv := lv) (ok := ok) (sz := a.size) (ts := a.tmps) (ps := ps) (asg := asg) (body := body) hn0 hk hanch hdm hlv hbody
  have hbeg : (H.put d .dfr).put (d + 1) (.loop (busyL me a.size a.tmps ps asg body d .ready none)) = H.plus [some .dfr, some (.loop (busyL me a.size a.tmps ps asg body d .ready none))] := by
    have h1 : H.put d .dfr = H.plus [some .dfr] := by rw [← hd]; exact put_push _
    rw [h1]
    exact plus_put_end hd [some .dfr] (.loop (busyL me a.size a.tmps ps asg body d .ready none))
  generalize hHb : H.plus [some AObj.dfr, some (.loop (busyL me a.size a.tmps ps asg body d .ready none))] = Hb at hbeg
  have hsb : Hb.size = d + 2 := by rw [← hHb, plus_size, hd]; rfl
  have hg0 : Hb.get d = some .dfr := by
    rw [← hHb]; exact plus_mid_get hd [] _ _
  have hg1 : Hb.get (d + 1) = some (.loop (busyL me a.size a.tmps ps asg body d .ready none)) := by
    rw [← hHb]; exact plus_mid_get hd [some .dfr] [] _
  have hHasB : Has ((d, .dfr) :: (d + 1, .loop (busyL me a.size a.tmps ps asg body d .ready none)) :: m0) Hb := by
    intro p hp
    rcases List.mem_cons.1 hp with rfl | hp
    · exact hg0
    · rcases List.mem_cons.1 hp with rfl | hp
      · exact hg1
      · rw [← hHb]; exact hH0.plus _ p hp
  obtain ⟨H1, m1, hc1, ⟨m', hm', rfl⟩, hH1, hmv⟩ := hy (d + 1) (S × AExit) _ _ _ _ _ _ hsrc (fun q m' H hq hH hl => by obtain ⟨m, hm, rfl⟩ := hq; exact hF q.1 m H hm (fun p hp => hH p (List.mem_cons_of_mem _ (List.mem_cons_of_mem _ hp))) hl) (s0, .normal) _ Hb (okRun_q items s0 .normal hok hlen) ⟨h0, rfl⟩ ⟨m0, hR0, rfl⟩ hHasB (by rw [← hHb]; exact hlk) (by omega)
  have hanch1 := hsrc.anch _ _ ⟨m', hm', rfl⟩
  rw [run_range] at hm' hH1 hmv hanch1
  simp only at hm' hH1 hmv hanch1
  generalize hp : foldE stp items s0 = p at *
  have hcb := callB_yld (C := C) (me := me) (d := none) (l := d + 1) (by simp) hc1
  have hH2 := hH1.trim hanch1 (Nat.le_of_eq hsb.symm) [AV.tup []] []
  have hmv2 := hmv.trim [AV.tup []] [] (n := Hb.size) rfl
  generalize hT : H1.trim Hb.size [AV.tup []] [] = H2 at *
  have hl2 : H2.get (d + 1) = some (.loop (busyL me a.size a.tmps ps asg body d (stateOf p.1) (pend p.1))) := hH2 (d + 1, _) (by simp)
  have hd2 : H2.get d = some .dfr := hH2 (d, _) (by simp)
  have hs2 : d + 2 ≤ H2.size := by have := hmv2.size; omega
  have hfin : AtK K p.1 ⟨a.size, a.tmps, d :: a.marks⟩ (H2.put (d + 1) .dead) := by
    have hmd := hdm _ _ hm'
    refine hK m' (H2.put (d + 1) .dead) hm' ?_ ?_ ?_ ?_ ?_
    · intro q hq
      rw [put_get_ne _ (by omega) (fun e => hmd.2 ⟨q, hq, e⟩)]
      exact hH2 q (List.mem_cons_of_mem _ (List.mem_cons_of_mem _ hq))
    · rw [put_get_ne _ (by omega) (by omega)]; exact hd2
    · exact put_get_eq _ (by omega)
    · refine ⟨?_, ?_, fun b hb hnb => ?_, fun q hq => ?_⟩
      · show H2.lock = H.lock
        rw [hmv2.lock, ← hHb]; rfl
      · rw [put_sizeI _ (by omega)]; omega
      · rw [put_get_ne _ (by omega) (by omega), hmv2.same b (by omega) ?_, ← hHb]
        · exact plus_get _ hb
        · rintro ⟨q, hq, he⟩
          rcases List.mem_cons.1 hq with rfl | hq
          · simp only at he; omega
          · rcases List.mem_cons.1 hq with rfl | hq
            · simp only at he; omega
            · exact hnb ⟨q, hq, he⟩
      · rcases List.mem_cons.1 hq with rfl | hq
        · exact Or.inr (by simp only; omega)
        · rcases hmv2.keys q (List.mem_cons_of_mem _ (List.mem_cons_of_mem _ hq)) with ⟨r, hr, he⟩ | h
          · rcases List.mem_cons.1 hr with rfl | hr
            · exact absurd ⟨q, hq, he.symm⟩ hmd.1
            · rcases List.mem_cons.1 hr with rfl | hr
              · exact absurd ⟨q, hq, he.symm⟩ hmd.2
              · exact Or.inl ⟨r, hr, he⟩
          · exact Or.inr (by omega)
    · rw [put_sizeI _ (by omega)]; exact hs2
  refine wp_range0 (f := f) (first := []) (cap := cap) hg (v := .tup []) (H2 := H2) ?_ (r := busyL me a.size a.tmps ps asg body d (stateOf p.1) (pend p.1)) ?_ ?_ ?_ ?_
  · rw [hd]
    rw [← hbeg] at hcb
    exact hcb
  · rw [hd]; exact get_loopObj hl2
  · unfold busyL stateOf; cases p.1 <;> simp [pend]
  · rw [hd]; rfl
  · rw [hd]
    obtain ⟨e, s⟩ := p
    cases e with
    | normal => exact hfin
    | ret => exact hfin
    | exit i => exact hfin
end
section
variable {C : Cfg} {me : FuncId} {S : Type}
end
end Go.Ev
namespace Go.Ev
open Go.Proofs
set_option maxRecDepth 100000
set_option linter.unusedSimpArgs false
attribute [local irreducible] Wp WpS
/-- a call of what is handed in, where what is known of memory lies before the region -/
theorem effV_yld2 {C : Cfg} {me : FuncId} {d : Option Tmp} {l : Nat} {S : Type} {R : S → Fm → Prop} {stp : S → List AV → Bool × S} {ok : S → List AV → Prop} {live : S → Prop} {n0 k base top : Nat} {G : Heap} {cont : AV → Heap → Prop} (hsrc : Src2 C l S R stp ok live n0 k) (s : S) (m : Fm) (x : List AV) (hlv : live s) (hok : ok s x)
    (hR : R s m) (hH : Has m G) (hm : ∀ p ∈ m, p.1 < base) (hk : G.lock = k) (hn : n0 ≤ G.size) (ht : top = G.size) (hbt : base ≤ top)
    (hcont : ∀ m' G', R (stp s x).2 m' → Has m' G' → G'.lock = k → G.size ≤ G'.size → (∀ b, b < base → ¬ keyIn b m → G'.get b = G.get b) → (∀ p ∈ m', keyIn p.1 m ∨ G.size ≤ p.1) → cont (.v (.bool (stp s x).1)) G') : effV C me base top d (.yld l) x G cont := by
  refine ⟨rfl, fun Gh h1 h2 h3 => ?_⟩
  have hHh : Has m Gh := fun p hp => (h3 p.1 (Or.inl (hm p hp))).trans (hH p hp)
  obtain ⟨Y, m', hY, hR', hH', hmv⟩ := hsrc.round s m x Gh hlv hok hR hHh (h1.trans hk) (by omega)
  refine ⟨.v (.bool (stp s x).1), Y, by unfold callX; simp only [hY], by have := hmv.size; omega, fun G' g1 g2 g3 _ => ?_⟩
  have hkeys : ∀ p ∈ m', keyIn p.1 m ∨ G.size ≤ p.1 := fun p hp => by rw [← h2]; exact hmv.keys p hp
  refine hcont m' G' hR' (fun p hp => ?_) (g1.trans hk) (by have := hmv.size; omega) (fun b hb hnb => ?_) hkeys
  · rw [g3 p.1 ?_]
    · exact hH' p hp
    · rcases hkeys p hp with ⟨q, hq, he⟩ | h
      · left; rw [← he]; exact hm q hq
      · right; omega
  · rw [g3 b (Or.inl hb)]
    rcases Nat.lt_or_ge b Gh.size with h | h
    · rw [hmv.same b h hnb, h3 b (Or.inl hb)]
    · omega
/-- readings of a pair that lies in memory -/
theorem call53 {e : Exts} (he : Quiet e) {X : Heap} {b : Nat} {lx ly : AV} {a c : Line} {tb : List Int} (h : PrH X b lx ly a c tb) (ha : a.length ≤ 10) (hc : c.length ≤ 10) (hT : TabOK a c tb (-1) 0) (k n w : Int) (me : FuncId) (d : Option Tmp) : callA (Cx e) (lim (Cx e)) me 65 d [.ptr b 0 0, .agg [.v (.int .i64 k), .v (.int .i64 n), .v (.int .i64 w)]] X = some (ofV (foundL k n 0 a c), X) := by
  have hb : boundL [AV.ptr b 0 0, .agg [.v (.int .i64 k), .v (.int .i64 n), .v (.int .i64 w)]] ≠ 0 := by
    intro h0
    have : Nat.max (b + 1) (Nat.max (Nat.max 0 (Nat.max 0 (Nat.max 0 0))) 0) = 0 := h0
    have h1 := Nat.le_max_left (b + 1) (Nat.max (Nat.max 0 (Nat.max 0 (Nat.max 0 0))) 0)
    have h2 : b + 1 ≤ 0 := this ▸ h1
    omega
  unfold callA callB callKind
  rw [ext_65 he]
  simp only [pure_65, if_true]
  have h2 := fn53 he (X := { X with lock := X.size }) (h.lock _) rfl ha hc hT k n w
  unfold Fn' at h2
  rw [bindO_iff] at h2
  obtain ⟨o, h3, h4⟩ := h2
  rw [if_neg (fun h => hb (Nat.eq_of_beq_eq_true h)), show ([AV.ptr b 0 0, .agg [.v (.int .i64 k), .v (.int .i64 n), .v (.int .i64 w)]]).any isYld = false from rfl]
  simp only [Bool.false_eq_true, if_false]
  cases o with
  | ret v H =>
    simp only [intA] at h3
    simp only [h3]
    exact congrArg (Option.map fun v => (v, X)) h4
  | _ => exact h4.elim
theorem stillV_53 {e : Exts} (he : Quiet e) {me : FuncId} {vl : List Nat} {d : Option Tmp} {G : Heap} {cont : AV → Heap → Prop} {b base top : Nat} {lx ly : AV} {a c : Line} {tb : List Int} (h : PrH G b lx ly a c tb) (hb : b < base) (ha : a.length ≤ 10) (hc : c.length ≤ 10) (hT : TabOK a c tb (-1) 0) (k n w : Int)
    (hcont : cont (ofV (foundL k n 0 a c)) G) : stillV (Cx e) me base top vl d (.fn (.func 65) [] []) [.ptr b 0 0, .agg [.v (.int .i64 k), .v (.int .i64 n), .v (.int .i64 w)]] G cont := by
  refine ⟨?_, _, fun Gh h1 h2 h3 => ⟨Gh, ?_⟩, hcont⟩
  · unfold kind2
    have hk : callKind (Cx e) me 65 d ([] ++ [AV.ptr b 0 0, .agg [.v (.int .i64 k), .v (.int .i64 n), .v (.int .i64 w)]] ++ []) = 2 := by
      unfold callKind
      rw [pure_65]
      have hb : ¬ (Nat.beq (boundL ([] ++ [AV.ptr b 0 0, .agg [.v (.int .i64 k), .v (.int .i64 n), .v (.int .i64 w)]] ++ [])) 0 = true) := by
        intro h0
        have h0 := Nat.eq_of_beq_eq_true h0
        have : Nat.max (b + 1) (Nat.max (Nat.max 0 (Nat.max 0 (Nat.max 0 0))) 0) = 0 := h0
        have h1 := Nat.le_max_left (b + 1) (Nat.max (Nat.max 0 (Nat.max 0 (Nat.max 0 0))) 0)
        have h2 : b + 1 ≤ 0 := this ▸ h1
        omega
      rw [if_pos rfl, if_neg hb]; rfl
    simp only [ext_65 he, hk]; rfl
  · unfold callX
    simp only [List.nil_append, List.append_nil]
    obtain ⟨mm, g, hr⟩ := h.row
    exact call53 he ⟨by rw [h2]; exact h.lt, ⟨mm, g, get_row ((h3 b (Or.inl hb)).trans (row_of_get hr))⟩, h.left, h.right, h.len⟩ ha hc hT k n w me d
end Go.Ev
namespace Go.Ev
open Go.Proofs
set_option maxRecDepth 100000
set_option linter.unusedSimpArgs false
attribute [local irreducible] Wp WpS
theorem bd2K_at {S : Type} (R : S → Fm → Prop) (d : Nat) (L' : ALoop) (m : Fm) (H : Heap) (p : AExit × S) (e : AExit) (a : AAct) (H' : Heap) : AtK (bd2K R d L' m H p) e a H' = (e = p.1 ∧ ∃ m', R p.2 m' ∧ Has m' H' ∧ loopObj H' (d + 1) = some L' ∧ Moves ((d + 1, .loop L') :: m) H ((d + 1, .loop L') :: m') H') := rfl
theorem okRun72 {S : Type} {e : Exts} {ch2 : AV} (tbf : Nat → Nat → List Int) (xf : Nat → Nat → AV) (stp : S → List AV → Bool × S) (ok : S → List AV → Prop) : ∀ (T : List (List AV)) (s : S), (∀ x ∈ T, Ok72 (fun _ => True) tbf xf e ch2 x) → okRun stp ok (T.map (pairI tbf xf)) s → okRun (fun s x => (isGo (stp72 tbf xf stp s x).1, (stp72 tbf xf stp s x).2)) (fun s x => Ok72 (ok s) tbf xf e ch2 x) T s
  | [], _, _, _ => trivial
  | x :: r, s, hx, h => by
    rw [List.map_cons] at h
    refine ⟨?_, fun hg => ?_⟩
    · obtain ⟨i, k, lx, a, c, rfl, h1, h2, h3, -, h5, h6⟩ := hx x (List.mem_cons_self ..)
      exact ⟨i, k, lx, a, c, rfl, h1, h2, h3, h.1, h5, h6⟩
    · refine okRun72 tbf xf stp ok r _ (fun y hy => hx y (List.mem_cons_of_mem _ hy)) (h.2 ?_)
      unfold stp72 at hg
      simp only at hg
      cases hq : (stp s (pairI tbf xf x)).1 with
      | true => rfl
      | false => rw [hq] at hg; cases hg
/-- what is known while the pairs are handed over -/
def R72 {S : Type} (R : S → Fm → Prop) (N : Nat) (l : Nat) (s : S) (m : Fm) : Prop := ∃ m0, R s m0 ∧ ¬ keyIn N m0 ∧ ¬ keyIn (N + 1) m0 ∧ ¬ keyIn (N + 2) m0 ∧ m = (N, .cells 0 (bound (.yld l)) 152 1 false [.yld l]) :: m0
set_option maxHeartbeats 4000000 in
theorem yields2_72 {e : Exts} (he : Quiet e) (ch : AV) (xs : List AV) (hch : SlOf 2 xs ch) (hall : ∀ y ∈ xs, OkCh y) (hlen : xs.length < 2 ^ 63) (ch2 : AV) (b1 b2 : Nat) (tbf : Nat → Nat → List Int) (xf : Nat → Nat → AV)
    (hcall : ∀ x ∈ chapIts 0 xs, Ok72 (fun _ => True) tbf xf e ch2 x) : Yields2F (Cx e) 89 [.ptr b1 0 0, .ptr b2 0 0] ((chapIts 0 xs).map (pairI tbf xf)) (F72 b1 b2 ch ch2) := by
  intro l S R stp ok live n0 k hsrc hF s m H hok hlv hR hH hlk hsz
  have hk0 : k = 0 := hlk.symm.trans (hF s m H hR hH hlk).1
  subst hk0
  have key : Fn' (Cx e) 89 [.yld l, .ptr b1 0 0, .ptr b2 0 0] H fun v H' => v = .tup [] ∧ ∃ m', R (runIt stp ((chapIts 0 xs).map (pairI tbf xf)) s).2 m' ∧ Has m' H' ∧ Moves m H m' H' := by
    obtain ⟨N, hN⟩ : ∃ N, H.size = N := ⟨_, rfl⟩
    have hlkN : H.lock ≤ N := by omega
    generalize hKK : (fun v H' => v = .tup [] ∧ ∃ m', R (runIt stp ((chapIts 0 xs).map (pairI tbf xf)) s).2 m' ∧ Has m' H' ∧ Moves m H m' H' : PostO) = KK
    have hrX : ∀ F, (H.plus F).row b1 0 = some (0, 89, 1, false, [ch]) := fun F => ((hF s m H hR hH hlk).plus F).2.1
    rw [fn_step (fn_89 e) (show Try.f89.body = some _ from rfl), ← plus_nil H]
    simp -implicitDefEqProofs only [Try.f89, go_sem, ↓reduceIte, Int.reduceEq, Int.reduceLT, Int.reduceLE, List.reduceReplicate, intA, setT_nil, setT_cons, ↓boolP_bool, ↓iteB_true, ↓iteB_false, sizeP hN, putP0 hN, putP hN, settleP0 hN, settleP hN, rowP0 hN, rowP hN, storeP0 hN hlkN, storeP hN hlkN, List.length_nil, Nat.add_zero, hrX, hch.cells, call64 he ch xs hch]
    have hN1 : (H.plus [some (.cells 0 (bound (.yld l)) 152 1 false [.yld l])]).size = N + 1 := by rw [plus_size, hN]; rfl
    have hgN : (H.plus [some (.cells 0 (bound (.yld l)) 152 1 false [.yld l])]).get N = some (.cells 0 (bound (.yld l)) 152 1 false [.yld l]) := plus_mid_get hN [] [] _
    refine wp_range2 (yields2_88 ch xs hch hall hlen) rfl (R72 R N l) (stp72 tbf xf stp) live (fun s x => Ok72 (ok s) tbf xf e ch2 x) (n0 := N + 1) (k := 0) (by rw [hN1]; exact Nat.le_refl _) (Nat.zero_le _) (fun x hx => ?_) ?_ ?_ (fun s x hl hx h => ?_) ?_ s ((N, .cells 0 (bound (.yld l)) 152 1 false [.yld l]) :: m) (okRun72 tbf xf stp ok _ s hcall hok) hlv ⟨m, hR, not_key hH (by omega), not_key hH (by omega), not_key hH (by omega), rfl⟩ ?_ (by rw [plus_lock]; exact hlk) ?_
    · obtain ⟨i, k, lx, a, c, rfl, -⟩ := hcall x hx
      rfl
    · rintro s' m' ⟨m0, hR0, k1, k2, k3, rfl⟩ n hn ⟨p, hp, hpn⟩
      rcases List.mem_cons.1 hp with rfl | hp
      · simp only at hpn; omega
      · obtain ⟨q, hq, h1, h2⟩ := hsrc.anch s' m0 hR0 n (by omega) ⟨p, hp, hpn⟩
        exact ⟨q, List.mem_cons_of_mem _ hq, h1, h2⟩
    · rintro s' m' ⟨m0, hR0, k1, k2, k3, rfl⟩
      rw [hN1]
      constructor
      · rintro ⟨p, hp, he⟩
        rcases List.mem_cons.1 hp with rfl | hp
        · simp only at he; omega
        · exact k2 ⟨p, hp, he⟩
      · rintro ⟨p, hp, he⟩
        rcases List.mem_cons.1 hp with rfl | hp
        · simp only at he; omega
        · exact k3 ⟨p, hp, he⟩
    · obtain ⟨i, k, lx, a, c, rfl, h1, h2, h3, h4, h5, h6⟩ := hx
      refine hsrc.step _ _ hl h4 ?_
      unfold stp72 at h
      simp only at h
      cases hq : (stp s (pairI tbf xf [placeA i k 0, lx])).1 with
      | true => rfl
      | false => rw [hq] at h; cases h
    · rw [hN1]
      rintro L L' s x' x H' - hl ⟨i, k, lx, a, c, rfl, h1, h2, h3, h4, h5, h6⟩ - ⟨m0, hR0, k1, k2, k3, rfl⟩ hHm hd0 hlo hlk' hsz'
      have hHm0 : Has m0 H' := fun p hp => hHm p (List.mem_cons_of_mem _ hp)
      obtain ⟨N2, hN2⟩ : ∃ N2, H'.size = N2 := ⟨_, rfl⟩
      have hlk2 : H'.lock ≤ N2 := by omega
      have hp1 : stp72 tbf xf stp s [placeA i k 0, lx] = (if (stp s (pairI tbf xf [placeA i k 0, lx])).1 then .normal else .ret, (stp s (pairI tbf xf [placeA i k 0, lx])).2) := rfl
      generalize stp72 tbf xf stp s [placeA i k 0, lx] = p72 at hp1 ⊢
      have hgN' : H'.get N = some (.cells 0 (bound (.yld l)) 152 1 false [.yld l]) := hHm (N, _) (List.mem_cons_self ..)
      rw [← plus_nil H']
      simp -implicitDefEqProofs only [go_sem, ↓reduceIte, Int.reduceEq, Int.reduceLT, Int.reduceLE, List.reduceReplicate, intA, setT_nil, setT_cons, ↓boolP_bool, ↓iteB_true, ↓iteB_false, placeA, List.zip_cons_cons, List.zip_nil_right, List.zip_nil_left, sizeP hN2, putP0 hN2, putP hN2, settleP0 hN2, settleP hN2, rowP0 hN2, rowP hN2, storeP0 hN2 hlk2, storeP hN2 hlk2, List.length_nil, Nat.add_zero]
      obtain ⟨E0, hE0⟩ : ∃ E0 : List (Option AObj), [some (.cells 0 0 26 1 false [.v (.int .i64 i), .v (.int .i64 k), .v (.int .i64 0)])] = E0 := ⟨_, rfl⟩
      have hlo1 : loopObj (H'.plus E0) (N + 1 + 1) = some L := get_loopObj ((plus_get _ (by omega)).trans (loopObj_getI hlo))
      rw [hE0, plus_nil]
      refine ⟨rfl, hlo1, ?_⟩
      obtain ⟨X, hX⟩ : ∃ X, (H'.plus E0).put (N + 1 + 1) (.loop L') = X := ⟨_, rfl⟩
      have hszE : (H'.plus E0).size = N2 + 1 := by rw [plus_size, hN2, ← hE0]; rfl
      have hN3 : X.size = N2 + 1 := by rw [← hX, put_sizeI _ (by omega)]; exact hszE
      have hXg : ∀ b, b ≠ N + 1 + 1 → b < N2 → X.get b = H'.get b := fun b hb hb2 => by rw [← hX, put_get_ne _ (by omega) hb]; exact plus_get _ (by omega)
      have hXlk : X.lock = 0 := by rw [← hX]; exact hlk'
      have hlk3 : X.lock ≤ N2 + 1 := by omega
      have hXL : X.get (N + 1 + 1) = some (.loop L') := by rw [← hX]; exact put_get_eq _ (by omega)
      have hXc : X.get N2 = some (.cells 0 0 26 1 false [.v (.int .i64 i), .v (.int .i64 k), .v (.int .i64 0)]) := by rw [← hX, put_get_ne _ (by omega) (by omega), ← hE0]; exact plus_mid_get hN2 [] [] _
      have hXH : Has m0 X := fun p hp => (hXg p.1 (fun he => k3 ⟨p, hp, by omega⟩) (by have := get_ltS (hHm0 p hp); omega)).trans (hHm0 p hp)
      have hXN : X.get N = some (.cells 0 (bound (.yld l)) 152 1 false [.yld l]) := (hXg N (by omega) (by omega)).trans hgN'
      have hXF := hF s m0 X hR0 hXH hXlk
      have hb2n : b2 < N2 + 1 := by have := get_ltS (row_of_get hXF.2.2); omega
      have hrbX : ∀ F, (X.plus F).row N 0 = some (bound (.yld l), 152, 1, false, [.yld l]) := fun F => get_row ((plus_get _ (by omega)).trans hXN)
      have hrcX : ∀ F, (X.plus F).row N2 0 = some (0, 26, 1, false, [.v (.int .i64 i), .v (.int .i64 k), .v (.int .i64 0)]) := fun F => get_row ((plus_get _ (by omega)).trans hXc)
      have hr2X : ∀ F, (X.plus F).row b2 0 = some (0, 24, 1, false, [ch2]) := fun F => (hXF.plus F).2.2
      have g1 : ltB N (N2 + 1) = true := by unfold ltB; simp; omega
      have g2 : ltB N2 (N2 + 1) = true := by unfold ltB; simp
      have g3 : ltB b2 (N2 + 1) = true := by unfold ltB; simp; omega
      rw [hX, ← plus_nil X]
      simp -implicitDefEqProofs only [go_sem, ↓reduceIte, Int.reduceEq, Int.reduceLT, Int.reduceLE, List.reduceReplicate, intA, setT_nil, setT_cons, ↓boolP_bool, ↓iteB_true, ↓iteB_false, sizeP hN3, putP0 hN3, putP hN3, settleP0 hN3, settleP hN3, rowP0 hN3, rowP hN3, storeP0 hN3 hlk3, storeP hN3 hlk3, List.length_nil, Nat.add_zero]
      refine wp_drawX [([], [], false), ([0], [], false), ([], [], false), ([0, 1], [], false), ([], [], false), ([0, 1, 3], [], false), ([0, 1], [], false), ([0, 1], [], false), ([], [], true), ([], [], false)] (by kernel_rfl) (by kernel_rfl) ?_
      simp -implicitDefEqProofs only [go_sem, ↓reduceIte, Int.reduceEq, Int.reduceLT, Int.reduceLE, List.reduceReplicate, intA, setT_nil, setT_cons, ↓boolP_bool, ↓iteB_true, ↓iteB_false, hrbX, hrcX, hr2X, g1, g2, g3, h5, h6, List.isEmpty_nil, sizeP hN3, putP0 hN3, putP hN3, settleP0 hN3, settleP hN3, rowP0 hN3, rowP hN3, storeP0 hN3 hlk3, storeP hN3 hlk3, List.length_nil, Nat.add_zero]
      show effV _ _ _ _ _ _ (pairI tbf xf [placeA i k 0, lx]) _ _
      have hltX : ∀ p ∈ m0, p.1 < N2 + 1 := fun p hp => by have := get_ltS (hXH p hp); omega
      refine effV_yld2 hsrc s m0 _ hl h4 hR0 (hXH.plus _) hltX ((plus_lock _ _).trans hXlk) (by rw [plus_size]; omega) (by rw [plus_size, hN3]; rfl) (by omega) fun m1 G' q1 q2 q3 q4 q5 q6 => ?_
      show AtO (contP _ _ _ _ _ _ _ _ _ _ _) _ _
      rw [plus_size, hN3] at q4 q6
      rw [hp1]
      generalize hZ : settleH (N2 + 1) G' = Z
      have hZH : Has m1 Z := by rw [← hZ]; exact q2.settle _
      have hZl : Z.lock = 0 := by rw [← hZ]; exact settle_lock.trans q3
      have hZg : ∀ b, b < N2 + 1 → ¬ keyIn b m0 → Z.get b = X.get b := fun b hb hnb => by rw [← hZ, settle_lo hb, q5 b hb hnb]; exact plus_get _ (by omega)
      have hZs : N2 + 1 ≤ Z.size := by rw [← hZ]; exact settle_size' (by omega)
      have hfin : ∃ m', R72 R N l (stp s (pairI tbf xf [placeA i k 0, lx])).2 m' ∧ Has m' Z ∧ loopObj Z (N + 1 + 1) = some L' ∧ Moves ((N + 1 + 1, .loop L') :: (N, .cells 0 (bound (.yld l)) 152 1 false [.yld l]) :: m0) H' ((N + 1 + 1, .loop L') :: m') Z := by
        have hoff : ∀ b, b ≤ N + 2 → ¬ keyIn b m0 → ¬ keyIn b m1 := by
          rintro b hb hnb ⟨p, hp, he⟩
          rcases q6 p hp with ⟨q, hq, he2⟩ | h
          · exact hnb ⟨q, hq, by omega⟩
          · omega
        refine ⟨(N, .cells 0 (bound (.yld l)) 152 1 false [.yld l]) :: m1, ⟨m1, q1, hoff _ (by omega) k1, hoff _ (by omega) k2, hoff _ (by omega) k3, rfl⟩, fun p hp => ?_, get_loopObj ((hZg _ (by omega) k3).trans hXL), ?_, by omega, fun b hb hnb => ?_, fun p hp => ?_⟩
        · rcases List.mem_cons.1 hp with rfl | hp
          · exact (hZg N (by omega) k1).trans hXN
          · exact hZH p hp
        · rw [hZl, hlk']
        · have h9 : ¬ keyIn b m0 := fun ⟨q, hq, he⟩ => hnb ⟨q, List.mem_cons_of_mem _ (List.mem_cons_of_mem _ hq), he⟩
          have h10 : b ≠ N + 1 + 1 := fun he => hnb ⟨_, List.mem_cons_self .., he.symm⟩
          rw [hZg b (by omega) h9, hXg b h10 (by omega)]
        · rcases List.mem_cons.1 hp with rfl | hp
          · exact Or.inl ⟨_, List.mem_cons_self .., rfl⟩
          · rcases List.mem_cons.1 hp with rfl | hp
            · exact Or.inl ⟨_, List.mem_cons_of_mem _ (List.mem_cons_self ..), rfl⟩
            · rcases q6 p hp with ⟨q, hq, he⟩ | h
              · exact Or.inl ⟨q, List.mem_cons_of_mem _ (List.mem_cons_of_mem _ hq), he⟩
              · exact Or.inr (by omega)
      generalize stp s (pairI tbf xf [placeA i k 0, lx]) = r at hfin ⊢
      obtain ⟨rb, rs⟩ := r
      simp only at hfin
      cases rb
      · simp -implicitDefEqProofs only [go_sem, ↓reduceIte, Int.reduceEq, Int.reduceLT, Int.reduceLE, List.reduceReplicate, intA, setT_nil, setT_cons, ↓boolP_bool, ↓iteB_true, ↓iteB_false, hZ, bd2K_at]
        exact hfin
      · simp -implicitDefEqProofs only [go_sem, ↓reduceIte, Int.reduceEq, Int.reduceLT, Int.reduceLE, List.reduceReplicate, intA, setT_nil, setT_cons, ↓boolP_bool, ↓iteB_true, ↓iteB_false, hZ, bd2K_at]
        exact hfin
    · intro p hp
      rcases List.mem_cons.1 hp with rfl | hp
      · exact hgN
      · exact hH.plus _ p hp
    · rw [hN1]
      rintro m' H' ⟨m1, hR1, k1, k2, k3, rfl⟩ hH1 hd hdd hmv hsz'
      rw [fold72] at hR1 ⊢
      generalize hr : runIt stp ((chapIts 0 xs).map (pairI tbf xf)) s = r at hKK hR1 ⊢
      simp only at hR1 ⊢
      have hlk' : H'.lock = 0 := by rw [hmv.lock, plus_lock]; exact hlk
      have hkill : killAll [N + 1] H' = some (H'.put (N + 1) .dead) := by
        unfold killAll
        rw [hd]
        simp only
        rw [if_pos (by omega)]
        unfold killAll; rfl
      have hfin : ∃ m', R r.2 m' ∧ Has m' (H'.put (N + 1) .dead) ∧ Moves m H m' (H'.put (N + 1) .dead) := by
        refine ⟨m1, hR1, fun p hp => ?_, ?_, ?_, fun b hb hnb => ?_, fun p hp => ?_⟩
        · rw [put_get_ne _ (by omega) (fun he => k2 ⟨p, hp, he⟩)]
          exact hH1 p (List.mem_cons_of_mem _ hp)
        · show H'.lock = H.lock
          omega
        · rw [put_sizeI _ (by omega)]; omega
        · rw [put_get_ne _ (by omega) (by omega), hmv.same b (by omega) ?_]
          · exact plus_get _ hb
          · rintro ⟨q, hq, he⟩
            rcases List.mem_cons.1 hq with rfl | hq
            · simp only at he; omega
            · exact hnb ⟨q, hq, he⟩
        · rcases hmv.keys p (List.mem_cons_of_mem _ (List.mem_cons_of_mem _ hp)) with ⟨q, hq, he⟩ | h
          · rcases List.mem_cons.1 hq with rfl | hq
            · exact absurd ⟨p, hp, he.symm⟩ k1
            · exact Or.inl ⟨q, hq, he⟩
          · exact Or.inr (by omega)
      subst hKK
      cases hb : r.1 with
      | true =>
        simp -implicitDefEqProofs only [go_sem, ↓reduceIte, Int.reduceEq, Int.reduceLT, Int.reduceLE, List.reduceReplicate, intA, setT_nil, setT_cons, ↓boolP_bool, ↓iteB_true, ↓iteB_false, hkill]
        exact ⟨rfl, hfin⟩
      | false =>
        simp -implicitDefEqProofs only [go_sem, ↓reduceIte, Int.reduceEq, Int.reduceLT, Int.reduceLE, List.reduceReplicate, intA, setT_nil, setT_cons, ↓boolP_bool, ↓iteB_true, ↓iteB_false, hkill]
        exact ⟨rfl, hfin⟩
  obtain ⟨v, H', h1, h2⟩ : ∃ v H', lim (Cx e) (.call 89 ([.yld l] ++ [.ptr b1 0 0, .ptr b2 0 0]) H) = some (.ret v H') ∧ (v = .tup [] ∧ ∃ m', R (runIt stp ((chapIts 0 xs).map (pairI tbf xf)) s).2 m' ∧ Has m' H' ∧ Moves m H m' H') := by
    unfold Fn' at key
    rw [bindO_iff] at key
    obtain ⟨o, h1, h2⟩ := key
    cases o with
    | ret v H' => exact ⟨v, H', h1, h2⟩
    | _ => exact h2.elim
  obtain ⟨rfl, m', h3, h4, h5⟩ := h2
  exact ⟨H', m', h1, h3, h4, h5⟩
end Go.Ev
namespace Go.Ev
open Go.Proofs
set_option maxRecDepth 100000
set_option linter.unusedSimpArgs false
attribute [local irreducible] Wp WpS
/-! ### readings found so far, and where they lie -/
def fI (fnd : Nat → Nat → List Rd) (x : List AV) : List Rd := match x with
  | .agg (.v (.int _ i) :: .v (.int _ k) :: _) :: _ => fnd i.toNat k.toNat
  | _ => []
theorem fI_at (fnd : Nat → Nat → List Rd) (i k : Nat) (r : List AV) : fI fnd (placeA i k 0 :: r) = fnd i k := rfl
def stp22 (fnd : Nat → Nat → List Rd) (s : List Rd) (x : List AV) : AExit × List Rd := (.normal, s ++ fI fnd x)
def okI22 (fnd : Nat → Nat → List Rd) (x : List AV) : Prop := ∃ (i k : Nat) (lx ly : AV) (a c : Line) (tb : List Int), x = [placeA i k 0, .agg (prC lx ly tb)] ∧ SlOf 1 (strs a) lx ∧ SlOf 1 (strs c) ly ∧ a.length ≤ 10 ∧ c.length ≤ 10 ∧ TabOK a c tb (-1) 0 ∧ fnd i k = foundL i k 0 a c
def ok22 (fnd : Nat → Nat → List Rd) (s : List Rd) (x : List AV) : Prop := okI22 fnd x ∧ s.length < 2 ^ 31
theorem fI_len {fnd : Nat → Nat → List Rd} {x : List AV} (h : okI22 fnd x) : (fI fnd x).length ≤ 20 := by
  obtain ⟨i, k, lx, ly, a, c, tb, rfl, -, -, ha, hc, -, hf⟩ := h
  rw [fI_at, hf, found_len]
  have := dist_sum a c; omega
theorem run22 (fnd : Nat → Nat → List Rd) : ∀ (T : List (List AV)) (s : List Rd), (∀ x ∈ T, okI22 fnd x) → s.length + 20 * T.length < 2 ^ 31 →
    okRun (fun s x => (isGo (stp22 fnd s x).1, (stp22 fnd s x).2)) (ok22 fnd) T s ∧ foldE (stp22 fnd) T s = (.normal, s ++ T.flatMap (fI fnd))
  | [], s, _, _ => ⟨trivial, by simp [foldE]⟩
  | x :: r, s, h, hl => by
    have h1 := fI_len (h x (List.mem_cons_self ..))
    rw [List.length_cons] at hl
    have ih := run22 fnd r (s ++ fI fnd x) (fun z hz => h z (List.mem_cons_of_mem _ hz)) (by rw [List.length_append]; omega)
    refine ⟨⟨⟨h x (List.mem_cons_self ..), by omega⟩, fun _ => ih.1⟩, ?_⟩
    rw [foldE_go rfl]
    show foldE (stp22 fnd) r (s ++ fI fnd x) = _
    rw [ih.2, List.flatMap_cons, List.append_assoc]
def L22 (D : Nat) (s : List Rd) (lv : AV) (m2 : Nat) (rows : Fm) : Prop := (s = [] ∧ lv = .v (.slice none 0 0) ∧ rows = []) ∨ ∃ b v, s ≠ [] ∧ lv = .sl b v 0 s.length none ∧ D + 2 ≤ b ∧ b < m2 ∧ rows = [(b, .cells v 0 108 5 true (rdCells s))]
def base22 (ch ch' : AV) (id : Int) (lv : AV) (m2 : Nat) : Fm := [(2, .cells 0 0 62 1 false [intA 0, .v (.slice none 0 0)]), (4, .cells 0 m2 62 1 false [intA id, lv]), (5, .cells 0 0 89 1 false [ch]), (6, .cells 0 0 24 1 false [ch'])]
def R22 (D : Nat) (ch ch' : AV) (id : Int) (s : List Rd) (m : Fm) : Prop := ∃ lv m2 rows, L22 D s lv m2 rows ∧ m = base22 ch ch' id lv m2 ++ rows
theorem base22_lt {ch ch' : AV} {id : Int} {lv : AV} {m2 : Nat} {p : Nat × AObj} (h : p ∈ base22 ch ch' id lv m2) : p.1 < 7 := by
  unfold base22 at h
  simp only [List.mem_cons, List.not_mem_nil, or_false] at h
  rcases h with rfl | rfl | rfl | rfl <;> simp
theorem L22.lo {D : Nat} {s : List Rd} {lv : AV} {m2 : Nat} {rows : Fm} (h : L22 D s lv m2 rows) {p : Nat × AObj} (hp : p ∈ rows) : D + 2 ≤ p.1 ∧ p.1 < m2 := by
  rcases h with ⟨-, -, rfl⟩ | ⟨b, v, -, -, h5, hb, rfl⟩
  · exact nomatch hp
  · rw [List.mem_singleton.1 hp]; exact ⟨h5, hb⟩
theorem R22_anch {D : Nat} {ch ch' : AV} {id : Int} (s : List Rd) (m : Fm) (h : R22 D ch ch' id s m) : Anch 7 m := by
  obtain ⟨lv, m2, rows, hl, rfl⟩ := h
  rintro n hn ⟨p, hp, hnp⟩
  refine ⟨(4, .cells 0 m2 62 1 false [intA id, lv]), List.mem_append_left _ (by unfold base22; simp), by show 4 < n; omega, ?_⟩
  show n < m2
  rcases List.mem_append.1 hp with hp | hp
  · have := base22_lt hp; omega
  · have := hl.lo hp; omega
theorem R22_free {D : Nat} (hD : 7 ≤ D) {ch ch' : AV} {id : Int} (s : List Rd) (m : Fm) (h : R22 D ch ch' id s m) : ¬ keyIn D m ∧ ¬ keyIn (D + 1) m := by
  obtain ⟨lv, m2, rows, hl, rfl⟩ := h
  have key : ∀ p ∈ base22 ch ch' id lv m2 ++ rows, p.1 ≠ D ∧ p.1 ≠ D + 1 := by
    intro p hp
    rcases List.mem_append.1 hp with hp | hp
    · have := base22_lt hp; omega
    · have := hl.lo hp; omega
  exact ⟨fun ⟨p, hp, he⟩ => (key p hp).1 he, fun ⟨p, hp, he⟩ => (key p hp).2 he⟩
theorem fin22 {D : Nat} (hD : 7 ≤ D) {ch ch' : AV} {id : Int} {s' : List Rd} {lv lv' : AV} {m2 m2' : Nat} {rows rows' : Fm} {X W : Heap} {N : Nat} {L' : ALoop} (hlW : W.get (D + 1) = some (.loop L')) (hXN : X.size = N) (hlk : X.lock = 0) (hsz : D + 2 ≤ N)
    (hH : Has (base22 ch ch' id lv m2 ++ rows) X) (hl' : L22 D s' lv' m2' rows') (hW4 : W.get 4 = some (.cells 0 m2' 62 1 false [intA id, lv'])) (hWr : Has rows' W)
    (hWo : ∀ b, b < N → b ≠ 4 → b ≠ D + 1 → ¬ keyIn b rows' → W.get b = X.get b) (hWl : W.lock = 0) (hWs : N ≤ W.size) (hb : ∀ p ∈ rows', N ≤ p.1 ∨ keyIn p.1 rows) :
    ∃ m', R22 D ch ch' id s' m' ∧ Has m' W ∧ loopObj W (D + 1) = some L' ∧ Moves ((D + 1, .loop L') :: (base22 ch ch' id lv m2 ++ rows)) X ((D + 1, .loop L') :: m') W := by
  have hlow : ∀ b, b < 7 → ¬ keyIn b rows' := fun b hb ⟨p, hp, he⟩ => by have := hl'.lo hp; omega
  have hbase : ∀ p ∈ base22 ch ch' id lv m2, p.1 ≠ 4 → W.get p.1 = some p.2 := fun p hp hne => by
    have := base22_lt hp
    rw [hWo p.1 (by omega) hne (by omega) (hlow _ this)]
    exact hH p (List.mem_append_left _ hp)
  refine ⟨base22 ch ch' id lv' m2' ++ rows', ⟨lv', m2', rows', hl', rfl⟩, fun p hp => ?_, get_loopObj hlW, hWl.trans hlk.symm, by omega, fun b hbn hk => ?_, fun p hp => ?_⟩
  · rcases List.mem_append.1 hp with hp | hp
    · unfold base22 at hp
      simp only [List.mem_cons, List.not_mem_nil, or_false] at hp
      rcases hp with rfl | rfl | rfl | rfl
      · exact hbase (2, _) (by unfold base22; simp) (by simp)
      · exact hW4
      · exact hbase (5, _) (by unfold base22; simp) (by simp)
      · exact hbase (6, _) (by unfold base22; simp) (by simp)
    · exact hWr p hp
  · have h1 : b ≠ D + 1 := fun h => hk ⟨_, List.mem_cons_self .., h.symm⟩
    have h4 : b ≠ 4 := fun h => hk ⟨(4, .cells 0 m2 62 1 false [intA id, lv]), List.mem_cons_of_mem _ (List.mem_append_left _ (by unfold base22; simp)), h.symm⟩
    refine hWo b (by omega) h4 h1 fun ⟨p, hp, he⟩ => ?_
    rcases hb p hp with h | ⟨q, hq, he2⟩
    · omega
    · exact hk ⟨q, List.mem_cons_of_mem _ (List.mem_append_right _ hq), by omega⟩
  · rcases List.mem_cons.1 hp with rfl | hp
    · exact Or.inl ⟨_, List.mem_cons_self .., rfl⟩
    · rcases List.mem_append.1 hp with hp | hp
      · left
        unfold base22 at hp
        simp only [List.mem_cons, List.not_mem_nil, or_false] at hp
        have hm : ∀ q ∈ base22 ch ch' id lv m2, keyIn q.1 ((D + 1, AObj.loop L') :: (base22 ch ch' id lv m2 ++ rows)) := fun q hq => ⟨q, List.mem_cons_of_mem _ (List.mem_append_left _ hq), rfl⟩
        rcases hp with rfl | rfl | rfl | rfl
        · exact hm (2, _) (by unfold base22; simp)
        · exact hm (4, .cells 0 m2 62 1 false [intA id, lv]) (by unfold base22; simp)
        · exact hm (5, _) (by unfold base22; simp)
        · exact hm (6, _) (by unfold base22; simp)
      · rcases hb p hp with h | ⟨q, hq, he⟩
        · exact Or.inr (by omega)
        · exact Or.inl ⟨q, List.mem_cons_of_mem _ (List.mem_append_right _ hq), he⟩
/-- all that is handed over, and all that is found -/
theorem found_map (g : List AV → List Rd) (t u : Txt) (xs : List AV) (hall : All2 ChapA t xs) (h3 : alikeB t u = true)
    (hg : ∀ (i k : Nat) (y z : AV) (cp cq : Chap) (a c : Line), xs[i]? = some y → (linesOf y)[k]? = some z → t[i]? = some cp → u[i]? = some cq → cp.2[k]? = some a → cq.2[k]? = some c → g [placeA i k 0, z] = foundL i k 0 a c) :
    (chapIts 0 xs).flatMap g = foundT 0 t u := by
  have key : ∀ (n i : Nat), i + n = t.length → (chapIts i (xs.drop i)).flatMap g = foundT i (t.drop i) (u.drop i) := by
    intro n
    induction n with
    | zero =>
      intro i hi
      rw [show xs.drop i = [] from List.drop_eq_nil_of_le (by rw [← hall.1]; omega), show t.drop i = [] from List.drop_eq_nil_of_le (by omega)]
      rw [foundT]; rfl; all_goals (intros; simp at *)
    | succ n ih =>
      intro i hi
      obtain ⟨cp, hcp⟩ := at_lt t i (by omega)
      obtain ⟨y, hy, l, rfl, lxs, hl, hls⟩ := hall.get hcp
      obtain ⟨cq, hcq, -, hlen⟩ := alike_get h3 hcp
      have hlo : linesOf (.agg [intA cp.1, l]) = lxs := hl.elems
      rw [chapIts_drop xs i _ hy, drop_eq_cons hcp, drop_eq_cons hcq, foundT, List.flatMap_append, ih (i + 1) (by omega), hlo]
      congr 1
      have inner : ∀ (m j : Nat), j + m = lxs.length → (lineIts i j (lxs.drop j)).flatMap g = foundC i j (cp.2.drop j) (cq.2.drop j) := by
        intro m
        induction m with
        | zero =>
          intro j hj
          rw [show lxs.drop j = [] from List.drop_eq_nil_of_le (by omega), show cp.2.drop j = [] from List.drop_eq_nil_of_le (by rw [hls.1]; omega)]
          rw [foundC]; rfl; all_goals (intros; simp at *)
        | succ m ih2 =>
          intro j hj
          obtain ⟨z, hz⟩ := at_lt lxs j (by omega)
          obtain ⟨a, ha⟩ := at_lt cp.2 j (by rw [hls.1]; omega)
          obtain ⟨c, hc⟩ := at_lt cq.2 j (by rw [← hlen, hls.1]; omega)
          rw [lineIts_drop i lxs j z hz, drop_eq_cons ha, drop_eq_cons hc, foundC, List.flatMap_cons, ih2 (j + 1) (by omega), hg i j _ z cp cq a c hy (by rw [hlo]; exact hz) hcp hcq ha hc]
      have := inner lxs.length 0 (by omega)
      simpa using this
  have := key t.length 0 (by omega)
  simpa using this
end Go.Ev
namespace Go.Ev
open Go.Proofs
set_option maxRecDepth 100000
set_option linter.unusedSimpArgs false
attribute [local irreducible] Wp WpS
theorem ofV_nil : ofV [] = .v (.slice none 0 0) := rfl
theorem rdCells_flat : ∀ f : List Rd, (rdCells f).all AV.flat = true
  | [] => rfl
  | r :: f => by rw [rdCells_cons, List.all_append, rdCells_flat f]; rfl
theorem rdCells_bound : ∀ f : List Rd, boundL (rdCells f) = 0
  | [] => rfl
  | r :: f => by rw [rdCells_cons]; exact rdCells_bound f
theorem freeze22 {D : Nat} {s : List Rd} {lv : AV} {m2 : Nat} {rows : Fm} {W : Heap} (hl : L22 D s lv m2 rows) (hr : ∀ p ∈ rows, W.get p.1 = some p.2) (hk : W.lock = 0) (id : Int) : freezeV { W with lock := 0 } 1000000 (.tup [.agg [.v (.int .i64 id), lv], .v (.int .i64 0)]) = some (.tup [.agg [.v (.int .i64 id), ofV s], .v (.int .i64 0)]) := by
  have hW : ({ W with lock := 0 } : Heap) = W := by cases W; simp only at hk; subst hk; rfl
  rw [hW]
  have key : ∀ k, freezeV W (k + 1) lv = some (ofV s) := fun k => by
    rcases hl with ⟨rfl, rfl, -⟩ | ⟨b, v, hs, rfl, -, -, rfl⟩
    · rfl
    · have hb : W.row b v = some (0, 108, 5, true, rdCells s) := get_row (hr _ (List.mem_singleton.2 rfl))
      unfold freezeV
      simp only [hb, hk]
      rw [if_neg (by omega), if_pos ⟨by rw [rdCells_len]; omega, by omega⟩, if_pos trivial, List.drop_zero, List.take_of_length_le (by rw [rdCells_len]; omega), chunk_rds]
      cases s with
      | nil => exact absurd rfl hs
      | cons r f => rfl
  have e : ∀ k, freezeV W (k + 9) (.tup [.agg [.v (.int .i64 id), lv], .v (.int .i64 0)]) = some (.tup [.agg [.v (.int .i64 id), ofV s], .v (.int .i64 0)]) := fun k => by
    have h1 : freezeL W (k + 5) [lv] = some [ofV s] := by
      rw [freezeL, key, freezeL]
    have h2 : freezeL W (k + 6) [.v (.int .i64 id), lv] = some [.v (.int .i64 id), ofV s] := by
      rw [freezeL, h1, freezeV]
    have h3 : freezeV W (k + 7) (.agg [.v (.int .i64 id), lv]) = some (.agg [.v (.int .i64 id), ofV s]) := by
      rw [freezeV, h2]; rfl
    have h4 : freezeL W (k + 7) [.v (.int .i64 0)] = some [.v (.int .i64 0)] := by
      rw [freezeL, freezeV, freezeL]
    rw [freezeV, freezeL, h3, h4]; rfl
  exact e 999991
theorem finW {D : Nat} (hD : 7 ≤ D) {ch ch' : AV} {id : Int} {s' : List Rd} {lv lv' : AV} {m2 m2' : Nat} {rows rows' : Fm} {X Y P : Heap} {N : Nat} {L' : ALoop} (hN : X.size = N) (hlk : X.lock = 0) (hsz : D + 2 ≤ N) (hH : Has (base22 ch ch' id lv m2 ++ rows) X) (hY : ∀ b, b ≠ D + 1 → Y.get b = X.get b) (hlY : Y.get (D + 1) = some (.loop L'))
    (hl' : L22 D s' lv' m2' rows') (hPs : P.size = N) (hPk : P.lock = 0) (hP4 : P.get 4 = some (.cells 0 m2' 62 1 false [intA id, lv'])) (hPo : ∀ b, b < N → b ≠ 4 → ¬ keyIn b rows' → P.get b = Y.get b) (E : List (Option AObj)) (hE : 2 ≤ E.length) (hrow : ∀ p ∈ rows', (P.plus E).get p.1 = some p.2) (hb : ∀ p ∈ rows', N ≤ p.1 ∨ keyIn p.1 rows) :
    ∃ m', R22 D ch ch' id s' m' ∧ Has m' (settleH (N + 2) (P.plus E)) ∧ loopObj (settleH (N + 2) (P.plus E)) (D + 1) = some L' ∧ Moves ((D + 1, .loop L') :: (base22 ch ch' id lv m2 ++ rows)) X ((D + 1, .loop L') :: m') (settleH (N + 2) (P.plus E)) := by
  have hlow : ¬ keyIn (D + 1) rows' := fun ⟨p, hp, he⟩ => by have := hl'.lo hp; omega
  have hs := settle_size' (n := N + 2) (H := P.plus E) (by rw [plus_size, hPs]; omega)
  refine fin22 hD ?_ hN hlk hsz hH hl' ?_ ?_ ?_ ?_ (by omega) hb
  · rw [settle_lo (by omega), plus_get _ (by omega), hPo _ (by omega) (by omega) hlow]; exact hlY
  · rw [settle_lo (by omega), plus_get _ (by omega)]; exact hP4
  · exact fun p hp => settle_some (hrow p hp)
  · intro b hb' h4 h5 h6
    rw [settle_lo (by omega), plus_get _ (by omega), hPo b hb' h4 h6, hY b h5]
  · rw [settle_lock]; exact hPk
/-- what Find answers for texts that are alike -/
def res22 (id : Int) (l : List Rd) : AV := if 20 < l.length then .tup [.agg [intA 0, .v (.slice none 0 0)], intA 4] else .tup [.agg [intA id, ofV l], intA 0]
set_option maxHeartbeats 8000000 in
theorem find22 {e : Exts} (he : Quiet e) (t u : Txt) (ht : Fits t) (hu : Fits u) (ch ch' : AV) (xs xs' : List AV) (hch : SlOf 2 xs ch) (hall : All2 ChapA t xs) (hch' : SlOf 2 xs' ch') (hall' : All2 ChapA u xs') (h1 : textB t = true) (h2 : textB u = true) (h3 : alikeB t u = true) (id : Int) (hid : withinB 0 9999 [id] = true) :
    Ans (Cx e) 36 [.agg [ch], .agg [ch'], intA id] (res22 id (foundT 0 t u)) := by
  have hst := small_of h1
  have hsu := small_of h2
  have h50 : ∀ (me : FuncId) (d : Option Tmp) (H : Heap), callA (Cx e) (lim (Cx e)) me 62 d [.agg [ch], .agg [ch']] H = some (.tup [.agg [ch], .v (.int .i64 0)], H) := fun me d H =>
    (ans50 he t u ht hu ch ch' xs xs' hch hall hch' hall' h1 h2 h3).call (ext_62 he) (pure_62 _ _ _) (by simp only [boundL_cons, bound_agg, hch.bound, hch'.bound, boundL_nil]; rfl) H
  have h51 := call51 he id
  rw [hid] at h51
  obtain ⟨F, h52⟩ := call52 he ⟨[some (.cells 0 0 24 1 false [ch]), some (.cells 0 0 24 1 false [ch']), some (.cells 0 0 62 1 false [.v (.int .i64 0), .v (.slice none 0 0)]), some (.cells 0 0 89 1 false [ch]), some (.cells 0 0 62 1 false [.v (.int .i64 id), .v (.slice none 0 0)])], 0⟩ 5 rfl ch ch' xs xs' hch hch' 36 (some 31)
  obtain ⟨pf, hpf⟩ : ∃ pf : Nat → Nat → AV × List Int, ∀ i k, Lin t u xs e ch' i k (pf i k) := ⟨fun i k => Classical.choose (lin_of he t u hst hsu hu ch' xs xs' hall hch' hall' h3 i k), fun i k => Classical.choose_spec (lin_of he t u hst hsu hu ch' xs xs' hall hch' hall' h3 i k)⟩
  have hxl : xs.length < 2 ^ 63 := by rw [← hall.1]; exact ht.chs
  have hline : ∀ x ∈ chapIts 0 xs, ∃ (i k : Nat) (y z : AV), xs[i]? = some y ∧ (linesOf y)[k]? = some z ∧ x = [placeA i k 0, z] := fun x hx => by
    obtain ⟨i, y, j, z, h4, h5, rfl⟩ := chapIts_of xs 0 x hx
    exact ⟨i, j, y, z, h4, h5, by rw [Nat.zero_add]⟩
  have hpair : ∀ (i k : Nat) (z : AV), pairI (fun i k => (pf i k).2) (fun i k => (pf i k).1) [placeA i k 0, z] = [placeA i k 0, .agg (prC z (pf i k).1 (pf i k).2)] := fun i k z => rfl
  have hy := yields2_72 he ch xs hch (fun y hy => (okCh2_of ht hall y hy).ok) hxl ch' 5 6 (fun i k => (pf i k).2) (fun i k => (pf i k).1) (fun x hx => by
    obtain ⟨i, k, y, z, h4, h5, rfl⟩ := hline x hx
    obtain ⟨cp, cq, a, c, -, -, -, -, g1, g2, g3, g4, g5⟩ := hpf i k y z h4 h5
    exact ⟨i, k, z, a, c, rfl, g1, g2, g3.len, trivial, g4, g5⟩)
  obtain ⟨fnd, hfnd⟩ : ∃ fnd : Nat → Nat → List Rd, ∀ (i k : Nat) (cp cq : Chap) (a c : Line), t[i]? = some cp → u[i]? = some cq → cp.2[k]? = some a → cq.2[k]? = some c → fnd i k = foundL i k 0 a c := ⟨fun i k => foundL i k 0 ((((t[i]?).map fun c => c.2[k]?).getD none).getD []) ((((u[i]?).map fun c => c.2[k]?).getD none).getD []), fun i k cp cq a c e1 e2 e3 e4 => by simp only [e1, e2, e3, e4, Option.map_some, Option.getD_some]⟩
  have hitems : ∀ x ∈ (chapIts 0 xs).map (pairI (fun i k => (pf i k).2) (fun i k => (pf i k).1)), okI22 fnd x := fun x hx => by
    obtain ⟨w, hw, rfl⟩ := List.mem_map.1 hx
    obtain ⟨i, k, y, z, h4, h5, rfl⟩ := hline w hw
    obtain ⟨cp, cq, a, c, e1, e2, e3, e4, g1, g2, g3, g4, g5⟩ := hpf i k y z h4 h5
    rw [hpair]
    exact ⟨i, k, z, _, a, c, _, rfl, g1, g2, (hst.words cp (List.mem_of_getElem? e1) a (List.mem_of_getElem? e3)).2, (hsu.words cq (List.mem_of_getElem? e2) c (List.mem_of_getElem? e4)).2, g3, hfnd i k cp cq a c e1 e2 e3 e4⟩
  have hall22 : ((chapIts 0 xs).map (pairI (fun i k => (pf i k).2) (fun i k => (pf i k).1))).flatMap (fI fnd) = foundT 0 t u := by
    rw [List.flatMap_map]
    refine found_map _ t u xs hall h3 fun i k y z cp cq a c h4 h5 e1 e2 e3 e4 => ?_
    show fI fnd (pairI _ _ [placeA i k 0, z]) = _
    rw [hpair, fI_at, hfnd i k cp cq a c e1 e2 e3 e4]
  have hcnt : ((chapIts 0 xs).map (pairI (fun i k => (pf i k).2) (fun i k => (pf i k).1))).length < 2 ^ 20 := by
    have h4 := lensOf_len xs (linesOf_len hall hst)
    rw [← chapIts_lens 0 xs, List.length_map] at h4
    have h5 := hst.chs
    rw [hall.1] at h5
    rw [List.length_map]; omega
  generalize (chapIts 0 xs).map (pairI (fun i k => (pf i k).2) (fun i k => (pf i k).1)) = items at hy hitems hall22 hcnt
  clear hpf hpair hline hfnd
  have hrun := run22 fnd items [] hitems (by simp only [List.length_nil]; omega)
  rw [hall22, List.nil_append] at hrun
  unfold Ans
  rw [fn_step (fn_36 e) (show Try.f36.body = some _ from rfl)]
  simp -implicitDefEqProofs only [Try.f36, go_sem, ↓reduceIte, Int.reduceEq, Int.reduceLT, Int.reduceLE, List.reduceReplicate, intA, setT_nil, setT_cons, ↓boolP_bool, ↓iteB_true, ↓iteB_false, hch.cells, hch.flat, hch.bound, hch'.cells, hch'.flat, hch'.bound, h50, h51, h52, Heap.plus, Option.isNone_some]
  refine wp_range2F hy rfl (R22 (F.length + 7) ch ch' id) (stp22 fnd) (fun _ => True) (ok22 fnd) (n0 := 7) (k := 0) (Nat.le_add_left 7 F.length) (Nat.zero_le _) ?_ ?_ (fun s m h => R22_anch s m h) (fun s m h => R22_free (Nat.le_add_left 7 F.length) s m h) (fun _ _ _ _ _ => trivial) ?_ [] (base22 ch ch' id (.v (.slice none 0 0)) 0) hrun.1 trivial ⟨_, 0, [], Or.inl ⟨rfl, rfl, rfl⟩, by rw [List.append_nil]⟩ ?_ rfl ?_
  · intro x hx
    obtain ⟨i, k, lx, ly, a, c, tb, rfl, -⟩ := hitems x hx
    rfl
  · rintro s m H ⟨lv, m2, rows, -, rfl⟩ hH hlk
    exact ⟨hlk, get_row (hH (5, .cells 0 0 89 1 false [ch]) (List.mem_append_left _ (by unfold base22; simp))), get_row (hH (6, .cells 0 0 24 1 false [ch']) (List.mem_append_left _ (by unfold base22; simp)))⟩
  · intro L L' s m x X hL _ hok hxl hR hH hd0 hl1 hlk hsz
    have hd0 : X.get (F.length + 7) = some .dfr := hd0
    have hl1 : loopObj X (F.length + 7 + 1) = some L := hl1
    have hsz : F.length + 7 + 2 ≤ X.size := hsz
    change Wp (Cx e) 36 (some (F.length + 7 + 1)) _ _ X (as2K (Cx e) 36 (R22 (F.length + 7) ch ch' id) (F.length + 7) _ L L' m X _)
    clear hy hrun h52 hL
    obtain ⟨D, hD⟩ : ∃ D, F.length + 7 = D := ⟨_, rfl⟩
    rw [hD] at hd0 hl1 hsz hR ⊢
    have hD7 : 7 ≤ D := by omega
    clear hD
    obtain ⟨⟨i, k, lx, ly, a, c, tb, rfl, hx1, hx2, ha, hc, hT, hf⟩, hsl⟩ := hok
    obtain ⟨lv, m2, rows, hl, rfl⟩ := hR
    obtain ⟨N, hN⟩ : ∃ N, X.size = N := ⟨_, rfl⟩
    have hlkN : X.lock ≤ N := by rw [hlk]; exact Nat.zero_le _
    have hszN : D + 2 ≤ N := by omega
    have f0 := prC_cells (.v (.slice none 0 0)) (.v (.slice none 0 0)) zT rfl rfl
    have n0 : (prC (.v (.slice none 0 0)) (.v (.slice none 0 0)) zT).length = 146 := by rw [prC_len]; rfl
    have n1 : (prC lx ly tb).length = 146 := by rw [prC_len, hT.len]
    have d0 : (prC (.v (.slice none 0 0)) (.v (.slice none 0 0)) zT).drop 146 = [] := List.drop_of_length_le (by omega)
    have hfl := prC_cells lx ly tb hx1.flat hx2.flat
    have hbo := prC_bound hx1 hx2 tb
    rw [show stp22 fnd s [placeA i k 0, .agg (prC lx ly tb)] = (.normal, s ++ foundL i k 0 a c) by unfold stp22; rw [fI_at, hf]]
    rw [← plus_nil X]
    simp -implicitDefEqProofs only [go_sem, ↓reduceIte, Int.reduceEq, Int.reduceLT, Int.reduceLE, List.reduceReplicate, intA, setT_nil, setT_cons, ↓boolP_bool, ↓iteB_true, ↓iteB_false, placeA, List.zip_cons_cons, List.zip_nil_right, List.zip_nil_left, zero104, f0, n0, n1, d0, hfl, hbo, sizeP hN, putP0 hN, putP hN, settleP0 hN, settleP hN, rowP0 hN, rowP hN, storeP0 hN hlkN, storeP hN hlkN, List.length_nil, Nat.add_zero]
    refine ⟨rfl, ?_, ?_⟩
    · refine get_loopObj ?_
      rw [plus_get _ (by omega)]; exact loopObj_getI hl1
    · rw [putLo (by omega), plus_nil X]
      have hfr := R22_free hD7 (ch := ch) (ch' := ch') (id := id) s _ ⟨lv, m2, rows, hl, rfl⟩
      have hHY := hH.put (.loop L') (b := D + 1) (by omega) hfr.2
      have hNY : (X.put (D + 1) (.loop L')).size = N := by rw [put_sizeI _ (by omega)]; exact hN
      have hlkY : (X.put (D + 1) (.loop L')).lock = 0 := hlk
      have hlY : (X.put (D + 1) (.loop L')).get (D + 1) = some (.loop L') := put_get_eq _ (by omega)
      have hsmY : ∀ b, b ≠ D + 1 → (X.put (D + 1) (.loop L')).get b = X.get b := fun b hb => put_get_ne _ (by omega) hb
      generalize X.put (D + 1) (.loop L') = Y at *
      have hlkYN : Y.lock ≤ N := by rw [hlkY]; exact Nat.zero_le _
      have h4' : Y.row 4 0 = some (m2, 62, 1, false, [.v (.int .i64 id), lv]) := get_row (hHY (4, .cells 0 m2 62 1 false [intA id, lv]) (List.mem_append_left _ (by unfold base22; simp)))
      have hr4 : ∀ E, (Y.plus E).row 4 0 = some (m2, 62, 1, false, [.v (.int .i64 id), lv]) := fun E => by rw [rowLo (by omega)]; exact h4'
      have hst := fun (w : AV) (hw : w.flat = true) E => storeLoK (X := Y) (b := 4) (v := 0) (k := 1) (x := w) (by omega) (by omega) h4' (Nat.le_refl _) hw E
      have hst := fun b' v' l' c' E => hst (.sl b' v' 0 l' c') rfl E
      have g4 : ltB 4 (N + 2) = true := by unfold ltB; simp; omega
      have gN : ltB N (N + 2) = true := by unfold ltB; simp
      simp -implicitDefEqProofs only [go_sem, ↓reduceIte, Int.reduceEq, Int.reduceLT, Int.reduceLE, List.reduceReplicate, intA, setT_nil, setT_cons, ↓boolP_bool, ↓iteB_true, ↓iteB_false, sizeP hNY, putP0 hNY, putP hNY, settleP0 hNY, settleP hNY, rowP0 hNY, rowP hNY, storeP0 hNY hlkYN, storeP hNY hlkYN, List.length_nil, Nat.add_zero]
      refine wp_drawX [([], [], false), ([], [], false), ([1], [], false), ([1], [], true), ([], [], false), ([], [], false), ([], [4], false)] (by kernel_rfl) (by kernel_rfl) ?_
      simp -implicitDefEqProofs only [go_sem, ↓reduceIte, Int.reduceEq, Int.reduceLT, Int.reduceLE, List.reduceReplicate, intA, setT_nil, setT_cons, ↓boolP_bool, ↓iteB_true, ↓iteB_false, hr4, g4, gN, List.isEmpty_nil, List.isEmpty_cons, sizeP hNY, putP0 hNY, putP hNY, settleP0 hNY, settleP hNY, rowP0 hNY, rowP hNY, storeP0 hNY hlkYN, storeP hNY hlkYN, List.length_nil, Nat.add_zero]
      have hPr : PrH (Y.plus [some (.cells 0 0 26 1 false [.v (.int .i64 i), .v (.int .i64 k), .v (.int .i64 0)]), some (.cells 0 0 124 1 false (prC lx ly tb)), none, none, none, none, none, none, none]) (N + 1) lx ly a c tb := ⟨by rw [plus_size, hNY]; simp, ⟨0, false, by rw [rowP hNY]; rfl⟩, hx1, hx2, hT.len⟩
      refine stillV_53 he hPr (by omega) ha hc hT _ _ _ ?_
      show AtO (contP _ _ _ _ _ _ _ _ _ _ _) _ _
      have hfl20 : (foundL (i : Int) (k : Int) 0 a c).length ≤ 20 := by rw [found_len]; have := dist_sum a c; omega
      clear hPr hT hf hx1 hx2 hfl hbo f0 n0 n1 d0 hfr
      generalize foundL (i : Int) (k : Int) 0 a c = fd at hfl20 ⊢
      have hcl : ∀ H : Heap, cellsFrom H 5 (ofV fd) = some (fd.length, rdCells fd) := fun H => by
        rw [cells_of (ofV_rds fd) H, List.length_map, List.flatMap_map]; rfl
      have hob : objsOf (ofV fd) = [] := by cases fd <;> rfl
      have hrf := rdCells_flat fd
      have hrb := rdCells_bound fd
      rcases Nat.eq_zero_or_pos fd.length with hz | hz
      · obtain rfl : fd = [] := List.length_eq_zero_iff.1 hz
        have hst0 := fun E => storeLoK (X := Y) (b := 4) (v := 0) (k := 1) (x := .v (.slice none 0 0)) (by omega) (by omega) h4' (Nat.le_refl _) rfl E
        rcases hl with ⟨rfl, rfl, rfl⟩ | ⟨b, v, hs0, rfl, hb5, hbm, rfl⟩
        · simp -implicitDefEqProofs only [go_sem, ↓reduceIte, Int.reduceEq, Int.reduceLT, Int.reduceLE, List.reduceReplicate, intA, setT_nil, setT_cons, ↓boolP_bool, ↓iteB_true, ↓iteB_false, hr4, g4, gN, hst0, ofV_nil, boundL_nil, List.all_nil, List.append_nil, List.nil_append, sizeP hNY, putP0 hNY, putP hNY, settleP0 hNY, settleP hNY, rowP0 hNY, rowP hNY, storeP0 hNY hlkYN, storeP hNY hlkYN, List.length_nil, Nat.add_zero, bd2K_at]
          have hm2 : (if m2 ≤ 0 then 0 else m2) = m2 := by split <;> omega
          rw [hm2]
          have hfin := finW hD7 (rows := []) hN hlk hszN hH hsmY hlY (Or.inl ⟨rfl, rfl, rfl⟩) (P := Y.put 4 (.cells 0 m2 62 1 false [.v (.int .i64 id), .v (.slice none 0 0)])) (by rw [put_sizeI _ (by omega)]; exact hNY) hlkY (put_get_eq _ (by omega)) (fun b _ h4 _ => put_get_ne _ (by omega) h4) [some (.cells 0 0 26 1 false [.v (.int .i64 i), .v (.int .i64 k), .v (.int .i64 0)]), some (.cells 0 0 124 1 false (prC lx ly tb)), none, none, none, none, none, none, none] (by simp) (fun p hp => nomatch hp) (fun p hp => nomatch hp)
          rw [List.append_nil] at hfin
          exact hfin
        · have hgb : Y.get b = some (.cells v 0 108 5 true (rdCells s)) := hHY _ (List.mem_append_right _ (List.mem_singleton.2 rfl))
          have hbN : b < N := by have := get_ltS hgb; omega
          have gb : ltB b (N + 2) = true := by unfold ltB; simp; omega
          simp -implicitDefEqProofs only [go_sem, ↓reduceIte, Int.reduceEq, Int.reduceLT, Int.reduceLE, List.reduceReplicate, intA, setT_nil, setT_cons, ↓boolP_bool, ↓iteB_true, ↓iteB_false, hr4, g4, gN, gb, hst, ofV_nil, appTo_none, boundL_nil, List.all_nil, List.append_nil, List.nil_append, sizeP hNY, putP0 hNY, putP hNY, settleP0 hNY, settleP hNY, rowP0 hNY, rowP hNY, storeP0 hNY hlkYN, storeP hNY hlkYN, List.length_nil, Nat.add_zero, bd2K_at]
          have hm2 : b < (if m2 ≤ bound (AV.sl b v 0 s.length none) then bound (AV.sl b v 0 s.length none) else m2) := by rw [bound_sl]; split <;> omega
          generalize (if m2 ≤ bound (AV.sl b v 0 s.length none) then bound (AV.sl b v 0 s.length none) else m2) = m2' at *
          exact finW hD7 hN hlk hszN hH hsmY hlY (Or.inr ⟨b, v, hs0, rfl, hb5, hm2, rfl⟩) (P := Y.put 4 (.cells 0 m2' 62 1 false [.v (.int .i64 id), .sl b v 0 s.length none])) (by rw [put_sizeI _ (by omega)]; exact hNY) hlkY (put_get_eq _ (by omega)) (fun b _ h4 _ => put_get_ne _ (by omega) h4) _ (by simp) (fun p hp => by rw [List.mem_singleton.1 hp, plus_get _ (by rw [put_sizeI _ (by omega)]; omega), put_get_ne _ (by omega) (by omega)]; exact hgb) (fun p hp => Or.inr ⟨p, hp, rfl⟩)
      · have hz' : (fd.length = 0) = False := eq_false (by omega)
        have hfit : fitsA 48 fd.length = true := by unfold fitsA; exact decide_eq_true (by omega)
        have n6 : N + 2 + 4 = N + 6 := rfl
        rcases hl with ⟨rfl, rfl, rfl⟩ | ⟨b, v, hs0, rfl, hb5, hbm, rfl⟩
        · simp -implicitDefEqProofs only [go_sem, ↓reduceIte, Int.reduceEq, Int.reduceLT, Int.reduceLE, List.reduceReplicate, intA, setT_nil, setT_cons, ↓boolP_bool, ↓iteB_true, ↓iteB_false, hr4, g4, gN, hst, hcl, hob, hrf, hrb, hz', hfit, n6, List.append_nil, List.nil_append, sizeP hNY, putP0 hNY, putP hNY, settleP0 hNY, settleP hNY, rowP0 hNY, rowP hNY, storeP0 hNY hlkYN, storeP hNY hlkYN, List.length_nil, Nat.add_zero, bd2K_at]
          have hm2 : N + 6 < (if m2 ≤ bound (AV.sl (N + 6) 0 0 fd.length none) then bound (AV.sl (N + 6) 0 0 fd.length none) else m2) := by rw [bound_sl]; split <;> omega
          generalize (if m2 ≤ bound (AV.sl (N + 6) 0 0 fd.length none) then bound (AV.sl (N + 6) 0 0 fd.length none) else m2) = m2' at *
          have hP : (Y.put 4 (.cells 0 m2' 62 1 false [.v (.int .i64 id), .sl (N + 6) 0 0 fd.length none])).size = N := by rw [put_sizeI _ (by omega)]; exact hNY
          have hfin := finW hD7 (rows := []) hN hlk hszN hH hsmY hlY (Or.inr ⟨N + 6, 0, (fun h => by rw [h] at hz; exact absurd hz (by simp)), rfl, by omega, hm2, rfl⟩) (P := Y.put 4 (.cells 0 m2' 62 1 false [.v (.int .i64 id), .sl (N + 6) 0 0 fd.length none])) hP hlkY (put_get_eq _ (by omega)) (fun b _ h4 _ => put_get_ne _ (by omega) h4) [some (.cells 0 0 26 1 false [.v (.int .i64 i), .v (.int .i64 k), .v (.int .i64 0)]), some (.cells 0 0 124 1 false (prC lx ly tb)), none, none, none, none, some (.cells 0 0 108 5 true (rdCells fd)), none, none] (by simp) (fun p hp => by rw [List.mem_singleton.1 hp, plus_get_hi _ (by simp only; omega), hP, Nat.add_sub_cancel_left]; rfl) (fun p hp => Or.inl (by rw [List.mem_singleton.1 hp]; simp only; omega))
          rw [List.append_nil] at hfin
          exact hfin
        · have hgb : Y.get b = some (.cells v 0 108 5 true (rdCells s)) := hHY _ (List.mem_append_right _ (List.mem_singleton.2 rfl))
          have hbN : b < N := by have := get_ltS hgb; omega
          have gb : ltB b (N + 2) = true := by unfold ltB; simp; omega
          have hrb' : ∀ E, (Y.plus E).row b v = some (0, 108, 5, true, rdCells s) := fun E => by rw [rowLo (by omega)]; exact get_row hgb
          have happ := fun E slot => appTo_own (H := Y.plus E) (slot := slot) (e := 108) (sz := 5) (b' := 48) (n := fd.length) (new := rdCells fd) (hrb' E) (by rw [rdCells_len]) (by show Y.lock ≤ _; omega) (by unfold fitsA; exact decide_eq_true (by omega)) hz (by omega)
          have hpl := fun E o => putLo (X := Y) (b := b) (by omega) E o
          have hsto := fun o (w : AV) (hw : w.flat = true) E => storeLoK (X := Y.put b o) (b := 4) (v := 0) (k := 1) (x := w) (by rw [put_sizeI _ (by omega)]; omega) (by show Y.lock ≤ 4; omega) (get_row ((put_get_ne o (by omega) (by omega)).trans (row_of_get h4'))) (Nat.le_refl _) hw E
          have hsto := fun o b' v' l' c' E => hsto o (.sl b' v' 0 l' c') rfl E
          rw [hrb] at happ
          simp -implicitDefEqProofs only [go_sem, ↓reduceIte, Int.reduceEq, Int.reduceLT, Int.reduceLE, List.reduceReplicate, intA, setT_nil, setT_cons, ↓boolP_bool, ↓iteB_true, ↓iteB_false, hr4, g4, gN, gb, hcl, hob, hrf, happ, hpl, hsto, List.append_nil, List.nil_append, sizeP hNY, putP0 hNY, putP hNY, settleP0 hNY, settleP hNY, rowP0 hNY, rowP hNY, storeP0 hNY hlkYN, storeP hNY hlkYN, List.length_nil, Nat.add_zero, bd2K_at]
          have hm2 : b < (if m2 ≤ bound (AV.sl b (v + 1) 0 (s.length + fd.length) none) then bound (AV.sl b (v + 1) 0 (s.length + fd.length) none) else m2) := by rw [bound_sl]; split <;> omega
          generalize (if m2 ≤ bound (AV.sl b (v + 1) 0 (s.length + fd.length) none) then bound (AV.sl b (v + 1) 0 (s.length + fd.length) none) else m2) = m2' at *
          have hP1 : (Y.put b (.cells (v + 1) 0 108 5 true (rdCells s ++ rdCells fd))).size = N := by rw [put_sizeI _ (by omega)]; exact hNY
          have hP : ((Y.put b (.cells (v + 1) 0 108 5 true (rdCells s ++ rdCells fd))).put 4 (.cells 0 m2' 62 1 false [.v (.int .i64 id), .sl b (v + 1) 0 (s.length + fd.length) none])).size = N := by rw [put_sizeI _ (by omega)]; exact hP1
          refine finW hD7 hN hlk hszN hH hsmY hlY (rows' := [(b, .cells (v + 1) 0 108 5 true (rdCells (s ++ fd)))]) (Or.inr ⟨b, v + 1, (fun h => hs0 (List.append_eq_nil_iff.1 h).1), by rw [List.length_append], hb5, hm2, rfl⟩) hP hlkY (put_get_eq _ (by omega)) (fun b' _ h4 h5 => ?_) _ (by simp) (fun p hp => ?_) (fun p hp => ?_)
          · rw [put_get_ne _ (by omega) h4, put_get_ne _ (by omega) (fun he => h5 ⟨_, List.mem_singleton.2 rfl, he.symm⟩)]
          · rw [List.mem_singleton.1 hp, plus_get _ (by rw [hP]; exact hbN), put_get_ne _ (by omega) (by simp only; omega), put_get_eq _ (by omega), rdCells_append]
          · rw [List.mem_singleton.1 hp]; exact Or.inr ⟨_, List.mem_singleton.2 rfl, rfl⟩
  · intro q hq
    unfold base22 at hq
    simp only [List.mem_cons, List.not_mem_nil, or_false] at hq
    rcases hq with rfl | rfl | rfl | rfl <;> rfl
  · intro m' H' hR hH hd hdead hmv hsz
    have hlk : H'.lock = 0 := hmv.lock
    have hsz : F.length + 7 + 2 ≤ H'.size := hsz
    have hd : H'.get (F.length + 7) = some .dfr := hd
    rw [hrun.2] at hR ⊢
    obtain ⟨lv, m2, rows, hl, rfl⟩ := hR
    simp only at hl
    have hr4 : H'.row 4 0 = some (m2, 62, 1, false, [.v (.int .i64 id), lv]) := get_row (hH (4, .cells 0 m2 62 1 false [intA id, lv]) (List.mem_append_left _ (by unfold base22; simp)))
    have hr2 : H'.row 2 0 = some (0, 62, 1, false, [.v (.int .i64 0), .v (.slice none 0 0)]) := get_row (hH (2, .cells 0 0 62 1 false [intA 0, .v (.slice none 0 0)]) (List.mem_append_left _ (by unfold base22; simp)))
    have hsl : slLen lv = some (.v (.int .i64 ((foundT 0 t u).length : Nat))) := by
      rcases hl with ⟨h0, rfl, -⟩ | ⟨b, v, -, rfl, -⟩
      · rw [h0]; rfl
      · rfl
    have hfl : lv.flat = true := by
      rcases hl with ⟨h0, rfl, -⟩ | ⟨b, v, -, rfl, -⟩ <;> rfl
    obtain ⟨m5, hst2⟩ : ∃ m5, storeCells H' 2 0 0 [.v (.int .i64 id), lv] = some (H'.put 2 (.cells 0 m5 62 1 false [.v (.int .i64 id), lv])) := by
      refine ⟨Nat.max 0 (boundL [.v (.int .i64 id), lv]), ?_⟩
      unfold storeCells
      rw [hr2]
      simp only
      rw [if_pos ⟨by omega, by simp, by simp [hfl]; rfl⟩]
      rfl
    have hP : (H'.put 2 (.cells 0 m5 62 1 false [.v (.int .i64 id), lv])).size = H'.size := put_sizeI _ (by omega)
    have hset := settle_eqN hP
    have hrowP : (H'.put 2 (.cells 0 m5 62 1 false [.v (.int .i64 id), lv])).row 2 0 = some (m5, 62, 1, false, [.v (.int .i64 id), lv]) := get_row (put_get_eq _ (by omega))
    have hkill : killAll [F.length + 1 + 1 + 1 + 1 + 1 + 1 + 1] (H'.put 2 (.cells 0 m5 62 1 false [.v (.int .i64 id), lv])) = some ((H'.put 2 (.cells 0 m5 62 1 false [.v (.int .i64 id), lv])).put (F.length + 7) .dead) := by
      show killAll [F.length + 7] _ = _
      unfold killAll
      rw [put_get_ne _ (by omega) (by omega), hd]
      show (if H'.lock ≤ F.length + 7 then killAll [] _ else none) = _
      rw [if_pos (by omega)]; rfl
    have hr2' : ((H'.put 2 (.cells 0 m5 62 1 false [.v (.int .i64 id), lv])).put (F.length + 7) .dead).row 2 0 = some (m5, 62, 1, false, [.v (.int .i64 id), lv]) := get_row ((put_get_ne _ (by omega) (by omega)).trans (put_get_eq _ (by omega)))
    have hrows : ∀ p ∈ rows, ((H'.put 2 (.cells 0 m5 62 1 false [.v (.int .i64 id), lv])).put (F.length + 7) .dead).get p.1 = some p.2 := fun p hp => by
      have h7 := hl.lo hp
      rw [put_get_ne _ (by omega) (by omega), put_get_ne _ (by omega) (by omega)]
      exact hH p (List.mem_append_right _ hp)
    have hlk2 : ((H'.put 2 (.cells 0 m5 62 1 false [.v (.int .i64 id), lv])).put (F.length + 7) .dead).lock = 0 := hlk
    clear hmv hdead hy hitems hall22 h52
    unfold res22
    by_cases hgt : 20 < (foundT 0 t u).length
    · have hgt' : (20 : Int) < ((foundT 0 t u).length : Nat) := by omega
      obtain ⟨m6, hst3⟩ : ∃ m6, storeCells H' 2 0 0 [.v (.int .i64 0), .v (.slice none 0 0)] = some (H'.put 2 (.cells 0 m6 62 1 false [.v (.int .i64 0), .v (.slice none 0 0)])) := by
        refine ⟨Nat.max 0 (boundL [.v (.int .i64 0), .v (.slice none 0 0)]), ?_⟩
        unfold storeCells
        rw [hr2]
        simp only
        rw [if_pos ⟨by omega, by simp, rfl⟩]
        rfl
      have hP3 : (H'.put 2 (.cells 0 m6 62 1 false [.v (.int .i64 0), .v (.slice none 0 0)])).size = H'.size := put_sizeI _ (by omega)
      have hset3 := settle_eqN hP3
      have hkill3 : killAll [F.length + 1 + 1 + 1 + 1 + 1 + 1 + 1] (H'.put 2 (.cells 0 m6 62 1 false [.v (.int .i64 0), .v (.slice none 0 0)])) = some ((H'.put 2 (.cells 0 m6 62 1 false [.v (.int .i64 0), .v (.slice none 0 0)])).put (F.length + 7) .dead) := by
        show killAll [F.length + 7] _ = _
        unfold killAll
        rw [put_get_ne _ (by omega) (by omega), hd]
        show (if H'.lock ≤ F.length + 7 then killAll [] _ else none) = _
        rw [if_pos (by omega)]; rfl
      have hr3 : ((H'.put 2 (.cells 0 m6 62 1 false [.v (.int .i64 0), .v (.slice none 0 0)])).put (F.length + 7) .dead).row 2 0 = some (m6, 62, 1, false, [.v (.int .i64 0), .v (.slice none 0 0)]) := get_row ((put_get_ne _ (by omega) (by omega)).trans (put_get_eq _ (by omega)))
      rw [if_pos hgt]
      simp -implicitDefEqProofs only [go_sem, ↓reduceIte, Int.reduceEq, Int.reduceLT, Int.reduceLE, List.reduceReplicate, intA, setT_nil, setT_cons, ↓boolP_bool, ↓iteB_true, ↓iteB_false, hr4, hr2, hsl, hgt', hst3, hset3, hkill3, hr3]
      rfl
    · have hgt' : ¬ (20 : Int) < ((foundT 0 t u).length : Nat) := by omega
      rw [if_neg hgt]
      simp -implicitDefEqProofs only [go_sem, ↓reduceIte, Int.reduceEq, Int.reduceLT, Int.reduceLE, List.reduceReplicate, intA, setT_nil, setT_cons, ↓boolP_bool, ↓iteB_true, ↓iteB_false, hr4, hr2, hsl, hgt', hst2, hset, hkill, hr2']
      generalize (H'.put 2 (.cells 0 m5 62 1 false [.v (.int .i64 id), lv])).put (F.length + 7) .dead = W at hrows hlk2 ⊢
      exact freeze22 hl hrows hlk2 id
end Go.Ev
namespace Go.Ev
open Go.Proofs
set_option maxRecDepth 100000
set_option linter.unusedSimpArgs false
attribute [local irreducible] Wp WpS
/-! ### the reference's All: the places of a text, in order -/
end Go.Ev
namespace Go.Ev
open Go.Proofs
set_option maxRecDepth 100000
set_option linter.unusedSimpArgs false
/-! ### from arguments of plain data to copies -/
end Go.Ev
namespace Go.Ev
open Go.Proofs
set_option maxRecDepth 100000
set_option linter.unusedSimpArgs false
attribute [local irreducible] Wp WpS
/-! ### the reference's words and places -/
end Go.Ev
namespace Go.Ev
open Go.Proofs Go.Sort
set_option maxRecDepth 100000
set_option linter.unusedSimpArgs false
attribute [local irreducible] Wp WpS
/-! ### the word of a place -/
/-! ### the places of a copy that are in doubt -/
end Go.Ev
namespace Go.Ev
open Go.Proofs Go.Sort
set_option maxRecDepth 100000
set_option linter.unusedSimpArgs false
attribute [local irreducible] Wp WpS
end Go.Ev
namespace Go.Ev
open Go.Proofs Go.Sort
set_option maxRecDepth 100000
set_option linter.unusedSimpArgs false
attribute [local irreducible] Wp WpS
/-! ### lists of copies: closed, or in memory -/
/-! ### memory behind which places are laid -/
structure MP (X : Heap) (ch : AV) (H : Heap) (ps : List P3) (out : AV) : Prop where
  lock : H.lock = X.lock
  size : X.size + 2 ≤ H.size
  low : ∀ b, b < X.size → H.get b = X.get b
  b1 : H.get X.size = some (.cells 0 0 24 1 false [ch])
  b2 : H.get (X.size + 1) = some (.cells 0 0 89 1 false [ch])
  done : (ps = [] ∧ out = .v (.slice none 0 0)) ∨ (ps ≠ [] ∧ ∃ b v, X.size + 2 ≤ b ∧ b < H.size ∧ out = .sl b v 0 ps.length none ∧ H.row b v = some (0, 26, 3, true, clP ps))
theorem MP.plus {X : Heap} {ch : AV} {H : Heap} {ps : List P3} {out : AV} (h : MP X ch H ps out) (E : List (Option AObj)) : MP X ch (H.plus E) ps out := by
  have hs := h.size
  refine ⟨h.lock, by rw [plus_size]; omega, fun b hb => (plus_get E (by omega)).trans (h.low b hb), (plus_get E (by omega)).trans h.b1, (plus_get E (by omega)).trans h.b2, ?_⟩
  rcases h.done with hd | ⟨h0, b, v, h1, h2, h3, h4⟩
  · exact Or.inl hd
  · exact Or.inr ⟨h0, b, v, h1, by rw [plus_size]; omega, h3, by rw [rowLo h2]; exact h4⟩
theorem MP.trim {X : Heap} {ch : AV} {H : Heap} {ps : List P3} {out : AV} (h : MP X ch H ps out) {n : Nat} (hn : X.size + 2 ≤ n) (hn2 : n ≤ H.size) (vs : List AV) (ms : List Nat) (hv : bound out ≤ boundL vs) : MP X ch (H.trim n vs ms) ps out := by
  refine ⟨trim_lock.trans h.lock, Nat.le_trans hn (trim_size' hn2), fun b hb => (trim_lo (by omega)).trans (h.low b hb), (trim_lo (by omega)).trans h.b1, (trim_lo (by omega)).trans h.b2, ?_⟩
  rcases h.done with hd | ⟨h0, b, v, h1, h2, rfl, h4⟩
  · exact Or.inl hd
  · unfold Heap.trim
    split
    · rename_i hq
      rw [Bool.and_eq_true, Bool.and_eq_true, Bool.and_eq_true, Nat.ble_eq] at hq
      have h5 := hq.1.1.1
      have hb : b < n := by simp only [bound] at hv; omega
      have hg := (takeH_get (H := H) hb).trans (row_of_get h4)
      exact Or.inr ⟨h0, b, v, h1, get_size hg, rfl, get_row hg⟩
    · exact Or.inr ⟨h0, b, v, h1, h2, rfl, h4⟩
theorem MP.more {X : Heap} {ch : AV} {H : Heap} {ps : List P3} {b v : Nat} (h : MP X ch H ps (.sl b v 0 ps.length none)) (h0 : ps ≠ []) (h1 : X.size + 2 ≤ b) (hb : b < H.size) (s : List P3) (n : Nat) (hn : n = ps.length + s.length) : MP X ch (H.put b (.cells (v + 1) 0 26 3 true (clP (ps ++ s)))) (ps ++ s) (.sl b (v + 1) 0 n none) := by
  have hs := h.size
  refine ⟨h.lock, by rw [put_sizeI _ hb]; omega, fun c hc => (put_get_ne _ (by omega) (by omega)).trans (h.low c hc), (put_get_ne _ (by omega) (by omega)).trans h.b1, (put_get_ne _ (by omega) (by omega)).trans h.b2, Or.inr ⟨fun e => h0 (List.append_eq_nil_iff.1 e).1, b, v + 1, h1, by rw [put_sizeI _ hb]; exact hb, by rw [hn, List.length_append], row_put_same hb⟩⟩
theorem MP.new {X : Heap} {ch : AV} {H : Heap} {ps : List P3} {out : AV} (h : MP X ch H ps out) {N : Nat} (hN : H.size = N) (E : List (Option AObj)) (k : Nat) (qs : List P3) (h0 : qs ≠ []) (hE : E[k]? = some (some (.cells 0 0 26 3 true (clP qs)))) : MP X ch (H.plus E) qs (.sl (N + k) 0 0 qs.length none) := by
  have hk := (List.getElem?_eq_some_iff.1 hE).1
  have hs := h.size
  refine ⟨h.lock, by rw [plus_size]; omega, fun b hb => (plus_get E (by omega)).trans (h.low b hb), (plus_get E (by omega)).trans h.b1, (plus_get E (by omega)).trans h.b2, Or.inr ⟨h0, N + k, 0, by omega, by rw [plus_size]; omega, rfl, ?_⟩⟩
  rw [rowP hN, hE]; rfl
end Go.Ev
namespace Go.Ev
open Go.Proofs Go.Sort
set_option maxRecDepth 100000
set_option linter.unusedSimpArgs false
attribute [local irreducible] Wp WpS
end Go.Ev
namespace Go.Ev
open Go.Proofs Go.Sort
set_option maxRecDepth 100000
set_option linter.unusedSimpArgs false
attribute [local irreducible] Wp WpS
end Go.Ev
namespace Go.Ev
open Go.Proofs
set_option maxRecDepth 100000
set_option linter.unusedSimpArgs false
attribute [local irreducible] Wp WpS
/-! ### the word at a place -/
/-! ### numbers and places -/
end Go.Ev
namespace Go.Ev
open Go.Proofs
set_option maxRecDepth 100000
set_option linter.unusedSimpArgs false
attribute [local irreducible] Wp WpS
/-! ### the number of a place -/
/-! ### the program's Number where there is no number -/
end Go.Ev
namespace Go.Ev
open Go.Proofs
set_option maxRecDepth 100000
set_option linter.unusedSimpArgs false
attribute [local irreducible] Wp WpS
/-! ### the words of a text, for bodies that lay memory -/
end Go.Ev
namespace Go.Ev
open Go.Proofs Go.Sort
set_option maxRecDepth 100000
set_option linter.unusedSimpArgs false
attribute [local irreducible] Wp WpS
/-! ### the places of each word -/
def strK (w : ByteArray) : AV := .v (.string w)
abbrev TbW := List (ByteArray × List P3)
/-- an entry of the map, and the row that its value leads to -/
def TabR (x : ByteArray × List P3) (e : AV × AV × Nat) (r : Nat × AObj) : Prop := e.1 = strK x.1 ∧ x.2 ≠ [] ∧ ∃ ver, e.2.1 = .sl r.1 ver 0 x.2.length none ∧ r.2 = .cells ver 0 26 3 true (clP x.2)
def TabM : TbW → List (AV × AV × Nat) → Fm → Prop
  | [], [], [] => True
  | x :: tb, e :: es, r :: rows => TabR x e r ∧ TabM tb es rows
  | _, _, _ => False
theorem TabM.app : ∀ {tb1 tb2 : TbW} {es1 es2 : List (AV × AV × Nat)} {r1 r2 : Fm}, TabM tb1 es1 r1 → TabM tb2 es2 r2 → TabM (tb1 ++ tb2) (es1 ++ es2) (r1 ++ r2)
  | [], _, [], _, [], _, _, h => h
  | _ :: _, _, _ :: _, _, _ :: _, _, h1, h2 => ⟨h1.1, h1.2.app h2⟩
  | [], _, _ :: _, _, _, _, h, _ => h.elim
  | [], _, [], _, _ :: _, _, h, _ => h.elim
  | _ :: _, _, [], _, _, _, h, _ => h.elim
  | _ :: _, _, _ :: _, _, [], _, h, _ => h.elim
theorem TabM.keys : ∀ {tb : TbW} {es : List (AV × AV × Nat)} {rows : Fm}, TabM tb es rows → es.map (·.1) = tb.map fun x => strK x.1
  | [], [], [], _ => rfl
  | x :: tb, e :: es, r :: rows, h => by rw [List.map_cons, List.map_cons, h.1.1, h.2.keys]
  | [], _ :: _, _, h => h.elim
  | [], [], _ :: _, h => h.elim
  | _ :: _, [], _, h => h.elim
  | _ :: _, _ :: _, [], h => h.elim
theorem TabM.split (w : ByteArray) : ∀ {tb : TbW} {es : List (AV × AV × Nat)} {rows : Fm}, TabM tb es rows → w ∈ tb.map (·.1) →
    ∃ tb1 x tb2 es1 e es2 r1 r r2, tb = tb1 ++ x :: tb2 ∧ x.1 = w ∧ w ∉ tb1.map (·.1) ∧ es = es1 ++ e :: es2 ∧ rows = r1 ++ r :: r2 ∧ TabM tb1 es1 r1 ∧ TabR x e r ∧ TabM tb2 es2 r2
  | [], [], [], _, hm => by simp at hm
  | x :: tb, e :: es, r :: rows, h, hm => by
    by_cases hx : x.1 = w
    · exact ⟨[], x, tb, [], e, es, [], r, rows, rfl, hx, by simp, rfl, rfl, trivial, h.1, h.2⟩
    · have hm2 : w ∈ tb.map (·.1) := by
        simp only [List.map_cons, List.mem_cons] at hm
        exact hm.resolve_left fun e => hx e.symm
      obtain ⟨tb1, x', tb2, es1, e', es2, r1, r', r2, rfl, h2, h3, rfl, rfl, h4, h5, h6⟩ := h.2.split w hm2
      refine ⟨x :: tb1, x', tb2, e :: es1, e', es2, r :: r1, r', r2, rfl, h2, ?_, rfl, rfl, ⟨h.1, h4⟩, h5, h6⟩
      simp only [List.map_cons, List.mem_cons, not_or]
      exact ⟨fun e => hx e.symm, h3⟩
  | [], _ :: _, _, h, _ => h.elim
  | [], [], _ :: _, h, _ => h.elim
  | _ :: _, [], _, h, _ => h.elim
  | _ :: _, _ :: _, [], h, _ => h.elim
/-! what is found in a map -/
end Go.Ev
namespace Go.Ev
open Go.Proofs Go.Sort
set_option maxRecDepth 100000
set_option linter.unusedSimpArgs false
attribute [local irreducible] Wp WpS
/-! ### the map of places by words -/
end Go.Ev
namespace Go.Ev
open Go.Proofs Go.Sort
set_option maxRecDepth 100000
set_option linter.unusedSimpArgs false
attribute [local irreducible] Wp WpS
/-! ### a call of placesByWord -/
end Go.Ev
namespace Go.Ev
open Go.Proofs Go.Sort
set_option maxRecDepth 100000
set_option linter.unusedSimpArgs false
attribute [local irreducible] Wp WpS
/-! ### Places -/
end Go.Ev
namespace Go.Ev
open Go.Proofs
set_option maxRecDepth 100000
set_option linter.unusedSimpArgs false
attribute [local irreducible] Wp WpS
/-! ### the reference's Places -/
end Go.Ev
namespace Go.Ev
open Go.Proofs Go.Sort
set_option maxRecDepth 100000
set_option linter.unusedSimpArgs false
attribute [local irreducible] Wp WpS
instance lawBA : LawfulBEq ByteArray where
  eq_of_beq {a b} h := by
    obtain ⟨a⟩ := a
    obtain ⟨b⟩ := b
    have h' : (a == b) = true := h
    rw [eq_of_beq h']
  rfl {a} := by
    obtain ⟨a⟩ := a
    show (a == a) = true
    exact beq_self_eq_true a
/-! ### rows of words -/
def clW (ws : List ByteArray) : List AV := ws.map strK
/-! ### each word once -/
/-! the keys of the map -/
/-! what is taken out of a map -/
end Go.Ev
namespace Go.Ev
open Go.Proofs Go.Sort
set_option maxRecDepth 100000
set_option linter.unusedSimpArgs false
attribute [local irreducible] Wp WpS
/-! ### sorting words -/
end Go.Ev
namespace Go.Ev
open Go.Proofs Go.Sort
set_option maxRecDepth 100000
set_option linter.unusedSimpArgs false
attribute [local irreducible] Wp WpS
/-! ### Vocabulary -/
/-! what memory holds while the words are gone through -/
def L20 (D : Nat) (l : List ByteArray) (lv : AV) (m3 : Nat) (rows : Fm) : Prop := (l = [] ∧ lv = .v (.slice none 0 0) ∧ rows = []) ∨ ∃ b v, l ≠ [] ∧ lv = .sl b v 0 l.length none ∧ D ≤ b ∧ b < m3 ∧ rows = [(b, .cells v 0 9 1 true (clW l))]
theorem L20.lo {D : Nat} {l : List ByteArray} {lv : AV} {m3 : Nat} {rows : Fm} (h : L20 D l lv m3 rows) {p : Nat × AObj} (hp : p ∈ rows) : D ≤ p.1 ∧ p.1 < m3 := by
  rcases h with ⟨-, -, rfl⟩ | ⟨b, v, -, -, h5, hb, rfl⟩
  · exact nomatch hp
  · rw [List.mem_singleton.1 hp]; exact ⟨h5, hb⟩
end Go.Ev
namespace Go.Ev
open Go.Proofs
set_option maxRecDepth 100000
set_option linter.unusedSimpArgs false
attribute [local irreducible] Wp WpS
end Go.Ev
namespace Go.Ev
open Go.Proofs
set_option maxRecDepth 100000
set_option linter.unusedSimpArgs false
attribute [local irreducible] Wp WpS
/-! ### the reference's Vocabulary -/
end Go.Ev
namespace Go.Ev
open Go.Proofs
set_option maxRecDepth 100000
set_option linter.unusedSimpArgs false
attribute [local irreducible] Wp WpS
/-! ### the program's Words, Places and Vocabulary, for all texts -/
end Go.Ev
namespace Go.Ev
open Go.Proofs
set_option maxRecDepth 100000
set_option linter.unusedSimpArgs false
/-! ### lists of copies from arguments of plain data -/
end Go.Ev
namespace Go.Ev
open Go.Proofs Go.Sort
set_option maxRecDepth 100000
set_option linter.unusedSimpArgs false
attribute [local irreducible] Wp WpS
/-! ### lists of places that are the same -/
/-! ### rows of copies -/
end Go.Ev
